import Derived.Deep.RegionHeld3
import Derived.StillTail
import Derived.Test.YtnghccjoicmabaaGreatDoorKindJ
import Derived.Test.YtnghccjoicmabaaGreatDoorEye5J
import Derived.Lib.AppendStr
set_option maxRecDepth 100000
set_option maxHeartbeats 8000000
open Go renaming Calls->Adg,TypeId->Ad5,Value->X,World->Q,maxLen->Aed,undef->Aet
open Go.Act renaming eval->Aef
open Go.Ending renaming returned->F
open Go.IntKind renaming i64->C
open Go.Proofs.Tryz renaming prog->Acs
open Go.Region renaming ready->Aek
open Go.Value renaming agg->T,bool->A,iface->Z,int->V,pointer->J,slice->W,string->S,tuple->R
open Go.World renaming news_of_block->Adu
open Go.World.ownsRow renaming cellAt->Aen
open List renaming range->Aev
namespace Go.Proofs.YtnghccjoicmabaaGreatDoor
variable{wc:Array Oper}{w3:Region.Mode}{w6:Exit->Act->World->Prop}{w v b:Nat}{vv:Act->World->Prop}{wj sp:Act}{n p:World}{nz:Array Bool}{wp:Program}{vo:World->Prop}{t:List Nat}{w4:Oper}{sh:Operand->Value}
def FM(d:Region.Mode)(c:Array Oper):Bool:=(Aev c.size).all λb=>match c[b]? with|some o=>o.after.all λa=>!Region.binds d a||decide (a.on<b)|none=>false
theorem Ph(f:FM w3 wc=true){b:Nat}{e:Oper}(d:wc[b]?=some e):∀a∈e.after,Region.binds w3 a=true->a.on<b:=by
 intro a g i;have c:=Acq.1 f b (Afh.2 (Aeq.1 d).1);rw[d]at c;have h:=Array.all_eq_true'.1 c a g;grind
theorem C1(g:FM w3 wc=true){c:Array Bool}(n:c.size=wc.size):∀b,b<wc.size->c.getD b true=false->Aek w3 wc c≠[]:=by
 intro b;induction b using Nat.strongRecOn with
 |_ b ih=>
  intro i k;have d:=Ab7 i;by_cases e:∀a∈wc[b].after,Region.binds w3 a=true->c.getD a.on false=true
  ·have m:=mem_ready.2 ⟨k,_,d,e⟩;grind
  ·have j:∃a,a∈wc[b].after/\Region.binds w3 a=true/\c.getD a.on false=false:=by
    grind
   let ⟨a,h,f,o⟩:=j
   have l:=Ph g d a h f;grind
theorem PH(d:FM w3 wc=true){b:Array Bool}(f:b.size=wc.size)(c:Aek w3 wc b=[]):∀a,a<wc.size->b.getD a false=true:=by
 intro a e;cases hx:b.getD a false with
 |true=>rfl
 |false=>exact absurd c (C1 d f a e (getD_in (by omega) hx))
def HP(c:Program)(g:Array Oper)(b:Exit->Act->Q->Prop)(f d:Nat):Exit->Act->Q->Prop
 |.normal,a,w=>wpOps c g b (List.range' f d) a w
 |e,a,w=>b e a w
theorem Ku{c:Program}(a:wpOp c wc (HP c wc w6 w v) b vv wj n):wpOp c wc w6 b vv wj n:=by
 unfold wpOp at*;split
 ·grind
 ·rename_i h e
  simp[e]at a;split
  ·rename_i g
   simp only[g,if_true]at a;rcases a with a|a
   ·refine .inl ?_;unfold Oper.wp at*;generalize (execOp wj.eval h).run c n=r at*;cases r with
    |ok nx w'=>
     cases nx<;>simp[Oper.upon]at a ⊢<;>first|exact a|exact Calls.mono a (λd i f=>by cases d<;>exact f)
    |halt x w'=>cases x<;>simp[Oper.upon]at a ⊢<;>exact a
   ·exact .inr a
  grind
def A7:Array Bool->Nat->Nat->Array Bool
 |l,_,0=>l
 |l,n,k+1=>(A7 l (n+1) k).setIfInBounds n true
theorem Ec:∀a c b,(A7 b c a).size=b.size
 |0,_,_=>rfl
 |a+1,c,b=>by rw[A7,Afe,Ec a]
theorem Dt:∀e d c b a,b<d->(A7 c d e).getD b a=c.getD b a
 |0,_,_,_,_,_=>rfl
 |e+1,d,c,b,a,h=>by rw[A7,getD_set_ne a (by omega),Dt e (d+1) c b a (by omega)]
theorem GO:∀d b e a c,b<=a->a<b+d->a<e.size->(A7 e b d).getD a c=true
 |0,_,_,_,_,h1,h2,_=>by omega
 |d+1,b,e,a,c,h1,h2,h3=>by
  rw[A7];by_cases f:b=a
  ·subst f;rw[Ad2,Abc (by rw[Ec];exact h3)];rfl
  ·rw[getD_set_ne c f,GO d (b+1) e a c (by omega) (by omega) h3]
theorem MI(a:nz.getD b false=true):(A7 nz v w).getD b false=true:=by
 induction w generalizing v with
 |zero=>exact a
 |succ w ih=>exact getD_set_true ih
theorem Fo:∀c b d a,a<b->(A7 d b c).setIfInBounds a true=A7 (d.setIfInBounds a true) b c
 |0,_,_,_,_=>rfl
 |c+1,b,d,a,h=>by rw[A7,A7,Array.setIfInBounds_comm _ _ (by omega),Fo c (b+1) d a (by omega)]
theorem GB(h:b<w)(c:b∈Aek w3 wc nz):b∈Aek w3 wc (A7 nz w v):=by
 let ⟨d,j,i,e⟩:=mem_ready.1 c
 exact mem_ready.2 ⟨by rw[Dt _ _ _ _ _ h];exact d,j,i,λa g f=>MI (e a g f)⟩
theorem N3(x:FM w3 wc=true):∀e a c h j,a+e=wc.size->Region.chainB w3 wc a=true->c.size=wc.size->(∀b,b<a->c.getD b true=true)->(∀g,a<=g->g<wc.size->c.getD g true=false)->
 wpOps wp wc w6 (List.range' a e) h j->∀d,e<=d->wpAny wp w3 wc w6 d c h j:=by
 intro e;induction e with
 |zero=>
  intro a c h j D _ m w _ i d _;refine wpAny_done ?_ i d;cases hr:Aek w3 wc c with
  |nil=>rfl
  |cons n l=>
   have p:n∈Aek w3 wc c:=by rw[hr];simp
   obtain⟨G,H,q,-⟩:=mem_ready.1 p;grind
 |succ e ih=>
  intro a c h j D o m w r i d N;obtain⟨k,rfl⟩:∃k,d=k+1:=⟨d-1,by omega⟩;rw[List.range'_succ,wpOps_cons]at i;refine⟨λu=>absurd u (C1 x m a (by omega) (r a .refl (by omega))),λb y=>?_⟩;let ⟨G,H,q,ab⟩:=mem_ready.1 y
  have B:=(Aeq.1 q).1;have O:a<=b:=by
   grind
  obtain rfl:b=a:=by
   rcases Abo a b with v|v
   ·exfalso;have f:=Acq.1 o b (Afh.2 B);simp[Bool.or_eq_true,decide_eq_true_eq]at f;rcases f with f|f
    ·omega
    ·let ⟨ac,U,K,M,L,Y⟩:=Region.waitsFor_spec f
     grind
   ·omega
  refine wpOp_mono (λs I t=>ih (b+1) _ s I (by omega) ?_ (by simpa using m) (λn p=>?_) (λg aa E=>?_) t k (by omega)) i
  ·unfold Region.chainB at o ⊢;grind
  ·by_cases z:b=n
   ·simp_all
   ·rw[getD_set_ne true z];grind
  ·rw[getD_set_ne true (by omega)];exact r g (by omega) E
theorem Qc(B:w+(v+1)=wc.size)(n:FM w3 wc=true)(H:Region.sinkB w3 wc w=true)(p:Region.chainB w3 wc w=true):∀(e:Nat) (a:Array Bool) (d:Act) (f:Q),HeadInv w3 wc w a->
 wpAnyH wp w3 wc (HP wp wc w6 w (v+1)) vo e (A7 a w (v+1)) d f->wpAny wp w3 wc w6 (e+(v+1)) a d f:=by
 have r:∀e a d f,HeadInv w3 wc w a->(∀b,b<w->a.getD b true=true)->HP wp wc w6 w (v+1) .normal d f->wpAny wp w3 wc w6 (e+(v+1)) a d f:=
  λe a d f c g t=>N3 n (v+1) w a d f B p c.size g c.tail t _ (by omega)
 have E:∀a,HeadInv w3 wc w a->(∀b,b<w->a.getD b true=true)->Aek w3 wc (A7 a w (v+1))=[]:=by
  intro a c g;cases hr:Aek w3 wc (A7 a w (v+1)) with
  |nil=>rfl
  |cons j l=>
   have z:j∈Aek w3 wc (A7 a w (v+1)):=by rw[hr];simp
   obtain⟨k,O,G,-⟩:=mem_ready.1 z;have N:=(Aeq.1 G).1;by_cases q:j<w
   ·rw[Dt _ _ _ _ _ q,g j q]at k;cases k
   ·rw[GO _ _ _ _ _ (by omega) (by omega) (by rw[c.size];omega)]at k;cases k
 have I:∀a,HeadInv w3 wc w a->Aek w3 wc a≠[]:=λa c=>C1 n c.size w (by omega) (c.tail w .refl (by omega));intro e;induction e with
 |zero=>
  intro a d f c h;refine r 0 a d f c (λb i=>?_) h.2;cases hx:a.getD b true with
  |true=>rfl
  |false=>exact absurd h.1 (C1 n (by rw[Ec];exact c.size) b (by omega) (by rw[Dt _ _ _ _ _ i];exact hx))
 |succ e ih=>
  intro a d f c h;by_cases g:∀b,b<w->a.getD b true=true
  ·exact r (e+1) a d f c g (h.1 (E a c g))
  ·have D:∃b,b<w/\a.getD b true=false:=by
    grind
   let ⟨L,y,K⟩:=D
   rw[show e+1+(v+1)=(e+(v+1))+1 by omega];refine⟨λx=>absurd x (I a c),λb i=>?_⟩;have o:b<w:=by
    rcases Abo b w with m|m
    ·exact m
    ·exact absurd i (tail_waits H p (by omega) c _ L rfl y K b m)
   refine Ku (wpOp_mono (λs M u=>?_) (h.2 b (GB o i)));refine ih _ s M (c.set i o) ?_;rw[<-Fo _ _ _ _ o];exact u.2
theorem N5(c:Nat):HeadInv w3 wc c (Array.replicate wc.size false):=by
 refine⟨by simp,λf g d a=>?_,λh e b=>by simp[b]⟩;rw[getD_replicate_false]at a;cases a
theorem ED{b:Program}{S:Q->Prop}(a c:Nat)(h:b.follows .mixedOrders=true)(i:a+(c+1)=wc.size)(g:FM .any wc=true)(j:Region.sinkB .any wc a=true)(f:Region.chainB .any wc a=true)(e:S n.drew)(d:S n.drew->wpAnyH b .any wc (HP b wc w6 a (c+1)) S a (A7 (Array.replicate wc.size false) a (c+1)) wj n.drew):(Code.region w wc true).wp b w6 wj n:=by
 refine wp_region_any h ?_;have k:=Qc i g j f a (Array.replicate wc.size false) wj n.drew (N5 a) (d e);simp_all
theorem count_set:∀(a:List Bool) i,a[i]?=some false->(a.set i true).count false+1=a.count false
 |[],i,h=>by simp at h
 |b::a,0,h=>by grind
 |b::a,i+1,h=>by
  grind
theorem PW(x:FM w3 wc=true)(g:Array Bool->Act->Q->Prop)(z:∀a c d b f,g a c d->wc[b]?=some f->a.getD b true=false->(∀r∈f.after,Region.binds w3 r=true->a.getD r.on false=true)->wpOp wp wc w6 b (λk i=>vo i/\g (a.setIfInBounds b true) k i) c d)(t:∀a c d,g a c d->(∀b,b<wc.size->a.getD b false=true)->w6 .normal c d):
 ∀e a c d,a.size=wc.size->a.toList.count false<=e->g a c d->wpAnyH wp w3 wc w6 vo e a c d:=by
 intro e;induction e with
 |zero=>
  intro a c d p w h;have m:∀b,b<wc.size->a.getD b false=true:=by
   intro b u;cases hx:a.getD b false with
   |true=>rfl
   |false=>
    have D:false∈a.toList:=by
     have n:b<a.size:=by omega
     have:a[b]=false:=by simp_all
     grind
    grind
  refine⟨?_,t _ _ _ h m⟩;cases hr:Aek w3 wc a with
  |nil=>rfl
  |cons j l=>
   have y:j∈Aek w3 wc a:=by rw[hr];simp
   obtain⟨q,f,o,-⟩:=mem_ready.1 y;grind
 |succ e ih=>
  intro a c d p w h;refine⟨λv=>t _ _ _ h (PH x p v),λb u=>?_⟩;let ⟨q,f,o,m⟩:=mem_ready.1 u
  refine wpOp_mono (λk i s=>⟨s.1,ih _ k i (by simpa using p) ?_ s.2⟩) (z a c d b f h o q m);have n:b<a.size:=by have:=(Aeq.1 o).1;omega
  have B:=count_set a.toList b (by
   rw[Ag5,Ab7 n];simpa[n]using q)
  rw[Array.toList_setIfInBounds];omega
structure Bh (c:List Nat) (b a:Act):Prop where
 defers:a.defers=b.defers
 size:a.tmps.size=b.tmps.size
 it:∀k,k∉c->a.tmps[k]?=b.tmps[k]?
theorem Bh.refl(b:List Nat)(a:Act):Bh b a a:=⟨rfl,rfl,λ_ _=>rfl⟩
theorem Bh.put{a:Act}(b:Bh t wj a){c:Nat}(h:c∈t)(f:X):Bh t wj (a.put (some c) f):=
 ⟨b.defers,by rw[<-b.size];exact Afe,λe d=>by
  rw[<-b.it e d];exact Array.getElem?_setIfInBounds_ne (λg=>d (by grind))⟩
theorem Bh.eval(b:Bh t wj sp){a:Nat}(c:a∉t):sp.eval (.tmp a)=wj.eval (.tmp a):=by
 show sp.tmps.getD a Aet=wj.tmps.getD a Aet;rw[Ad2,Ad2,b.it a c]
theorem A4(b:w<wj.tmps.size)(a:X):(wj.put (some w) a).eval (.tmp w)=a:=by
 show(wj.tmps.setIfInBounds w a).getD w Aet=a;simp_all
theorem CX(b:w≠v)(a:X):(wj.put (some w) a).eval (.tmp v)=wj.eval (.tmp v):=by
 show(wj.tmps.setIfInBounds w a).getD v Aet=wj.tmps.getD v Aet;simp_all
theorem Bh.first(a:Bh (w::t) wj sp):Bh t (wj.put (some w) (sp.eval (.tmp w))) sp:=by
 refine⟨a.defers,by rw[a.size];exact Afe.symm,λb f=>?_⟩;show _=(wj.tmps.setIfInBounds w (sp.eval (.tmp w)))[b]?;by_cases c:w=b
 ·subst c;by_cases d:w<wj.tmps.size
  ·rw[Abc d];show _=some (sp.tmps.getD w Aet);have e:w<sp.tmps.size:=by rw[a.size];omega
   simp_all
  ·rw[Ahs (by rw[a.size];omega),Ahs (by grind)]
 ·rw[Array.getElem?_setIfInBounds_ne c];exact a.it b (λg=>by grind)
theorem Ef:∀{D:List Nat} {b a:Act},Bh D b a->a=D.foldl (λd c=>d.put (some c) (a.eval (.tmp c))) b
 |[],b,a,h=>by
  let ⟨i,e⟩:=b
  let ⟨g,c⟩:=a
  obtain rfl:c=e:=h.defers;obtain rfl:g=i:=Array.ext_getElem? λf=>h.it f nofun;rfl
 |c::D,b,a,h=>Ef (D:=D) h.first
theorem Gl{c g:Type}{f:c->g}:∀{l:List c},(l.map f).Nodup->∀{a b:c},a∈l->b∈l->f a=f b->a=b
 |[],_,_,_,h,_,_=>by cases h
 |x::l,hn,a,b,ha,hb,he=>by
  rw[Aeg,Ahd]at hn;rcases Ady.1 ha with i|d
  ·grind
  ·rcases Ady.1 hb with j|e
   ·grind
   ·exact Gl hn.2 d e he
theorem Q0(a:wpOp wp wc w6 w (wpOp wp wc w6 (w+1) (wpOp wp wc w6 (w+2) (w6 .normal))) wj n):HP wp wc w6 w (2+1) .normal wj n:=by
 show wpOps wp wc w6 [w,w+1,w+1+1] wj n;refine wpOp_mono (λwj n a=>?_) a;refine wpOp_mono (λwj n a=>?_) a;exact wpOp_mono (λwj n a=>a) a
theorem AQ{i d:Nat}{v:X}(h:wc[i]?=some w4)(f:w4.dst=some d)(k:Region.noSelect wc=true)(g:Region.free w3 wc nz i=true)(j:(Aek w3 wc nz).contains i=true)(c:∀a wj n,w6 (.panic a) (wj.put (some d) v) n->w6 (.panic a) wj n)(l:YieldsIf wp wc vo w4 v wj)(e:vo n)(b:wpAnyH wp w3 wc w6 vo w (nz.setIfInBounds i true) (wj.put (some d) v) n):wpAnyH wp w3 wc w6 vo (w+1) nz wj n:=by
 rw[<-f]at c b;exact wpAnyH_take h k g j c l e b
theorem BG(c f:Operand)(a:Ad5)(h:w4.op=.call {callee:=.builtin .append,args:=#[c,f],argTypes:=#[a,a]}){d e b:X}(i:sh c=d)(j:sh f=e)(g:(Builtin.append_ #[a,a] w4.type #[d,e]).run wp n=.ok b p):(execOp sh w4).run wp n=.ok (.value b) p:=by
 unfold execOp;simp only[h,resolve,invoke,builtin,Sem.run_bind,Sem.run_pure,Result.andThen_ok,Acp,Aeg,Aez,i,j,g]
theorem Sq(i:List Nat){c e:Nat}{f:Oper}{v:X}{h:Nat}{d:Array Bool}{a:Act}{b:Q}(_:i.find? (λs=>!(d.getD s true))=some c)(o:wc[c]?=some f)(m:f.dst=some e)(q:Region.noSelect wc=true)(n:Region.free w3 wc d c=true)(p:(Aek w3 wc d).contains c=true)(k:∀g a b,w6 (.panic g) (a.put (some e) v) b->w6 (.panic g) a b)(r:YieldsIf wp wc vo f v a)(l:vo b)(j:wpAnyH wp w3 wc w6 vo h (d.setIfInBounds c true) (a.put (some e) v) b):wpAnyH wp w3 wc w6 vo (h+1) d a b:=AQ o m q n p k r l j
end Go.Proofs.YtnghccjoicmabaaGreatDoor
namespace Go.Proofs.YtnghccjoicmabaaGreatDoor
open Go.RowKit Go.Sort
variable{n:World}{o:Nat->Addr}{we:Int}{w v b d:Nat}{wc:Array Oper}{sg:List Oper}{w4:Oper}{wj:Act}{w6:Exit->Act->World->Prop}
theorem SR(a:Q):Adg Acs 17 #[.nilIface] a λb c=>b=F (T #[V C 0,V C 0])/\Below a.heap.size a c:=by
 go_enter Tryz.func17,Tryz.ntmps17;go_wp2_with (first|(refine(YK _ _).mono ?_;rintro b d ⟨rfl,rfl⟩))
 refine Adc (v:=T #[V C 0,V C 0]) (by simp[results,Tryz.results17,go_sem]) rfl ?_;exact⟨rfl,bA.alloc (by simp) _⟩
structure Hit (a c:Q) (d:Nat) (e f:Int):Prop where
 c1:c.cell? ⟨d,1,none⟩=some (V C e)
 c2:c.cell? ⟨d,2,none⟩=some (V C f)
 old:∀b o,b<a.heap.size->b≠d->c.cell? ⟨b,o,none⟩=a.cell? ⟨b,o,none⟩/\c.frozen? ⟨b,o,none⟩=a.frozen? ⟨b,o,none⟩
 below:∀B,B<=d->B<=a.heap.size->Below B a c
theorem Vz(k:X)(h i:Int)(b:Nat)(r s t:X)(a:Q)(E:a.cell? ⟨18,0,none⟩=some (Z 210 (T #[J (some ⟨26,74,none⟩)])))(H:a.cell? ⟨b,0,none⟩=some r)(u:a.cell? ⟨b,1,none⟩=some s)(v:a.cell? ⟨b,2,none⟩=some t)(y:a.frozen? ⟨b,0,none⟩=false)(z:a.frozen? ⟨b,1,none⟩=false)(B:a.frozen? ⟨b,2,none⟩=false)(G:k.oneCell'=true):
 Adg Acs 30 #[Z 107 (T #[k,V C h,V C i]),Z 109 (J (some ⟨b,0,none⟩))] a λx w=>x=F (A true)/\Hit a w b h i:=by
 refine(Zt k h i b r s t a E H u v y z B G).mono ?_;rintro g w ⟨rfl,rfl⟩;refine⟨rfl,?_⟩;have q:Below a.heap.size a (VJ a ⟨b,0,none⟩):=(bA.alloc (by simp) _).alloc (by simp;omega) _;have e:Below a.heap.size a ((VJ a ⟨b,0,none⟩).alloc (.cells #[k,V C h,V C i] 107)):=q.alloc q.size _;have j:∀{c d f:Nat},d≠f->(⟨c,d,none⟩:Addr)≠⟨c,f,none⟩:=λl g=>l (congrArg Addr.off g);have o:∀{c d f:Nat},c≠b->(⟨b,f,none⟩:Addr)≠⟨c,d,none⟩:=λl g=>l (congrArg Addr.block g).symm;refine⟨?_,?_,λc d p n=>⟨?_,?_⟩,λI m D=>?_⟩
 ·rw[Acy _ _ _ _ (j (by decide))];exact Ac6 _ _ _ (by rw[Acy _ _ _ _ (j (by decide))];exact Aa e u)
 ·exact Ac6 _ _ _ (by rw[Acy _ _ _ _ (j (by decide)),Acy _ _ _ _ (j (by decide))];exact Aa e v)
 ·rw[Acy _ _ _ _ (o n),Acy _ _ _ _ (o n),Acy _ _ _ _ (o n)];exact(FA e).1 c d p
 ·simp;exact(FA e).2 c d p
 ·exact(((e.mono D).setCell m _).setCell m _).setCell m _
theorem Iv(i:Ck n o)(p:Addr)(b c:Int):Adg Acs 17 #[M8 p b c] n λh s=>h=F (T #[V C b,V C c])/\Below n.heap.size n s:=by
 have g:Hid (∀j d,Below n.heap.size n ((n.alloc j).alloc d)):=λj d=>bA.alloc (by simp) _;have t:Hid (∀d,P2 ((n.alloc (.cells #[V C 0,V C 0] 79)).alloc d) n.heap.size):=λd=>⟨by simp,by simp,by simp,by simp⟩;have l:Hid (n.cell? ⟨18,0,none⟩=some (Z 210 (T #[J (some ⟨26,74,none⟩)]))):=i.et;clear i;unfold M8;go_enter Tryz.func17,Tryz.ntmps17;go_wp2_with (first|(go_at_call 30;refine(Vz _ b c _ .nilIface (V C 0) (V C 0) _ (Aa (g.out _ _) l.out) (by simp) (by simp) (by simp) (by simp) (by simp) (by simp) rfl).mono ?_;rintro h f ⟨rfl,a⟩;have u:=a.c1;have w:=a.c2;have e:P2 f n.heap.size:=⟨by rw[(a.old _ 0 (by simp;omega) (by omega)).1];simp,by rw[(a.old _ 1 (by simp;omega) (by omega)).1];simp,by rw[(a.old _ 0 (by simp;omega) (by omega)).2];simp,by rw[(a.old _ 1 (by simp;omega) (by omega)).2];simp⟩;let ⟨x,y,z,B⟩:=id e;have m:Hid (P2 f n.heap.size):=e;have k:Hid (Below n.heap.size n f):=(g.out _ _).trans (a.below _ (by omega) (by simp;omega));clear e a))
 let ⟨q,r⟩:=m.out.put (V C b) (V C c)
 refine Adc (v:=T #[V C b,V C c]) (by simp[results,Tryz.results17,go_sem,q,r]) rfl ?_;exact⟨rfl,(k.out.setCell .refl _).setCell .refl _⟩
abbrev cu(b:List UInt8):List X:=b.map λa=>Value.int .u8 (a.toNat:Int)
theorem Tryz.eW:(Acs.info? 5).map (λa=>(a.zero,a.size,a.bytes))=some (some (V .u8 0),1,1):=rfl
theorem Oz:ET 141 5 1 1:=.of Tryz.underlying141 Tryz.eW rfl .refl (by omega)
theorem GS(a b:List UInt8):cu (a++b)=cu a++cu b:=Adq
theorem Mx(b:List UInt8):∀a∈cu b,a.oneCell'=true:=λa c=>by
 obtain⟨d,-,rfl⟩:=Adj.1 c;rfl
theorem Qt(a:0<=we)(b:we<256):[Value.int .u8 we]=cu [UInt8.ofNat we.toNat]:=by
 simp;omega
def bAq(d:X)(c:Nat):As:=⟨vB d,λh=>∃a:List UInt8,a.length=c/\h.ownsRow 0 5 1 d c (cu a),λ⟨_,_,b⟩ _ g=>.cS b g,λ⟨a,e,b⟩ _ f=>⟨a,e,Az b f⟩⟩
def aF(g:X)(e:Nat):As:=⟨vB g,λi=>∃d:List UInt8,d.length=e/\(i.ownsRow 0 5 1 g e (cu d)\/∃c fr,g=W (some ⟨c,0,none⟩) e e/\i.heap[c]?=some (.cells (cu d).toArray 5 fr)),λ⟨_,_,a⟩ j f=>a.elim (λa=>.cS a f) λ⟨c,fr,b,a⟩=>by
 rw[b,An]at f;obtain rfl:=Ac9.1 f;exact⟨_,a,rfl⟩,λ⟨d,b,a⟩ _ h=>⟨d,b,a.imp (λa=>Az a h) λ⟨c,fr,b,a⟩=>⟨c,fr,b,by rw[h c (by rw[b,An];simp)];exact a⟩⟩⟩
def ZO(h:Q)(i e:Nat)(g:X)(a:Nat)(b:List X):Prop:=h.ownsRow 0 i e g a b\/∃d,g=W (some d) a a/\b.length=a*e/\∀c f,b[c]?=some f->h.cell? (d.add c)=some f
theorem Wi{ty:Nat}(i:ET w v b d){j:Q}{r:X}{g:Nat}{t n:List X}(x:ZO j v b r g t){L o c p:Nat}(q:j.ownsRow L v b (W (some ⟨o,0,none⟩) c p) c n)(N:∀ae∈n,ae.oneCell'=true)(U:0<c)(Y:g+c<=10000000000):
 ∃f e k,(Builtin.append_ #[w,w] ty #[r,W (some ⟨o,0,none⟩) c p]).run Acs j=.ok (W (some ⟨f,0,none⟩) (g+c) e) k/\IY j v b r (W (some ⟨f,0,none⟩) (g+c) e) (g+c) (t++n) k:=by
 let ⟨I,K,z,B,D,E,G⟩:=i.i
 have af:=Nat.mul_le_mul Y i.b;rcases x with x|⟨ab,rfl,aa,O⟩
 ·obtain⟨f,e,k,y,m,a,ac,ad⟩:=run_append_lies j w ty 0 v I K b d i.t z B D E G i.s r g t x ⟨o,0,none⟩ c p n q.1 (World.ownsRow.cells q rfl) N U (by unfold Aed;omega) (by omega) (Ac0 _) _ rfl;refine⟨f,e,k,y,m,⟨a.os,a.tape,a.output,a.size,λl h H=>a.block l h λv=>H (Ah.2 v.symm)⟩,λl h=>?_⟩;obtain rfl:=Ac9.1 h;exact⟨ac.imp Ah.2 λu=>Acb u.symm,ad⟩
 ·obtain⟨ai,k,y,m,a⟩:=run_append_arg_grows j w ty v I K b d i.t z B D E G i.s ab g g t aa O ⟨o,0,none⟩ c p n q.1 (World.ownsRow.cells q rfl) (by omega) (by unfold Aed;omega) (by omega);obtain⟨f,e,rfl,ag,ah⟩:=World.ownsRow.form m (by omega);refine⟨f,e,k,y,⟨m.1,m.2.imp id λ⟨f,e,M,v,_,u⟩=>⟨f,e,M,v,Ac0 _,u⟩⟩,⟨a.os,a.tape,a.output,a.size,λl h H=>a.block l h λv=>by cases v⟩,λl h=>?_⟩;rw[An]at h;grind
theorem Hq(o:ET w v b d){g:Q}{i:X}{c:Nat}{m j:List X}(B:ZO g v b i c m){n k a l:Nat}(G:g.ownsRow n v b (W (some ⟨k,0,none⟩) a l) a j){s x:Operand}(D:wj.eval s=i)(E:wj.eval x=W (some ⟨k,0,none⟩) a l)(t:w4.guard=none)(z:w4.op=.call {callee:=.builtin .append,args:=#[s,x],argTypes:=#[w,w]})(q:∀K∈j,K.oneCell'=true)(u:0<a)(y:c+a<=10000000000)(p:∀f e h,IY g v b i (W (some ⟨f,0,none⟩) (c+a) e) (c+a) (m++j) h->wpList Acs wc w6 sg (wj.put w4.dst (W (some ⟨f,0,none⟩) (c+a) e)) h):wpList Acs wc w6 (w4::sg) wj g:=by
 refine wpList_plain t λL r=>?_;let ⟨f,e,h,H,I⟩:=Wi (ty:=w4.type) o B G q u y
 unfold Oper.wp execOp;simp only[z,resolve,invoke,builtin,Sem.run_bind,Sem.run_pure,Result.andThen_ok,Acp,Aeg,Aez,D,E,H];exact r _ _ (p f e h I)
theorem M5{n k:Nat}{w:Q}(U:n<128 ^ (k+1))(ag:k<10)(M:n<18446744073709551616):Adg Acs 87 #[V .u64 n] w λe H=>(∃b m c,e=F (W (some ⟨b,0,none⟩) m c)/\0<m/\m<=k+1/\(bAq (W (some ⟨b,0,none⟩) m c) m).h H)/\Below w.heap.size w H:=by
 go_enter Tryz.func87,Tryz.ntmps87;go_wp2;go_loopw [0,3] (λt G wr=>∃(m a b q:Nat),t=V .u64 m/\m<18446744073709551616/\G=W (some ⟨b,0,none⟩) (a+1) q/\a<=k/\w.heap.size<=b/\Hid (m<128 ^ (k-a+1)/\(∃f:List UInt8,f.length=a/\wr.ownsRow 0 5 1 G (a+1) (cu f++[V .u8 ((m:Int) % 128)]))/\Below w.heap.size w wr)) (λt _ _=>(intOf t).toNat)
 case atStart=>
  refine⟨n,0,w.heap.size,1,rfl,M,rfl,Ac0 _,Acu _,U,⟨[],rfl,?_⟩,bA⟩;have d:=World.ownsRow_lit (base:=0) (e:=5) (size:=1) w #[V .u8 ((n:Int) % 128)] 1 (Ac0 _) (by unfold Aed;omega) rfl;simpa using d
 case round=>
  obtain⟨m,a,b,q,rfl,aj,rfl,ae,N,p⟩:=hrel;rename Q=>wB
  by_cases ai:m<128
  ·have O:(m:Int)<128:=by omega
   go_wp2;go_ret;obtain⟨-,⟨f,h,v⟩,g⟩:=p.out;refine⟨⟨b,a+1,q,rfl,by omega,by omega,f++[UInt8.ofNat ((m:Int) % 128).toNat],by simp[h],?_⟩,g⟩;rw[Qt (by omega) (by omega)]at v;rw[GS];exact v
  ·have O:¬(m:Int)<128:=by omega
   obtain⟨l,⟨f,h,i⟩,g⟩:=p.out;have ah:a<k:=by
    rcases Abo a k with d|d
    ·exact d
    ·rw[show k-a=0 by omega]at l;omega
   have ab:wB.cell? ⟨b,a,none⟩=some (V .u8 ((m:Int) % 128)):=by
    rw[i.cellAt _ (by omega)];simp[h]
   have ac:=i.frozenAt a;obtain⟨r,y⟩:=i.stored a (V .u8 ((m:Int) % 128+128));have D:(cu f++[Value.int .u8 ((m:Int) % 128)]).set a (V .u8 ((m:Int) % 128+128))=cu (f++[UInt8.ofNat ((m:Int) % 128+128).toNat]):=by
    rw[GS,Abb _ _ (by simp;omega),<-Qt (by omega) (by omega)];simp[h]
   rw[D]at r;have ad:=(Pj i).1;have K:=hid r;have Y:=hid y;have j:=hid g;have I:Hid (m / 128<128 ^ (k-(a+1)+1)):=by
    have e:k-a=k-(a+1)+1:=by omega
    rw[e,Nat.pow_succ]at l;exact(Nat.div_lt_iff_lt_mul (by omega)).2 l
   have al:(a:Int)<(a:Int)+1:=by omega
   have ak:(0:Int)<=(a:Int):=by omega
   clear g i r y D l p;go_wp2_with (first
    |(at_builtin;refine Cp Oz (K.out.alloc _) (Adp _ _) (m:=1) (c:=1) (s:=.tmp 24) (x:=.tmp 28) rfl (by simp[Aef];done) rfl rfl rfl (by intro am E;simp at E;subst E;rfl) (by omega) (by omega) ?_;intro u L an B;have o:=hid B;clear B))
   have z:=o.out.nb u (by rw[An];simp);rw[An]at z;refine⟨⟨m / 128,a+1,u,L,by simp,by omega,rfl,by omega,?_,I.out,⟨f++[UInt8.ofNat ((m:Int) % 128+128).toNat],by simp[h],o.out.own⟩,?_⟩,by simp[intOf];omega⟩
   ·rcases z.1 with d|d
    ·simp at d;omega
    ·have:=j.out.size;simp at d;omega
   ·exact((j.out.setCell N _).alloc (by simpa using j.out.size) _).trans (o.out.af.low (λaa g=>by rw[An]at g;simp at g;omega) (by have:=j.out.size;simp;omega))
end Go.Proofs.YtnghccjoicmabaaGreatDoor
namespace Go.Proofs.YtnghccjoicmabaaGreatDoor
open Go.RowKit Go.Sort Go.Lib
variable{w v b d:Nat}{n p h:World}{wa nc:List As}{q m:Value}{wb:List Value}{wp:Program}{vu sf:As}{we:Int}{s:ByteArray}{vf:List UInt8}{wd:Type}{nv:Obj}{wk:J8}
theorem Bn.pb{b:X}(c:Bn w n wa p (bAq b v::nc)){m:Nat}{bs:List UInt8}(d:bs.length=m)(a:IY p 5 1 b q m (cu bs) h):Bn w n wa h (bAq q m::nc):=Bn.ew (L1:=[]) c a.af ⟨bs,d,a.own⟩ (JX _) a.nb
theorem Bn.dK(b:Bn w n wa p (bAq m v::nc)):∃a,a.length=v/\p.ownsRow 0 5 1 m v (cu a):=b.mem (Aew ..)
def Grw(g:Nat)(e:Q)(d c:List As)(h:Nat)(f:Ending)(i:Q):Prop:=∃b a,f=F b/\0<a/\a<=h/\Bn g e d i (bAq b a::c)
theorem Bn.aa(a:Bn w n wa p (bAq m v::nc)):Bn w n wa p (aF m v::nc):=Bn.same (L1:=[]) a rfl (by let ⟨b,c,d⟩:=a.dK;exact⟨b,c,.inl d⟩)
theorem Bn.fV(a:Bn w n wa p (aF m v::nc)):∃b,b.length=v/\ZO p 5 1 m v (cu b):=by
 let ⟨b,c,a⟩:=a.mem (Aew ..)
 refine⟨b,c,a.imp id λ⟨e,fr,d,a⟩=>⟨⟨e,0,none⟩,d,by simp[c],λf g h=>Adu a f g (by omega)⟩⟩
theorem Bn.pa(c:Bn w n wa p (aF m v::nc)){b:Nat}{bs:List UInt8}(d:bs.length=b)(a:IY p 5 1 m q b (cu bs) h):Bn w n wa h (bAq q b::nc):=Bn.ew (L1:=[]) c a.af ⟨bs,d,a.own⟩ (JX _) a.nb
theorem ZO.sl(c:ZO n w v m b wb):∃d a,m=W d b a:=c.elim Ad λ⟨_,w,_⟩=>⟨_,_,w⟩
theorem GA{i k:Nat}{w:Q}{x:Nat}(b:Bn i n wa w (aF m v::nc))(c:x<128 ^ (k+1))(K:k<9)(M:v<=1000000):Adg Acs 51 #[m,V C x] w (Grw i n wa nc (v+(k+1))):=by
 obtain⟨bs,f,a⟩:=b.fV;obtain⟨N,z,rfl⟩:=a.sl;have I:x<9223372036854775808:=Ac2 c (Ac5 (Abf (by omega) (show k+1<=9 by omega)) .refl);have p:=hid (M5 (w:=w) c (by omega) (by omega));have o:=hid b;clear b a c;go_enter Tryz.func51,Tryz.ntmps51;go_wp2_with (first
  |(go_at_call 87;refine p.out.mono ?_;rintro E O ⟨⟨G,u,B,rfl,r,L,y,t,h⟩,e⟩;have d:=hid (o.out.cJ e);have q:=hid h;obtain⟨bs,f,a⟩:=d.out.fV;have l:=hid a;clear h a e)
  |(at_builtin;refine Hq Oz l.out q.out (s:=.tmp 5) (x:=.tmp 8) rfl rfl rfl rfl (Mx _) r (by omega) ?_;intro H D U g;have j:=hid g;clear g))
 go_ret;exact⟨_,v+u,rfl,by omega,by omega,d.out.pa (bs:=bs++y) (by simp[f,t]) (by rw[GS];exact j.out)⟩
theorem Ms(c:Q)(m:Nat)(i j p d:Ad5)(e:TypeInfo)(s:wp.underlying i=some (.slice d))(t:wp.underlying j=some .string)(q:wp.info? d=some e)(x:e.zero=some (V .u8 0))(w:e.size=1)(v:e.bytes=1)(f a h:Nat)(l:List X)(r:c.ownsRow m d 1 (W (some ⟨f,0,none⟩) a h) a l)(b:ByteArray)(G:0<a+b.size)(E:a+b.size<=140737488355328)(B:m<=c.heap.size):
 ∃g n k,(Builtin.append_ #[i,j] p #[W (some ⟨f,0,none⟩) a h,S b]).run wp c=.ok (W (some ⟨g,0,none⟩) (a+b.size) n) k/\k.ownsRow m d 1 (W (some ⟨g,0,none⟩) (a+b.size) n) (a+b.size) (l++strCells b)/\
  c.grownBy k (some f)/\(g=f\/g=c.heap.size):=by
 obtain⟨ac,k,H,u,z,-⟩:=run_append_own_string c m i j p d e s t q x w v _ a l r b (by unfold Aed;omega) E B;obtain⟨g,n,rfl,-,-⟩:=u.form G;refine⟨g,n,k,H,u,z,?_⟩;rcases r.2 with⟨o,-⟩|⟨M,L,y,o,N,D,Y,O,U,aa⟩
 ·cases o
 ·simp[Value.slice.injEq,Addr.mk.injEq,and_true,true_and]at o;obtain⟨rfl,rfl⟩:=o;by_cases K:a+b.size<=h
  ·have I:=run_append_room_string c i j p d e s t q w f a h y D b K (by omega);grind
  ·have ab:l.length=a:=by grind
   have I:=run_append_grow_string c i j p d e (V .u8 0) s t q x ⟨f,0,none⟩ a h l (by grind) (r.cells rfl) b (by omega) (by omega) (by rw[v];exact growslice_fits (by omega) (by omega));grind
theorem IM{e:Program}(d:Q){s:Array Oper}{t:List Oper}{i:Oper}{k:Act}{r:Exit->Act->Q->Prop}(G:i.guard=none)(u v:Operand)(o p:Ad5)(K:i.op=.call {callee:=.builtin .append,args:=#[u,v],argTypes:=#[o,p]})(l:Nat)(f:Ad5)(h:TypeInfo)(Y:e.underlying o=some (.slice f))(aa:e.underlying p=some .string)(H:e.info? f=some h)(ac:h.zero=some (V .u8 0))(U:h.size=1)(E:h.bytes=1)(g a n:Nat)(q:List X)(O:k.eval u=W (some ⟨g,0,none⟩) a n)(L:d.ownsRow l f 1 (W (some ⟨g,0,none⟩) a n) a q)(b:ByteArray)(ab:k.eval v=S b)(M:0<a+b.size)(I:a+b.size<=140737488355328)(D:l<=d.heap.size)(w:∀c m j,j.ownsRow l f 1 (W (some ⟨c,0,none⟩) (a+b.size) m) (a+b.size) (q++strCells b)->d.grownBy j (some g)->(c=g\/c=d.heap.size)->wpList e s r t (k.put i.dst (W (some ⟨c,0,none⟩) (a+b.size) m)) j):wpList e s r (i::t) k d:=by
 refine wpList_plain G λad B=>?_;let ⟨c,m,j,N,x,y,z⟩:=Ms d l o p i.type f h Y aa H ac U E g a n q L b M I D
 unfold Oper.wp execOp;simp only[K,resolve,invoke,builtin,Sem.run_bind,Sem.run_pure,Result.andThen_ok,Acp,Aeg,Aez,O,ab,N];exact B _ _ (w c m j x y z)
theorem MM{s:ByteArray}(a:Bn w n wa p (aF m v::nc))(ad:s.size<=16)(I:v<=1000000):Adg Acs 50 #[m,S s] p (Grw w n wa nc (v+17)):=by
 let ⟨N,E,q⟩:=Adb.1 Tryz.eW
 simp only[Aeb]at q;let ⟨K,L,M⟩:=q
 let ⟨f,G,c⟩:=a.fV
 obtain⟨ae,Y,rfl⟩:=c.sl;have r:=hid (GA (x:=s.size) (k:=0) a (by omega) (by omega) I);clear a c;go_enter Tryz.func50,Tryz.ntmps50;go_wp2_with (first
  |(go_at_call 51;refine r.out.mono ?_;rintro j O ⟨af,d,rfl,H,ac,g⟩;let ⟨f,G,c⟩:=g.dK;obtain⟨l,i,rfl,aa,ab⟩:=World.ownsRow.form c H;have y:=hid g;have u:=hid c;clear c g)
  |(at_builtin;refine IM _ rfl (.tmp 9) (.tmp 10) 141 9 rfl 0 5 N Tryz.underlying141 Tryz.underlying9 E K L M l d i (cu f) rfl u.out s rfl (by omega) (by omega) (by omega) ?_;intro B z U h b o;have t:Hid (IY O 5 1 (W (some ⟨l,0,none⟩) d i) (W (some ⟨B,0,none⟩) (d+s.size) z) (d+s.size) (cu (f++s.data.toList)) U):=⟨by rw[GS];exact h,⟨b.os,b.tape,b.output,b.size,λk e D=>b.block k e λj=>D (Ah.2 j.symm)⟩,λk e=>by rw[An]at e ⊢;obtain rfl:=Ac9.1 e;exact⟨o.imp (λa=>Ac9.2 a) λa=>Acb a.symm,(Pj h).1⟩⟩;clear h b o))
 go_ret;exact⟨_,d+s.size,rfl,by omega,by omega,y.out.pb (by simp_all) t.out⟩
def NwB(d:Q)(g:Nat)(f:Ending)(e:Q):Prop:=(∃c a b,f=F (W (some ⟨c,0,none⟩) a b)/\0<a/\a<=g/\(bAq (W (some ⟨c,0,none⟩) a b) a).h e)/\Below d.heap.size d e
def iz(b:Bp)(a:Nat):Nat:=if a=0 then 11 else if a=17 then 3+5*b.alts.length else if MD a<=LY a then 4 else 1
abbrev iA(c:Nat)(d:Nat)(a:Int)(b:X):As:=pA 65 3 (W (some ⟨c,0,none⟩) 1 1) 1 [V C d,V C a,b]
theorem Bn.none(b:Q):Bn b.heap.size b [] b []:=Sp.dv ⟨Acu _,λ_ a=>(by cases a),by simp[fp],λ_ a=>by cases a⟩
theorem KD{w:Q}{m:Nat}{av:X}{a:Int}{o:Int}(d:0<=o)(f:o<256):Bn w.heap.size w [] ((w.alloc (.cells #[V C m,V C a,av] 65)).alloc (.cells #[V .u8 o] 5)) [bAq (W (some ⟨w.heap.size+1,0,none⟩) 1 1) 1,iA w.heap.size m a av]:=by
 have g:=World.ownsRow_lit (e:=65) (size:=3) w #[V C m,V C a,av] 1 (Ac0 _) (by unfold Aed;omega) rfl;have b:=World.ownsRow_lit (e:=5) (size:=1) (w.alloc (.cells #[V C m,V C a,av] 65)) #[V .u8 o] 1 (Ac0 _) (by unfold Aed;omega) rfl;have e:(w.alloc (.cells #[V C m,V C a,av] 65)).heap.size=w.heap.size+1:=by simp
 refine((Bn.none w).box (.cells #[V C m,V C a,av] 65) (A:=iA w.heap.size m a av) (An (n:=1) (c:=1) _) g).box _ (by rw[e];rfl) ⟨[UInt8.ofNat o.toNat],rfl,?_⟩;rw[e]at b;rw[<-Qt d f];exact b
theorem NwB.of(a:Bn n.heap.size n [] p (bAq m w::wa))(b:0<w)(i:w<=v):NwB n v (F m) p:=by
 let ⟨d,h,c⟩:=a.dK
 obtain⟨f,e,rfl,-,-⟩:=World.ownsRow.form c b;exact⟨⟨f,w,e,rfl,b,i,d,h,c⟩,a.af.low (λj g=>by cases g) .refl⟩
theorem Bn.snd(a:Bn w p nc n (vu::sf::wa)):sf.h n:=a.mem (Aei _ (Aew ..))
theorem Aal(a:(iA v w we m).h n):n.cell? ⟨v,2,none⟩=some m:=by
 have:=Aen a 2 .refl;simpa using this
theorem SS{w:Q}{x:Bp}{m:Nat}{av:X}(H:Du w av x.alts)(f:Fg x m)(aG:-9223372036854775808<=x.a/\x.a<=9223372036854775807):Adg Acs 52 #[T #[V C m,V C x.a,av]] w (NwB w (iz x m)):=by
 obtain⟨a1,t,rfl,bl,K⟩:=H.open;obtain⟨r,a,b⟩:=x;simp only at*;have au:=f.l;have B:Hid (∀w,Adg Acs 88 #[V C m] w λe aS=>e=F (R #[V C (MD m),V C (LY m)])/\aS=w):=λw=>EQ m au w;have D:=hid (KD (w:=w) (m:=m) (a:=a) (av:=W a1 b.length t) (o:=m) (by omega) (by omega));obtain⟨bf,bg⟩:=aG;have U:=hid (Eq.refl (iz ⟨r,a,b⟩ m));by_cases aC:m=0
 ·subst aC;have ac:iz ⟨r,a,b⟩ 0=11:=rfl;rw[ac];obtain⟨u,L,aI⟩:∃u:Nat,(0<=a/\(u:Int)=2*a\/¬0<=a/\(u:Int)=2*(-(a+1))+1)/\u<18446744073709551616:=⟨(if 0<=a then 2*a else 2*(-(a+1))+1).toNat,by omega,by omega⟩;have a8:=hid λw=>M5 (w:=w) (n:=u) (k:=9) (by omega) .refl aI;clear K H f U ac;rcases L with⟨M,L⟩|⟨M,L⟩;all_goals
   go_enter Tryz.func52,Tryz.ntmps52;go_wp2_with (first
    |(go_at_call 88;refine(B.out _).mono ?_;rintro e d ⟨rfl,rfl⟩)
    |(go_at_call 87;rw[<-L];refine(a8.out _).mono ?_;rintro e d ⟨⟨bb,k,ab,rfl,ar,bi,aT,aM,a0⟩,aq⟩;have p:=hid (D.out.cJ aq);have am:=hid a0;obtain⟨bs,aJ,ax⟩:=p.out.dK;have al:=hid ax;clear a0 ax aq)
    |(at_builtin;(first|refine Hq Oz (.inl al.out) am.out (s:=.tmp 26) (x:=.tmp 31) rfl rfl rfl rfl (Mx _) ar (by omega) ?_|refine Hq Oz (.inl al.out) am.out (s:=.tmp 37) (x:=.tmp 45) rfl rfl rfl rfl (Mx _) ar (by omega) ?_);intro bc aZ bt M;have a6:=hid M;clear M))
   go_ret;exact .of (p.out.pb (m:=1+k) (bs:=bs++aT) (by simp[aJ,aM]) (by rw[GS];exact a6.out)) (by omega) (by omega)
 ·have aW:((m:Int)==0)=false:=by grind
  by_cases aD:m=17
  ·subst aD;have aE:a=0:=by
    have ac:MD 17=1:=rfl;have ba:LY 17=0:=rfl;have:=f.b;grind
   subst aE;have aH:=f.a;have a5:=hid f.c;have ak:=hid K;have O:=hid (GA (x:=b.length) (k:=1) D.out.aa (by grind) (by omega) (by omega));have N:iz ⟨r,0,b⟩ 17=3+5*b.length:=rfl;rw[N];clear H K f U N;simp only at aH;go_enter Tryz.func52,Tryz.ntmps52;go_wp2_with (first
    |(go_at_call 88;refine(B.out _).mono ?_;rintro e d ⟨rfl,rfl⟩)
    |(go_at_call 51;refine O.out.mono ?_;rintro e d ⟨j,i,rfl,y,aw,h⟩;have p:=hid h;clear h))
   go_loopw [3,6] (λaQ ag wr=>∃(g n:Nat) (aj:X),g<=b.length/\aQ=aj/\ag=V C g/\0<n/\n<=3+5*g/\Hid (Bn w.heap.size w [] wr [bAq aj n,iA w.heap.size 17 0 (W a1 b.length t)])) (λ_ ag _=>b.length-(intOf ag).toNat)
   case atStart=>exact⟨0,i,j,Ac0 _,rfl,rfl,y,by omega,p⟩
   case round=>
    obtain⟨g,n,aj,bh,rfl,rfl,y,aw,I⟩:=hrel;have bq:=Aal I.out.snd;by_cases ae:g<b.length
    ·obtain⟨q,o,rfl,aB,ab⟩:=ak.out _ (I.out.af.low (λq v=>by cases v) (Acu _)) g ae;obtain⟨aN,bm,aO,bn⟩:=a5.out _ (Ac8 ae);obtain⟨ah,ay⟩:=Abd aN;obtain⟨ai,az⟩:=Abd aO;rw[ay]at aB;rw[az]at ab;have a2:=hid (GA (x:=ah) (k:=1) I.out.aa (by omega) (by omega) (by omega));have a3:Hid (∀d j i,i<=n+2->Bn w.heap.size w [] d [bAq j i,iA w.heap.size 17 0 (W (some ⟨q,o,none⟩) b.length t)]->Adg Acs 51 #[j,V C ai] d (Grw w.heap.size w [] [iA w.heap.size 17 0 (W (some ⟨q,o,none⟩) b.length t)] (i+3))/\d.cell? ⟨w.heap.size,2,none⟩=some (W (some ⟨q,o,none⟩) b.length t)/\d.cell? ⟨q,o+g*2+1,none⟩=some (V C ai)):=λd j i E G=>by
      refine⟨GA (x:=ai) (k:=2) G.aa (by omega) (by omega) (by omega),Aal G.snd,?_⟩;obtain⟨aV,bp,e,-,ab⟩:=ak.out _ (G.af.low (λq v=>by cases v) (Acu _)) g ae;grind
     clear ay az;go_wp2_with (first
      |(go_at_call 51;refine a2.out.mono ?_;rintro e d ⟨j,bo,rfl,bj,aK,h⟩;obtain⟨ao,br,aY⟩:=a3.out _ _ _ aK h;have a4:=hid ao;clear ao h)
      |(go_at_call 51;refine a4.out.mono ?_;rintro e bu ⟨aR,aP,rfl,aL,bk,ap⟩;have a7:=hid ap;clear ap))
     exact⟨⟨g+1,aP,aR,by omega,rfl,rfl,aL,by omega,a7⟩,by simp[intOf];omega⟩
    ·go_wp2;go_ret;exact .of I.out y (by omega)
  ·have aX:((m:Int)==17)=false:=by grind
   have v:=f.b;have Y:Hid (MD m<=LY m->iz ⟨r,a,b⟩ m=4):=λf=>by simp only[iz];grind
   have an:Hid (1<=iz ⟨r,a,b⟩ m):=by show _<=_;unfold iz;grind
   have ad:MD m<=LY m->0<=a/\a<=65535:=λE=>by
    have G:0<=MD m:=by unfold MD;omega
    have be:LY m<=65535:=by
     unfold LY;rcases QN m au with rfl|rfl|rfl|rfl|rfl|rfl|rfl|rfl|rfl|rfl|rfl|rfl|rfl|rfl|rfl|rfl|rfl|rfl|rfl|rfl|rfl<;>decide
    grind
   clear v U H K f;generalize iz ⟨r,a,b⟩ m=z at*;generalize MD m=lo at*;generalize LY m=hi at*;by_cases E:lo<=hi
   ·obtain⟨a9,aU⟩:=ad E;obtain⟨ah,rfl⟩:=Abd a9;have O:=hid (GA (x:=ah) (k:=2) D.out.aa (by omega) (by omega) (by omega));have N:=Y.out E;subst N;clear ad Y an;go_enter Tryz.func52,Tryz.ntmps52;go_wp2_with (first
     |(go_at_call 88;refine(B.out _).mono ?_;rintro e d ⟨rfl,rfl⟩)
     |(go_at_call 51;refine O.out.mono ?_;rintro e d ⟨j,i,rfl,y,aw,h⟩;have p:=hid h;clear h))
    go_ret;exact .of p.out y (by omega)
   ·clear ad Y;go_enter Tryz.func52,Tryz.ntmps52;go_wp2_with (first|(go_at_call 88;refine(B.out _).mono ?_;rintro e d ⟨rfl,rfl⟩))
    go_ret;exact .of D.out .refl an.out
theorem Aau{s:ByteArray}{w:Q}(x:s.size<=1000000):Adg Acs 53 #[S s] w λh m=>(∃c:Int,h=F (V .u32 c))/\Below w.heap.size w m:=by
 go_enter Tryz.func53,Tryz.ntmps53;go_wp2;go_loopw [3,4] (λe b wr=>∃(a:Nat) (c:Int),a<=8*s.size+32/\b=V C a/\e=V .u64 c/\Below w.heap.size w wr) (λ_ b _=>8*s.size+32-(intOf b).toNat)
 case atStart=>exact⟨0,0,Ac0 _,rfl,rfl,Acv _ _⟩
 case round=>
  obtain⟨a,c,v,rfl,rfl,f⟩:=hrel;by_cases q:a<8*s.size+32
  ·have i:(a:Int)<8*(s.size:Int)+32:=by omega
   by_cases p:a<8*s.size
   ·have j:(a:Int)<8*(s.size:Int):=by omega
    have n:(a:Int) / 8<(s.size:Int):=by omega
    have o:0<=(a:Int) / 8:=by omega
    go_wp2;all_goals exact⟨⟨a+1,_,by omega,by go_num,rfl,f⟩,by simp[intOf];omega⟩
   ·have j:¬(a:Int)<8*(s.size:Int):=by omega
    go_wp2;all_goals exact⟨⟨a+1,_,by omega,by go_num,rfl,f⟩,by simp[intOf];omega⟩
  ·have i:¬(a:Int)<8*(s.size:Int)+32:=by omega
   go_wp2;go_loopw [3,6,7] (λe l b wr=>∃(d:Nat) (c g:Int),d<=32/\b=V C d/\e=V .u64 c/\l=V .u32 g/\Below w.heap.size w wr) (λ_ _ b _=>32-(intOf b).toNat)
   case atStart=>grind
   case round=>
    obtain⟨d,c,g,r,rfl,rfl,rfl,k⟩:=hrel;by_cases u:d<32
    ·have t:(d:Int)<32:=by omega
     go_wp2;exact⟨⟨d+1,_,_,by omega,rfl,rfl,rfl,k⟩,by simp[intOf];omega⟩
    ·go_wp2;go_ret;simp_all
theorem Nr(a:Array Obj)(c:Obj)(b:Obj->Obj):(a.push c).modify a.size b=a.push (b c):=by
 grind
theorem O2(a:Q)(b:Array X)(c:Ad5)(d:Nat):(a.alloc (.cells b c)).freeze ⟨a.heap.size,d,none⟩ 1=a.alloc (.cells b c (d,d+1)):=by
 unfold World.freeze;rw[if_neg nofun];show({a.alloc (.cells b c) with heap:=(a.heap.push (.cells b c)).modify a.heap.size _}:Q)=_;rw[Nr];rfl
theorem UD(a:Q)(b:Array X)(d c:Nat):(convert 141 141 (W (some ⟨a.heap.size,0,none⟩) d c)).run Acs (a.alloc (.cells b 5))=.ok (W (some ⟨a.heap.size,0,none⟩) d c) (a.alloc (.cells b 5 (b.size,b.size+1))):=by
 have e:(a.alloc (.cells b 5)).shape? a.heap.size=some (5,b.size):=by
  have:(a.alloc (.cells b 5)).heap[a.heap.size]?=some (.cells b 5):=Adp a _;unfold World.shape?;rw[this]
 simp[convert,run_underlying Tryz.underlying141,run_underlying Tryz.underlying5,markStringish,e,O2]
theorem Ff(a:nmB s=true):s.size<=16:=by
 simp[nmB,decide_eq_true_eq]at a;omega
theorem T4(a:n.ownsRow w 5 1 (W (some ⟨v,0,none⟩) b d) b (cu vf))(g:vf.length=b):(convert 141 9 (W (some ⟨v,0,none⟩) b d)).run Acs n=.ok (S ⟨vf.toArray⟩) n:=by
 have f:=run_convert_bytes_back n 141 9 5 ⟨v,0,none⟩ d vf Tryz.underlying141 Tryz.underlying5 Tryz.underlying9 (λe c=>World.ownsRow.cells a rfl e _ (by simp[c]));grind
theorem NQ{f:wd->Nat}{a:List wd}(b:w<a.length):((a.take (w+1)).map f).sum=((a.take w).map f).sum+f a[w]:=by
 rw[Ade b,Adq,List.sum_append];simp
theorem Ey{f:wd->Nat}{l:List wd}{k:Nat}:((l.take k).map f).sum<=(l.map f).sum:=by
 have:l.map f=(l.take k).map f++(l.drop k).map f:=by simp
 grind
def zz(a:Bp):Nat:=iz a a.op.toNat
def gz(g:CH):Nat:=22+(g.code.map zz).sum
def fz(a:J8):Nat:=25+18*a.AA.length+(a.Aq.map gz).sum
abbrev oB(a:Nat)(d:ByteArray)(c b:X):As:=pA 39 3 (W (some ⟨a,0,none⟩) 1 1) 1 [S d,c,b]
theorem Vj(a:(oB w s m q).h n):n.cell? ⟨w,0,none⟩=some (S s)/\n.cell? ⟨w,1,none⟩=some m/\n.cell? ⟨w,2,none⟩=some q:=by
 have b:=Aen a 0 (by omega);have c:=Aen a 1 (by omega);have d:=Aen a 2 .refl;grind
theorem Bn.gQ{bs:List UInt8}(a:Bn w n wa p (bAq m v::nc))(d:bs.length=v)(b:0<=we)(c:we<256)(e:IY (p.alloc nv) 5 1 m q (v+1) (cu bs++#[Value.int .u8 we].toList) h):Bn w n wa h (bAq q (v+1)::nc):=by
 refine(a.cJ ((Acv _ _).alloc .refl nv)).pb (bs:=bs++[UInt8.ofNat we.toNat]) (by simp[d]) ?_;rw[GS,<-Qt b c];exact e
theorem VC{h:X}{w:Q}(bj:GF w h wk)(a1:Gd wk)(bw:∀ay∈wk.Aq,∀x∈ay.code,-9223372036854775808<=x.a/\x.a<=9223372036854775807)(u:wk.AA.length+wk.Aq.length<10000)(bo:fz wk+4<=100000):Adg Acs 23 #[h] w λe aQ=>(∃s,e=F (R #[S s,V C 0]))/\Below w.heap.size w aQ:=by
 have aZ:=hid λaQ (t:Below w.heap.size w aQ)=>N0 (bj.cJ t) a1;obtain⟨cK,cs,rfl,cF,bi,bh⟩:=bj;obtain⟨r,j,rfl,cz,bq⟩:=bi.open;obtain⟨v,p,rfl,c7,bn⟩:=bh.open;have b6:=hid bn;have aT:=hid bq;have aU:=hid a1;have a8:=hid bw;have aJ:=Ff a1.n;have bG:=hid bo;have k0:=World.ownsRow_lit (base:=0) (e:=39) (size:=3) w #[S wk.name,W r wk.AA.length j,W v wk.Aq.length p] 1 (Ac0 _) (by unfold Aed;omega) rfl;have aV:=hid ((Bn.none w).box (.cells #[S wk.name,W r wk.AA.length j,W v wk.Aq.length p] 39) (A:=oB w.heap.size wk.name (W r wk.AA.length j) (W v wk.Aq.length p)) (An (n:=1) (c:=1) _) k0);have aw:Hid (∀g,Bn w.heap.size w [] g [oB w.heap.size wk.name (W r wk.AA.length j) (W v wk.Aq.length p)]->Bn w.heap.size w [] (g.alloc (.cells #[V .u8 84,V .u8 65,V .u8 82,V .u8 78] 5 (4,5))) [aF (W (some ⟨g.heap.size,0,none⟩) 4 4) 4,oB w.heap.size wk.name (W r wk.AA.length j) (W v wk.Aq.length p)]):=λg ab=>ab.box _ (An (n:=4) (c:=4) _) ⟨[84,65,82,78],rfl,.inr ⟨g.heap.size,(4,5),rfl,Adp _ _⟩⟩;have a0:=UD;clear bn bq bi bh a1 bw k0 bo;go_enter Tryz.func23,Tryz.ntmps23;go_wp2_with (first
  |(go_at_call 48;refine(aZ.out _ bA).mono ?_;rintro e g ⟨rfl,ak⟩;have O:=hid (aV.out.cJ ak);obtain⟨M,ah,ar⟩:=Vj (O.out.mem (Aew ..));have a5:w.heap.size<g.heap.size:=Adt M;have aB:=hid (aw.out _ O.out);have B:=hid (MM aB.out aJ (by omega));clear ak)
  |(go_at_call 50;refine B.out.mono ?_;rintro e a6 ⟨ce,bX,rfl,bT,ae,D⟩;have ai:=hid (GA (x:=wk.AA.length) (k:=1) D.aa (by omega) (by omega) (by omega));have b0:=(Vj D.snd).2.1;clear D)
  |(go_at_call 51;refine ai.out.mono ?_;rintro e b3 ⟨av,aq,rfl,bu,a3,E⟩;have L:=hid E;clear E))
 clear a0 M ah ar b0 a5 B ai O aB aV aZ aw;have cv:wk.AA.length<10000:=by omega
 have cH:25+18*wk.AA.length+(wk.Aq.map gz).sum+4<=100000:=bG.out;go_loopw [5,6] (λN aN wr=>∃(b n:Nat) (h:X),b<=wk.AA.length/\N=h/\aN=V C b/\0<n/\n<=23+18*b/\Hid (Bn w.heap.size w [] wr [bAq h n,oB w.heap.size wk.name (W r wk.AA.length j) (W v wk.Aq.length p)])) (λ_ aN _=>wk.AA.length-(intOf aN).toNat)
 case atStart=>exact⟨0,aq,av,Ac0 _,rfl,rfl,bu,by omega,L⟩
 case round=>
  obtain⟨b,n,h,bK,rfl,rfl,am,bt,d⟩:=hrel;clear L bu a3 bT ae;obtain⟨M,ah,ar⟩:=Vj d.out.snd;by_cases G:b<wk.AA.length
  ·obtain⟨o,y,rfl,aC,Y,-⟩:=aT.out _ (d.out.af.low (λo t=>by cases t) (Acu _)) b G;obtain⟨ao,ap,aK⟩:=aU.out.i _ (Ac8 G);obtain⟨K,an⟩:=Abd ap;have B:=hid (MM (s:=wk.AA[b].name) d.out.aa (Ff ao) (by omega));have b4:Hid (∀g au ag,ag<=n+17->Bn w.heap.size w [] g [bAq au ag,oB w.heap.size wk.name (W (some ⟨o,y,none⟩) wk.AA.length j) (W v wk.Aq.length p)]->Adg Acs 51 #[au,V C K] g (Grw w.heap.size w [] [oB w.heap.size wk.name (W (some ⟨o,y,none⟩) wk.AA.length j) (W v wk.Aq.length p)] (ag+1))/\g.cell? ⟨w.heap.size,1,none⟩=some (W (some ⟨o,y,none⟩) wk.AA.length j)/\g.cell? ⟨o,y+b*2+1,none⟩=some (V C K)):=λg au ag ct aG=>by
    refine⟨GA (x:=K) (k:=0) aG.aa (by omega) (by omega) (by omega),(Vj aG.snd).2.1,?_⟩;obtain⟨cn,cM,e,-,Y,-⟩:=aT.out _ (aG.af.low (λo t=>by cases t) (Acu _)) b G;grind
   rw[an]at Y;clear ao ap aK an;generalize wk.AA[b].name=nm at*;go_wp2_with (first
    |(go_at_call 50;refine B.out.mono ?_;rintro e g ⟨au,ag,rfl,bP,br,ac⟩;obtain⟨aj,b0,cp⟩:=b4.out _ _ _ br ac;have b5:=hid aj;clear aj ac)
    |(go_at_call 51;refine b5.out.mono ?_;rintro e b3 ⟨av,aq,rfl,ae,a3,E⟩;have L:=hid E;clear E))
   exact⟨⟨b+1,aq,av,by omega,rfl,by go_num,ae,by omega,L⟩,by simp[intOf];omega⟩
  ·have ai:=hid (GA (x:=wk.Aq.length) (k:=1) d.out.aa (by omega) (by omega) (by omega));rename Q=>W1
   go_wp2_with (first
    |(go_at_call 51;refine ai.out.mono ?_;rintro e b3 ⟨av,aq,rfl,ae,a3,E⟩;have L:=hid E;clear E))
   clear M ah ar ai d;go_loopw [5,7] (λN aO wr=>∃(b n:Nat) (h:X),b<=wk.Aq.length/\N=h/\aO=V C b/\0<n/\n<=25+18*wk.AA.length+((wk.Aq.take b).map gz).sum/\Hid (Bn w.heap.size w [] wr [bAq h n,oB w.heap.size wk.name (W r wk.AA.length j) (W v wk.Aq.length p)])) (λ_ aO _=>wk.Aq.length-(intOf aO).toNat)
   case atStart=>exact⟨0,aq,av,Ac0 _,rfl,rfl,ae,by simp;omega,L⟩
   case round=>
    obtain⟨b,n,h,bK,rfl,rfl,am,bt,d⟩:=hrel;clear L;obtain⟨M,ah,ar⟩:=Vj d.out.snd;have bv:=Ey (f:=gz) (l:=wk.Aq) (k:=b);by_cases G:b<wk.Aq.length
    ·obtain⟨o,y,aE,bI,cc,rfl,aC,Y,aD,be,bg,-⟩:=b6.out _ (Acv _ _) b G;have al:=d.out.af.low (λo t=>by cases t) (Acu _);replace aC:=Aa al aC
     replace Y:=Aa al Y
     replace aD:=Aa al aD
     replace be:=Aa al be
     obtain⟨_,_,bf,cx,bm⟩:=bg.open;obtain⟨rfl,rfl,rfl⟩:aE=_/\bI=wk.Aq[b].code.length/\cc=_:=by simpa using bf
     obtain⟨ao,ap,aK,-,bp,⟨_,bx⟩,-⟩:=aU.out.g _ (Ac8 G);have c5:=bx.m;have b9:=hid (a8.out _ (Ac8 G));have aw:=hid bp;have b7:=hid bm;obtain⟨K,an⟩:=Abd ap;have cD:=NQ (f:=gz) G;have cE:=Ey (f:=gz) (l:=wk.Aq) (k:=b+1);have aJ:=Ff ao;have cy:gz wk.Aq[b]=22+(wk.Aq[b].code.map zz).sum:=rfl;rw[an]at Y;clear bf bg bx bp bm ao al;generalize wk.Aq[b].name=nm at*;generalize wk.Aq[b].exp=ex at*;generalize wk.Aq[b].code=code at*;have cw:=d.out.s.z;rename Q=>W2
     obtain⟨U,ad⟩:∃U,U=W2.alloc (.cells #[S nm,V C K,.bool ex,W aE code.length cc] 59):=⟨_,rfl⟩;have aI:Below W2.heap.size W2 U:=by rw[ad];exact bA
     have aW:=hid (d.out.cJ aI);have bC:=hid (d.out.cJ aI).s.dv;have ax:Hid (∀g bc,Bn w.heap.size U [bAq u5 n,oB w.heap.size wk.name (W r wk.AA.length j) (W (some ⟨o,y,none⟩) wk.Aq.length p)] g bc->G4 g W2.heap.size nm K ex (W aE code.length cc)):=λg bc ab=>by
      have a4:W2.heap.size∉fp [bAq u5 n,oB w.heap.size wk.name (W r wk.AA.length j) (W (some ⟨o,y,none⟩) wk.Aq.length p)]:=λbO=>by
       have:=(d.out.s.rg _ bO).2;omega
      refine⟨ab.af.cell ?_ a4,ab.af.cell ?_ a4,ab.af.cell ?_ a4,ab.af.cell ?_ a4⟩;all_goals(rw[ad];simp)
     have B:=hid (MM (s:=nm) bC.out.aa aJ (by omega));have cJ:W2.heap.size<U.heap.size:=by rw[ad];simp
     rw[ad]at B;have bD:=hid ad;have aB:=hid d.out.s;have cG:K<=20:=by omega
     clear ad aI an ap aK d M ah;cases ex;all_goals
      go_wp2_with (first
       |(go_at_call 50;refine B.out.mono ?_;rw[<-bD.out];rintro e g ⟨au,ag,rfl,bP,br,ac⟩;obtain⟨-,bZ,-⟩:=ax.out _ _ ac;have aR:=hid (GA (x:=K) (k:=0) ac.aa (by omega) (by omega) (by omega));clear ac)
       |(go_at_call 51;refine aR.out.mono ?_;rintro e a6 ⟨ce,bX,rfl,ae,a3,D⟩;obtain⟨-,-,b1,ca⟩:=ax.out _ _ D;have cI:W2.heap.size<a6.heap.size:=Adt b1;have aX:=hid D;obtain⟨bs,u,q⟩:=D.dK;have a9:=hid q;clear D q)
       |(at_builtin;(first|refine Cp Oz (a9.out.alloc _) (Adp a6 _) (m:=1) (c:=1) (s:=.tmp 76) (x:=.tmp 77) (by simp[Aef];done) (by simp[Aef];done) rfl rfl rfl (by intro b2 I;simp at I;subst I;rfl) (by omega) (by omega) ?_|refine Cp Oz (a9.out.alloc _) (Adp a6 _) (m:=1) (c:=1) (s:=.tmp 79) (x:=.tmp 80) (by simp[Aef];done) (by simp[Aef];done) rfl rfl rfl (by intro b2 I;simp at I;subst I;rfl) (by omega) (by omega) ?_);intro bJ bH cO H;have aH:=aX.out.gQ u (by omega) (by omega) H;obtain⟨-,-,-,aL⟩:=ax.out _ _ aH;have aS:=hid (GA (x:=code.length) (k:=2) aH.aa (by omega) (by omega) (by omega));clear H aH)
       |(go_at_call 51;refine aS.out.mono ?_;rintro e cR ⟨cf,bY,rfl,bQ,c4,bk⟩;have aY:=hid bk;clear bk))
      clear aS aR B aX a9 bZ b1 ca aL;go_loopw [5,9] (λN aP wr=>∃(k m:Nat) (h:X),k<=code.length/\N=h/\aP=V C k/\0<m/\m<=n+22+((code.take k).map zz).sum/\Hid (Bn w.heap.size U [bAq u5 n,oB w.heap.size wk.name (W r wk.AA.length j) (W (some ⟨o,y,none⟩) wk.Aq.length p)] wr [bAq h m,oB w.heap.size wk.name (W r wk.AA.length j) (W (some ⟨o,y,none⟩) wk.Aq.length p)])) (λ_ aP _=>code.length-(intOf aP).toNat)
      case atStart=>exact⟨0,bY,cf,Ac0 _,rfl,rfl,bQ,by simp;omega,aY⟩
      case round=>
       obtain⟨k,m,h,bL,rfl,rfl,bR,bS,d⟩:=hrel;clear aY;obtain⟨-,-,-,aL⟩:=ax.out _ _ d.out;have c9:=Ey (f:=zz) (l:=code) (k:=k);by_cases a2:k<code.length
       ·obtain⟨co,cN,cm,cl,ck,rfl,ci,cS,cU,aj⟩:=b7.out _ ((aW.out.trans d.out).af.low (λo t=>by cases t) (Acu _)) k a2;obtain⟨bV,az⟩:=aw.out _ (Ac8 a2);have bb:=hid (SS aj az (b9.out _ (Ac8 a2)));have a5:iz code[k] bV=zz code[k]:=by unfold zz;rw[az.o,Ahr]
        have cC:=NQ (f:=zz) a2;have c8:=Ey (f:=zz) (l:=code) (k:=k+1);rw[az.o]at ci;rw[a5]at bb;have c3:W2.heap.size<wr.heap.size:=Adt aL;clear aj az a5;rename Q=>W9
        go_wp2_with (first
         |(go_at_call 52;refine bb.out.mono ?_;rintro e g ⟨⟨ay,bW,aD,rfl,bM,c0,cj,bU,bz⟩,ak⟩;have O:=hid (d.out.cJ ak);have bE:=hid bz;obtain⟨bs,u,q⟩:=O.out.dK;have b8:=hid q;clear bz q ak)
         |(at_builtin;refine Hq Oz (.inl b8.out) bE.out (s:=.tmp 94) (x:=.tmp 100) (by simp[Aef];done) (by simp[Aef];done) rfl rfl (Mx _) bM (by omega) ?_;intro cr cq ch H;have a7:=hid H;clear H))
        exact⟨⟨k+1,m+bW,_,by omega,rfl,by go_num,by omega,by omega,O.out.pb (bs:=bs++cj) (by simp[u,bU]) (by rw[GS];exact a7.out)⟩,by simp[intOf];omega⟩
       ·have bN:code.take k=code:=Aav (by omega);rw[bN]at bS;go_wp2;exact⟨⟨b+1,m,_,by omega,rfl,by go_num,bR,by omega,aW.out.trans d.out⟩,by simp[intOf];omega⟩
    ·obtain⟨bs,u,q⟩:=d.out.dK;obtain⟨ay,c,rfl,-,-⟩:=World.ownsRow.form q am;have a0:=T4 q u;have ba:=hid (Aau (s:=⟨bs.toArray⟩) (w:=wr) (by show bs.toArray.size<=_;simp;omega));have c6:n<=99996:=by omega
     clear q M ah bv;rename Q=>W5
     go_wp2_with (first|(go_at_call 53;refine ba.out.mono ?_;rintro e cQ ⟨⟨x,rfl⟩,bl⟩;have bB:=hid (d.out.cJ bl);clear bl))
     clear a0 ba d u ar;go_loopw [5,10,11] (λN cd aM wr=>∃(k n:Nat) (h:X) (x:Int),k<=4/\N=h/\cd=V .u32 x/\aM=V C k/\0<n/\n<=99996+k/\Hid (Bn w.heap.size w [] wr [bAq h n,oB w.heap.size wk.name (W r wk.AA.length j) (W v wk.Aq.length p)])) (λ_ _ aM _=>4-(intOf aM).toNat)
     case atStart=>exact⟨0,n,_,x,Ac0 _,rfl,rfl,rfl,am,by omega,bB⟩
     case round=>
      obtain⟨k,n,h,x,bL,rfl,rfl,rfl,am,bt,d⟩:=hrel;obtain⟨bs,u,q⟩:=d.out.dK;obtain⟨ay,c,rfl,-,-⟩:=World.ownsRow.form q am;by_cases c1:k<4
      ·have c2:(k:Int)<4:=by omega
       have a8:=hid q;rename Q=>W7
       clear q;go_wp2_with (first
        |(at_builtin;refine Cp Oz (a8.out.alloc _) (Adp W7 _) (m:=1) (c:=1) (s:=.tmp 109) (x:=.tmp 112) (by simp[Aef];done) (by simp[Aef];done) rfl rfl rfl (by intro b2 I;simp at I;subst I;rfl) (by omega) (by omega) ?_;intro bJ bH ch H;have a7:=hid H;clear H))
       refine⟨⟨k+1,n+1,_,_,by omega,rfl,rfl,by go_num,by omega,by omega,d.out.gQ u ?_ ?_ a7.out⟩,by simp[intOf];omega⟩<;>omega
      ·have a0:=T4 q u;have bv:¬(100000:Int)<n:=by omega
       go_wp2;go_ret2
       exact⟨⟨_,rfl⟩,d.out.af.low (λo t=>by cases t) (Acu _)⟩
end Go.Proofs.YtnghccjoicmabaaGreatDoor
