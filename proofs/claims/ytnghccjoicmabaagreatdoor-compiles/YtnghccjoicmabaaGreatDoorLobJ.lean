import Derived.Test.YtnghccjoicmabaaGreatDoorVkJ
import Derived.Laws.OwnMore
import Derived.Deep.DrawnRows
set_option maxRecDepth 100000
set_option maxHeartbeats 16000000
open Go renaming Calls->Adg,TypeId->Ad5,Value->X,World->Q,below_drewN->Aeu,maxLen->Aed,undef->Aet
open Go.Ending renaming returned->F
open Go.IntKind renaming i64->C
open Go.Obj renaming cells->Adi
open Go.Proofs.Tryz renaming prog->Acs
open Go.Value renaming agg->T,bool->A,int->V,ownBlock->Ad6,pointer->J,slice->W,string->S,tuple->R
open Go.World renaming news_of_block->Adu
open Go.World.ownsRow renaming cellAt->Aen
open List renaming range->Aev
open Or renaming inl->Ads,inr->Ad7
namespace Go.Proofs.YtnghccjoicmabaaGreatDoor
open Go.RowKit Go.Sort
variable{n p h:World}{M sn yd:TypeId}{wb vq:List Value}{w v b:Nat}{vl:Array Value}{m q j f wv:Value}{t wg w9 ng nl n8:List Nat}{sj:Nat->List Value}{wc:Array Oper}{w6:Exit->Act->World->Prop}{w3:Region.Mode}{vo:World->Prop}{wj:Act}{wd:Type}{wx:Es}{vw:U6}{L:Option Addr}
def Gj(b:List X)(a:Nat):List X:=(List.replicate a b).flatten
theorem Fm(b:List X)(a:Nat):(Gj b a).length=a*b.length:=by simp[Gj]
theorem IZ(a:List X)(b c:Nat):Gj a (b+c)=Gj a b++Gj a c:=by unfold Gj;rw[<-List.replicate_append_replicate,List.flatten_append]
theorem Kq(a:List X):∀c b,b<c*a.length->(Gj a c)[b]?=a[b % a.length]?
 |0,b,h=>by omega
 |c+1,b,h=>by
  have e:Gj a (c+1)=a++Gj a c:=rfl;rw[e];by_cases d:b<a.length
  ·rw[Aa9 d,Nat.mod_eq_of_lt d]
  ·rw[Nat.add_mul,Nat.one_mul]at h;rw[Aex (by omega),Kq a c _ (by omega),show b % a.length=(b-a.length) % a.length from Nat.mod_eq_sub_mod (by omega)]
abbrev BP(e:Q)(c:Ad5)(b:List X)(d:X)(a:Nat):Prop:=e.ownsRow 0 c b.length d a (Gj b a)
theorem BP.gX(g:BP n M wb (W (some ⟨w,0,none⟩) v b) v)(k:n.heap[w]?=some (.cells vl M (0,0))):v<=b/\b<=Aed/\vl.size=b*wb.length/\∀a,a<v*wb.length->vl.toList[a]?=wb[a % wb.length]?:=by
 rcases g.2 with⟨c,-⟩|⟨o,l,m,f,-,d,c,h,i,j⟩
 ·cases c
 ·simp[Value.slice.injEq,Addr.mk.injEq,and_true,true_and]at f;obtain⟨rfl,rfl⟩:=f;rw[k]at d;simp[Obj.cells.injEq,and_true]at d;subst d;refine⟨c,h,i,λa e=>?_⟩;rw[<-Kq wb v a e,<-j,Ahk,if_pos e]
section
variable {P:Program} (w:World)
theorem Ih(q z:Ad5)(h:Ad5)(k:TypeInfo)(B:X)(D:Nat)(a:List X)(O:P.underlying q=some (.slice h))(K:P.info? h=some k)(ae:k.zero=some B)(j:k.size=a.length)(aa:k.bytes=D)(aq:B.cells.size=a.length)(an:0<a.length)(u:X)(c:Nat)(x:BP w h a u c)(s:Addr)(d v:Nat)(M:∀e f,(Gj a d)[e]?=some f->w.cell? (s.add e)=some f)(au:∀f∈a,f.oneCell'=true)(Y:c+d<=Aed)(ab:(c+d)*D<=140737488355328):
 ∃r o,(Builtin.append_ #[q,q] z #[u,W (some s) d v]).run P w=.ok r o/\BP o h a r (c+d)/\(∀f p,BP w h a f p->BP o h a f p)/\w.grownBy o u.ownBlock/\(r.ownBlock=u.ownBlock\/r.ownBlock=some w.heap.size):=by
 have U:∀f∈Gj a d,f.oneCell'=true:=λf i=>by
  unfold Gj at i;obtain⟨a8,m,a7⟩:=List.mem_flatten.1 i;grind
 have m:=Fm a d;obtain⟨r,o,n,af,H,-,ag⟩:=run_append_own_at (P:=P) w 0 q z h k B a.length D O K ae j aa aq an u c (Gj a c) x s d v (Gj a d) m M U Y ab (Ac0 _);refine⟨r,o,n,by show o.ownsRow _ _ _ _ _ _;rw[IZ];exact af,λf p i=>?_,H,ag⟩;rcases x.2 with⟨rfl,rfl⟩|⟨g,E,l,rfl,-,t,a5,ay,ah,a6⟩
 ·refine i.kept H ?_;cases hx:f.ownBlock with
  |none=>simp
  |some b=>exact Ad7 (by simp[Ad6])
 ·by_cases y:f.ownBlock=some g
  ·by_cases ad:c+d<=E
   ·have ac:c*k.size+(Gj a d).length<=l.size:=by rw[m,ah,j,<-Nat.add_mul];exact Aaa _ ad
    have N:=run_append_room (P:=P) w q z h k O K g c E l t s d v (Gj a d) (by rw[m,j]) M U ad ac;rw[N]at n;simp only[Result.ok.injEq]at n;obtain⟨-,rfl⟩:=n;obtain⟨a1,a2,a3,a4⟩:=BP.gX x t;rcases i.2 with⟨rfl,-⟩|⟨G,cu,ar,rfl,-,I,aj,ak,az,a0⟩
    ·simp[Ad6]at y
    ·obtain rfl:G=g:=by simpa[Ad6]using y
     rw[t]at I;simp only[Option.some.injEq,Obj.cells.injEq,and_true]at I;subst I;obtain⟨-,-,-,ap⟩:=BP.gX i t;refine⟨i.1,.inr ⟨G,cu,_,rfl,Ac0 _,setRow_heap w G l _ h _ t,aj,ak,?_,?_⟩⟩
     ·grind
     ·rw[List.toList_toArray,j];rw[m,<-j,j]at ac;refine List.ext_getElem? λe=>?_;by_cases L:e<p*a.length
      ·rw[Ahk,if_pos L,Kq a p e L];have ax:l.toList.length=l.size:=Acl;have ao:(l.toList.take (c*a.length)).length=c*a.length:=by grind
       have al:(l.toList.take (c*a.length)++Gj a d).length=c*a.length+d*a.length:=by grind
       by_cases av:e<c*a.length
       ·grind
       ·by_cases aw:e<c*a.length+d*a.length
        ·rw[Aa9 (by omega),Aex (by omega),ao,Kq a d _ (by omega)];rw[show e % a.length=(e-c*a.length) % a.length by
          conv=>lhs;rw[show e=(e-c*a.length)+c*a.length by omega]
          exact Nat.add_mul_mod_self_right _ _ _]
        ·rw[Aex (by omega),al,List.getElem?_drop,m,show c*a.length+d*a.length+(e-(c*a.length+d*a.length))=e by omega];exact ap e L
      grind
   ·have am:=x.cells (g:=g) rfl;have N:=run_append_grow (P:=P) w q z h k B O K ae ⟨g,0,none⟩ c E (Gj a c) (by rw[Fm,j]) am s d v (Gj a d) (by rw[m,j]) M (by omega) (by simp only[Aed]at Y;omega) (growslice_fits (by omega) (by rw[aa];exact ab));rw[N]at n;simp only[Result.ok.injEq]at n;obtain⟨-,rfl⟩:=n;refine i.kept (row:=none) ⟨rfl,rfl,rfl,by simp,λp ai _=>Ad3 w.drew _ ai⟩ (Ad7 ?_);rw[y];simp
  ·exact i.kept H (Ad7 (by simpa[Ad6]using y))
end
structure Gf (b:Q) (a:Nat) (d e f c:X):Prop where
 c0:b.cell? ⟨a,0,none⟩=some d
 c1:b.cell? ⟨a,1,none⟩=some e
 c2:b.cell? ⟨a,2,none⟩=some f
 c3:b.cell? ⟨a,3,none⟩=some c
 f0:b.frozen? ⟨a,0,none⟩=false
 f1:b.frozen? ⟨a,1,none⟩=false
 f2:b.frozen? ⟨a,2,none⟩=false
 f3:b.frozen? ⟨a,3,none⟩=false
theorem Gf.new(w:Q)(b c d a:X)(e:Ad5):Gf (w.alloc (.cells #[b,c,d,a] e)) w.heap.size b c d a:=⟨by simp,by simp,by simp,by simp,by simp,by simp,by simp,by simp⟩
theorem Gf.lt{u:X}(a:Gf n w m q j u):w<n.heap.size:=Adt a.c0
theorem Gf.cK(b:Gf n w m q j f)(a:p.heap[w]?=n.heap[w]?):Gf p w m q j f:=by
 refine⟨?_,?_,?_,?_,?_,?_,?_,?_⟩
 ·rw[Ac1 a];exact b.c0
 ·rw[Ac1 a];exact b.c1
 ·rw[Ac1 a];exact b.c2
 ·rw[Ac1 a];exact b.c3
 ·rw[Adm a];exact b.f0
 ·rw[Adm a];exact b.f1
 ·rw[Adm a];exact b.f2
 ·rw[Adm a];exact b.f3
theorem Gf.off(a:Gf n w m q j f)(c:Cf t n p)(b:w∉t):Gf p w m q j f:=a.cK (c.block w a.lt b)
theorem Gf.ef{a:Nat}{w:Q}{b:Nat}{x y:X}(c:Gf w b x y m q)(d:EF a w n)(e:b≠a):Gf n b x y m q:=c.cK (d.block b c.lt e)
theorem Gf.cJ{w:Q}{a:Nat}(b:Gf w a m q j f)(c:Below w.heap.size w n):Gf n a m q j f:=b.cK (c.block a b.lt)
theorem Gf.db(a:Gf n w m q j f)(b:X):Gf (n.setCell ⟨w,1,none⟩ b) w m b j f:=
 ⟨by rw[Acy _ _ _ _ (Au (by omega))];exact a.c0,Ac6 _ _ _ a.c1,by rw[Acy _ _ _ _ (Au (by omega))];exact a.c2,by rw[Acy _ _ _ _ (Au (by omega))];exact a.c3,by rw[Ac3];exact a.f0,by rw[Ac3];exact a.f1,by rw[Ac3];exact a.f2,by rw[Ac3];exact a.f3⟩
theorem Gf.dJ(a:Gf n w m q j f)(b:X):Gf (n.setCell ⟨w,2,none⟩ b) w m q b f:=
 ⟨by rw[Acy _ _ _ _ (Au (by omega))];exact a.c0,by rw[Acy _ _ _ _ (Au (by omega))];exact a.c1,Ac6 _ _ _ a.c2,by rw[Acy _ _ _ _ (Au (by omega))];exact a.c3,by rw[Ac3];exact a.f0,by rw[Ac3];exact a.f1,by rw[Ac3];exact a.f2,by rw[Ac3];exact a.f3⟩
theorem Gf.HN(a:Gf n w m q j f)(b:X):Gf (n.setCell ⟨w,3,none⟩ b) w m q j b:=
 ⟨by rw[Acy _ _ _ _ (Au (by omega))];exact a.c0,by rw[Acy _ _ _ _ (Au (by omega))];exact a.c1,by rw[Acy _ _ _ _ (Au (by omega))];exact a.c2,Ac6 _ _ _ a.c3,by rw[Ac3];exact a.f0,by rw[Ac3];exact a.f1,by rw[Ac3];exact a.f2,by rw[Ac3];exact a.f3⟩
structure Wl (b:Q) (fp:List Nat) (c:Ad5) (d:List X) (a:Nat):Prop where
 mem:a∈fp
 it:∃l:List (Option Addr×Nat×Nat),l.length=4/\(∀i (hi:i<l.length),b.cell? ⟨a,i,none⟩=some (.slice l[i].1 l[i].2.1 l[i].2.2))/\∀x∈l,BP b c d (W x.1 x.2.1 x.2.2) x.2.1/\∀q∈vB (W x.1 x.2.1 x.2.2),q∈fp
theorem Wl.fr{w':Q}{fp:List Nat}(k:Wl n fp M wb w)(d:Fr fp n w'):Wl w' fp M wb w:=by
 let ⟨e,j,h,f,a⟩:=k
 refine⟨e,j,h,λi g=>?_,λc b=>⟨Az (a c b).1 (d.sub (a c b).2),(a c b).2⟩⟩;rw[Ac1 (d w e)];exact f i g
theorem Wl.more{fp:List Nat}(j:Wl n fp M wb w)(c:∀a∈fp,a∈wg):Wl n wg M wb w:=by
 let ⟨h,k,g,f,b⟩:=j
 exact⟨c _ h,k,g,f,λe d=>⟨(b e d).1,λa i=>c _ ((b e d).2 a i)⟩⟩
def Fl(a:Nat):X:=W (some ⟨a,0,none⟩) 4 4
structure Fe (c:Q) (fp:List Nat) (f d:Ad5) (e:Nat->List X) (b:X) (a:List Nat):Prop where
 own:c.ownsRow 0 f 1 b a.length (a.map Fl)
 mem:∀q∈vB b,q∈fp
 it:∀i (hi:i<a.length),Wl c fp d (e i) a[i]
theorem Fe.fr{g w':Q}{fp:List Nat}{e a:Ad5}{d:Nat->List X}{f:X}{c:List Nat}(k:Fe g fp e a d f c)(b:Fr fp g w'):Fe w' fp e a d f c:=
 ⟨Az k.own (b.sub k.mem),k.mem,λi h=>(k.it i h).fr b⟩
theorem Fe.more{j:Q}{fp d:List Nat}{h c:Ad5}{g:Nat->List X}{i:X}{f:List Nat}(a:Fe j fp h c g i f)(e:∀b∈fp,b∈d):Fe j d h c g i f:=
 ⟨a.own,λb l=>e _ (a.mem b l),λm k=>(a.it m k).more e⟩
theorem Fe.nil(f:Q)(fp:List Nat)(e a:Ad5)(d:Nat->List X):Fe f fp e a d (W none 0 0) []:=⟨Ad1 _ _ _ _,(λh c=>by simp[EM]at c),λg b=>absurd b nofun⟩
def MQ(a:Nat):Int:=-7000-(a:Int)
def TF(a:Nat):List X:=[S ⟨#[]⟩,V C (MQ a)]
def N6(a:Nat):List X:=[S ⟨#[]⟩,V C (MQ a),A false,W none 0 0]
def T6(a:Nat):List X:=[V C 0,V C (MQ a),W none 0 0]
def Vq(a:Nat):List X:=[V C 0,V C (MQ a)]
def Dj(b c:List Nat):Prop:=∀a∈b,a∉c
theorem Dj.symm(a:Dj t wg):Dj wg t:=λd c b=>a d b c
theorem Dj.nil(b:List Nat):Dj b []:=λ_ _ a=>by cases a
structure Cz (b:Q) (d:List Nat) (f c:Ad5) (e:Nat->List X) (g:X) (a:List Nat):Prop where
 own:b.ownsRow 0 f 1 g a.length (a.map Fl)
 it:∀i (hi:i<a.length),Wl b d c (e i) a[i]
theorem Cz.fr{c w':Q}{a:List Nat}{g d:Ad5}{f:Nat->List X}{b:X}{e:List Nat}(k:Cz c a g d f b e)(j:Fr (vB b) c w')(h:Fr a c w'):Cz w' a g d f b e:=
 ⟨Az k.own j,λl i=>(k.it l i).fr h⟩
theorem Cz.more{i:Q}{b c:List Nat}{g a:Ad5}{f:Nat->List X}{h:X}{d:List Nat}(e:Cz i b g a f h d)(j:∀m∈b,m∈c):Cz i c g a f h d:=
 ⟨e.own,λl k=>(e.it l k).more j⟩
theorem Cz.nil(f:Q)(b:List Nat)(e a:Ad5)(d:Nat->List X):Cz f b e a d (W none 0 0) []:=⟨Ad1 _ _ _ _,λg c=>absurd c (by simp)⟩
theorem Cz.out{fp:List Nat}{e:Ad5}(b:Cz n t M e sj m w9)(f:∀a∈vB m,a∈fp)(c:∀a∈t,a∈fp):Fe n fp M e sj m w9:=⟨b.own,f,λg d=>(b.it g d).more c⟩
structure Apq (a:Nat) (d e f c b:List Nat):Prop where
 bx:a∉d
 WP:a∉e
 bz:a∉f
 bu:a∉c
 bf:a∉b
 xy:Dj d e
 xz:Dj d f
 xu:Dj d c
 xf:Dj d b
 yz:Dj e f
 yu:Dj e c
 yf:Dj e b
 zu:Dj f c
 zf:Dj f b
 uf:Dj c b
structure AD (a:Q) (fp:List Nat) (f:Nat) (e d c b:X) (j i h g:List Nat):Prop where
 box:Gf a f e d c b
 ex:∃fe,fp=f::(vB e++(vB d++(vB c++(vB b++fe))))/\Apq f (vB e) (vB d) (vB c) (vB b) fe/\
  Cz a fe 56 55 TF e j/\Cz a fe 61 59 N6 d i/\Cz a fe 62 65 T6 c h/\Cz a fe 66 68 Vq b g
theorem AD.mem{fp:List Nat}(a:AD n fp w m q j f wg w9 ng nl):w∈fp:=by
 obtain⟨b,rfl,-⟩:=a.ex;simp
theorem AD.i{fp:List Nat}(b:AD n fp w m q j f wg w9 ng nl):Fe n fp 56 55 TF m wg:=by
 obtain⟨e,rfl,-,c,-,-,-⟩:=b.ex;exact c.out (λd a=>by simp[a]) (λd a=>by simp[a])
theorem AD.g{fp:List Nat}(b:AD n fp w m q j f wg w9 ng nl):Fe n fp 61 59 N6 q w9:=by
 obtain⟨e,rfl,-,-,c,-,-⟩:=b.ex;exact c.out (λd a=>by simp[a]) (λd a=>by simp[a])
theorem AD.c{fp:List Nat}{e va:X}(b:AD n fp w m e j va wg w9 ng nl):Fe n fp 62 65 T6 j ng:=by
 obtain⟨f,rfl,-,-,-,d,-⟩:=b.ex;exact d.out (λq a=>by simp[a]) (λq a=>by simp[a])
theorem AD.a{fp:List Nat}{b:Nat}(d:AD n fp b m q j f wg w9 ng nl):Fe n fp 66 68 Vq f nl:=by
 obtain⟨h,rfl,-,-,-,-,e⟩:=d.ex;exact e.out (λg c=>by simp[c]) (λg c=>by simp[c])
theorem AD.fr{g w':Q}{fp:List Nat}{e:Nat}{o n m l:X}{k j i c:List Nat}(f:AD g fp e o n m l k j i c)(b:Fr fp g w'):AD w' fp e o n m l k j i c:=by
 obtain⟨h,rfl,c,p,r,s,t⟩:=f.ex;have d:Fr h g w':=b.sub λq a=>by simp[a]
 exact⟨f.box.cK (b e f.mem),h,rfl,c,p.fr (b.sub λq a=>by simp[a]) d,r.fr (b.sub λq a=>by simp[a]) d,s.fr (b.sub λq a=>by simp[a]) d,t.fr (b.sub λq a=>by simp[a]) d⟩
theorem AD.new{w:Q}{a:Nat}(b:Gf w a (W none 0 0) (W none 0 0) (W none 0 0) (W none 0 0)):AD w [a] a (W none 0 0) (W none 0 0) (W none 0 0) (W none 0 0) [] [] [] []:=
 ⟨b,[],rfl,⟨nofun,nofun,nofun,nofun,nofun,nofun,nofun,nofun,nofun,nofun,nofun,nofun,nofun,nofun,nofun⟩,Cz.nil _ _ _ _ _,Cz.nil _ _ _ _ _,Cz.nil _ _ _ _ _,Cz.nil _ _ _ _ _⟩
structure Sl where
 idx:Nat
 dst:Nat
 X6:List Nat
 G:X->Q->Prop
def Jq(c:List Nat)(b:Array Bool):Bool:=(Aev b.size).all λa=>b.getD a false||c.contains a
theorem Mm{K:Program}(ak:FM w3 wc=true)(c:List Sl)(al:(c.map (·.dst)).Nodup)(aq:(c.map (·.idx)).Nodup)(av:∀a∈c,∀u∈a.X6,Region.waitsFor w3 wc a.idx u=true)(m:Act)(au:∀a∈c,a.dst<m.tmps.size)(l p:Q->Prop)(v:Nat)(aj:∀b,l b->vo b)(ab:∀a∈c,∃k,wc[a.idx]?=some k/\k.guard=none/\k.dst=some a.dst/\∀d b,Bh (c.map (·.dst)) m d->l b->(a.idx=v->p b)->(∀e∈c,e.idx∈a.X6->e.G (d.eval (.tmp e.dst)) b)->
 ∃w o,(execOp d.eval k).run K b=.ok (.value w) o/\l o/\a.G w o/\(a.idx≠v->p b->p o)/\∀e∈c,e.idx≠a.idx->∀ad,e.G ad b->e.G ad o) {x:Q} (z:Nat) (j:Array Bool) (aa:j.size=wc.size) (an:j.toList.count false<=z) (a2:Jq (c.map (·.idx)) j=true) (aw:∀a∈c,j.getD a.idx false=false) (ai:l x) (ag:p x) (am:∀d b,Bh (c.map (·.dst)) m d->l b->(∀a∈c,a.G (d.eval (.tmp a.dst)) b)->w6 .normal d b):wpAnyH K w3 wc w6 vo z j m x:=by
 refine PW ak (λi d b=>i.size=wc.size/\(∀h,i.getD h true=false->h∈c.map (·.idx))/\Bh (c.map (·.dst)) m d/\l b/\(i.getD v false=false->p b)/\∀a∈c,i.getD a.idx false=true->a.G (d.eval (.tmp a.dst)) b) ?_ ?_ z j m x aa an ?_
 ·rintro i d b h k ⟨ac,E,r,I,H,D⟩ t a1 M;obtain⟨a,f,rfl⟩:=Adj.1 (E h a1);let ⟨a3,ax,ao,N,az⟩:=ab a f
  obtain rfl:a3=k:=Aba (ax.symm.trans t);have ar:a.idx<i.size:=by grind
  obtain⟨w,o,ay,L,ae,ah,af⟩:=az d b r I (λy=>H (by grind)) (λe s n=>by
   let ⟨a8,a6,y,a5,a4,a7⟩:=Region.waitsFor_spec (av a f _ n)
   grind)
  unfold wpOp;simp only[t];rw[if_pos (by simp[Region.wanted,ao])];refine .inl ?_;unfold Oper.wp;rw[ay];have a0:(i.setIfInBounds a.idx true).getD a.idx false=true:=by rw[Ad2,Abc ar];rfl
  refine⟨aj _ L,by simpa using ac,λu U=>?_,by rw[N];exact r.put (Adj.2 ⟨a,f,rfl⟩) w,L,λn=>?_,λe s Y=>?_⟩
  ·by_cases g:a.idx=u
   ·exact Adj.2 ⟨a,f,g⟩
   ·rw[getD_set_ne true g]at U;exact E u U
  ·by_cases g:a.idx=v
   ·rw[<-g,a0]at n;cases n
   ·rw[getD_set_ne false g]at n;exact ah g (H n)
  ·rw[N];by_cases g:a.idx=e.idx
   ·obtain rfl:a=e:=by
     have:=Gl aq f s g;exact this
    rw[A4 (by rw[r.size];exact au a f)];exact ae
   ·rw[CX (λy=>g (by rw[Gl al f s y]))];rw[getD_set_ne false g]at Y;exact af e s (Aa7 g) _ (D e s Y)
 ·rintro i d b ⟨ac,E,r,I,H,D⟩ M;refine am d b r I λa f=>D a f (M _ ?_);obtain⟨k,t,-⟩:=ab a f;exact(Aeq.1 t).1
 ·refine⟨aa,λh O=>?_,Bh.refl _ _,ai,λ_=>ag,λa f q=>?_⟩
  ·have ap:h<j.size:=by
    rcases Abo h j.size with B|B
    ·exact B
    ·simp[Ahs B]at O
   have q:=Acq.1 a2 h (Afh.2 ap);rw[getD_both O]at q;simpa using q
  ·rw[aw a f]at q;cases q
structure BX (lo:Nat) (V A:List Nat) (e:Ad5) (mc:List X) (a b:Q):Prop where
 os:b.os=a.os
 tape:b.tape=a.tape
 output:b.output=a.output
 size:a.heap.size<=b.heap.size
 hi:∀q,lo<=q->q<a.heap.size->b.heap[q]?=a.heap[q]?
 lw:∀q,q<lo->q∉V->q∉A->q<a.heap.size->b.heap[q]?=a.heap[q]?
 mr:∀u k,BP a e mc u k->(∀q∈vB u,q∈V\/lo<=q)->BP b e mc u k
def HE(e:Nat)(d:Ad5)(f:List X)(b:Nat)(g:X)(c:Q):Prop:=∃a,g=W (some ⟨a,0,none⟩) b b/\e<=a/\a<c.heap.size/\c.heap[a]?=some (.cells (Gj f b).toArray d)
def Fq(h:Nat)(e:List Nat)(g:Ad5)(i:List X)(c:Nat)(b:X)(d:Q):Prop:=∃j f,b=W j c f/\BP d g i b c/\∀a∈vB b,a∈e\/(h<=a/\a<d.heap.size)
def Io(d:Nat)(e:List Nat)(f q:Ad5)(h:List X)(g:Nat)(c:List Nat)(b:Q):Prop:=g∈c/\(d<=g/\g<b.heap.size)/\(∀a∈c,a∈e\/(d<=a/\a<b.heap.size))/\∃m n o p i j k l,b.heap[g]?=some (.cells #[i,j,k,l] q)/\(Fq d e f h m i b/\∀a∈vB i,a∈c)/\(Fq d e f h n j b/\∀a∈vB j,a∈c)/\(Fq d e f h o k b/\∀a∈vB k,a∈c)/\(Fq d e f h p l b/\∀a∈vB l,a∈c)
theorem HE.step{A:List Nat}(g:HE w M wb v m n)(b:BX w t A M wb n p):HE w M wb v m p:=by
 let ⟨a,e,c,d,f⟩:=g
 exact⟨a,e,c,Ac2 d b.size,by rw[b.hi a c d];exact f⟩
theorem Fq.step{A:List Nat}(i:Fq w t M wb v m n)(c:BX w t A M wb n p):Fq w t M wb v m p:=by
 let ⟨j,f,g,h,d⟩:=i
 refine⟨j,f,g,c.mr _ _ h (λb a=>(d b a).imp id And.left),λb a=>(d b a).imp id λe=>⟨e.1,Ac2 e.2 c.size⟩⟩
theorem Io.step{e:Nat}{c A:List Nat}{d n:Ad5}{f:List X}{o p:Q}{g:Nat}{h:List Nat}(u:Io e c d n f g h o)(a:BX e c A d f o p):Io e c d n f g h p:=by
 let ⟨q,b,r,v,w,x,y,B,D,E,G,s,i,j,k,l⟩:=u
 exact⟨q,⟨b.1,Ac2 b.2 a.size⟩,λz t=>(r z t).imp id λm=>⟨m.1,Ac2 m.2 a.size⟩,v,w,x,y,B,D,E,G,by rw[a.hi g b.1 b.2];exact s,⟨i.1.step a,i.2⟩,⟨j.1.step a,j.2⟩,⟨k.1.step a,k.2⟩,⟨l.1.step a,l.2⟩⟩
theorem BX.alloc{lo:Nat}{V A:List Nat}{e:Ad5}{mc:List X}(b:Q)(o:Obj):BX lo V A e mc b (b.alloc o):=
 ⟨rfl,rfl,rfl,by simp,λc _ a=>Ad3 b o a,λc _ _ _ a=>Ad3 b o a,λu d a _=>Adr a o⟩
theorem BX.marks(b:n.grownBy p m.ownBlock)(j:∀d c,BP n M wb d c->BP p M wb d c)(f:∀a,a∈vB m->a∈t)(i:∀a∈t,a<w):BX w t wg M wb n p:=
 ⟨b.os,b.tape,b.output,b.size,λa k e=>b.block a e (λM=>by have:=i a (f a (Ah.2 M.symm));omega),λa _ e _ h=>b.block a h (λM=>e (f a (Ah.2 M.symm))),λd c g _=>j d c g⟩
theorem BX.book(b:n.grownBy p m.ownBlock)(d:∀a,a∈vB m->a∈wg)(h:∀a∈wg,a<w)(l:∀a∈t,a∉wg):BX w t wg M wb n p:=by
 refine⟨b.os,b.tape,b.output,b.size,λa e c=>b.block a c (λM=>by have:=h a (d a (Ah.2 M.symm));omega),λa _ _ c g=>b.block a g (λM=>c (d a (Ah.2 M.symm))),λk q f i=>?_⟩;refine Ag0 f b ?_;cases hx:k.ownBlock with
 |none=>simp
 |some a=>
  refine Ad7 λj=>?_;have o:=d a (Ah.2 j.symm);rcases i a (Ah.2 hx) with e|e
  ·grind
  grind
def DY(e:Nat)(i h:List Nat)(k m n:Ad5)(l:List X)(f:Nat)(o:List X)(g:X)(b:Q):Prop:=
 ∃a j d c,g=W (some ⟨a,0,none⟩) (f+1) j/\b.ownsRow 0 m 1 g (f+1) (o++[Fl d])/\(a∈h\/e<=a)/\a<b.heap.size/\Io e i k n l d c b/\a∉c
structure BW (b:Q) (c:Nat) (e d:List Nat) (f:Ad5) (g:List X) (i:X) (h:Nat) (a:Q):Prop where
 os:a.os=b.os
 tape:a.tape=b.tape
 output:a.output=b.output
 size:c<=a.heap.size
 fr:∀q,q<c->q∉e->q∉d->a.heap[q]?=b.heap[q]?
 mr:BP a f g i h
theorem BW.step{A:List Nat}(a:BW h w t A M wb m v n)(b:BX w t A M wb n p)(g:∀c∈vB m,c∈t):BW h w t A M wb m v p:=by
 refine⟨b.os.trans a.os,b.tape.trans a.tape,b.output.trans a.output,Ac5 a.size b.size,λc d e f=>?_,b.mr _ _ a.mr λc i=>Ads (g c i)⟩;rw[b.lw c d e f (by have:=a.size;omega)];exact a.fr c d e f
theorem G9{P:Program}(f r:Ad5)(c:TypeInfo)(k:X)(g:Nat)(U:P.underlying f=some (.slice M))(K:P.info? M=some c)(aa:c.zero=some k)(N:c.size=wb.length)(H:c.bytes=g)(ab:k.cells.size=wb.length)(O:0<wb.length)(y:∀j∈wb,j.oneCell'=true)(l:t=vB m)(D:∀e∈t,e<w)(ad:BW p w t wg M wb m v n){a:Nat}{s:X}(Y:HE w M wb a s n)(ak:0<a)(z:v+a<=Aed)(I:(v+a)*g<=140737488355328):
 ∃i b,(Builtin.append_ #[f,f] r #[m,s]).run P n=.ok i b/\Fq w t M wb (v+a) i b/\BX w t wg M wb n b/\n.grownBy b m.ownBlock:=by
 obtain⟨u,rfl,ag,ah,B⟩:=Y;let ⟨i,b,L,q,E,o,G⟩:=Ih n f r M c k g wb U K aa N H ab O m v ad.mr ⟨u,0,none⟩ a a (λac j aj=>Adu B ac j (by omega)) y z I
 obtain⟨ae,x,rfl,-,ai⟩:=World.ownsRow.form q (by omega);refine⟨_,b,L,⟨_,x,rfl,q,λe d=>?_⟩,BX.marks o E (λe d=>by rw[l];exact d) D,o⟩;rw[An,Ac9]at d;subst d;rcases G with h|h
 ·left;rw[l];exact Ah.2 h.symm
 ·have af:e=n.heap.size:=by simpa[Ad6]using h
  omega
theorem Hh(e:n.grownBy p m.ownBlock)(d:t=vB m)(c:n.ownsRow 0 M 1 q w wb)(f:∀a∈vB q,a∉t):p.ownsRow 0 M 1 q w wb:=by
 refine Ag0 c e ?_;cases hx:q.ownBlock with
 |none=>simp
 |some a=>exact Ad7 λb=>f a (Ah.2 hx) (by rw[d];exact Ah.2 b.symm)
theorem DY.alloc{lo:Nat}{V A:List Nat}{e d:Ad5}{mc:List X}{a:Q}{c:Ad5}{b:Nat}{g:List X}{f:X}(q:DY lo V A e d c mc b g f a)(o:Obj):DY lo V A e d c mc b g f (a.alloc o):=by
 obtain⟨j,h,k,i,rfl,l,m,r,n,p⟩:=q;exact⟨j,h,k,i,rfl,Adr l o,m,by simp;omega,n.step (A:=A) (BX.alloc a o),p⟩
theorem DY.marks(s:DY w t wg M sn yd wb v vq m n)(o:n.grownBy p q.ownBlock)(b:BX w t wg M wb n p)(l:t=vB q)(x:∀a∈t,a<w)(u:∀a∈t,a∉wg):DY w t wg M sn yd wb v vq m p:=by
 obtain⟨e,c,f,d,rfl,g,h,i,j,k⟩:=s;refine⟨e,c,f,d,rfl,Hh o l g λa r y=>?_,h,Ac2 i b.size,j.step b,k⟩;rw[An,Ac9]at r;grind
structure Abi (f:Program) (d:Array Oper) (c:Act) (b:List Nat) (i M N:Ad5) (j:List X) (g O:X) (G H I z B D K L E q r s v x y t u U k l m n:Nat) (e p:Ad5):Prop where
 b1:∃o,d[G]?=some o/\o.guard=none/\o.dst=some q/\∀a w,Bh b c a->(execOp a.eval o).run f w=.ok (.value (W (some ⟨w.heap.size,0,none⟩) 1 1)) (w.alloc (.cells (Gj j 1).toArray i))
 b2:∃o,d[H]?=some o/\o.guard=none/\o.dst=some r/\∀a w,Bh b c a->(execOp a.eval o).run f w=.ok (.value (W (some ⟨w.heap.size,0,none⟩) 2 2)) (w.alloc (.cells (Gj j 2).toArray i))
 b3:∃o,d[I]?=some o/\o.guard=none/\o.dst=some s/\∀a w,Bh b c a->(execOp a.eval o).run f w=.ok (.value (W (some ⟨w.heap.size,0,none⟩) 6 6)) (w.alloc (.cells (Gj j 6).toArray i))
 c1:∃o,d[z]?=some o/\o.guard=none/\o.dst=some v/\o.op=.call {callee:=.builtin .append,args:=#[.tmp k,.tmp q],argTypes:=#[e,e]}
 c2:∃o,d[B]?=some o/\o.guard=none/\o.dst=some x/\o.op=.call {callee:=.builtin .append,args:=#[.tmp l,.tmp r],argTypes:=#[e,e]}
 c3:∃o,d[D]?=some o/\o.guard=none/\o.dst=some y/\o.op=.call {callee:=.builtin .append,args:=#[.tmp m,.tmp s],argTypes:=#[e,e]}
 b4:∃o,d[K]?=some o/\o.guard=none/\o.dst=some t/\∀a w q1 n1 k1 q2 n2 k2 q3 n3 k3,Bh b c a->a.eval (.tmp v)=W q1 n1 k1->a.eval (.tmp x)=W q2 n2 k2->a.eval (.tmp y)=W q3 n3 k3->
  (execOp a.eval o).run f w=.ok (.value (Fl w.heap.size)) (w.alloc (.cells #[g,W q1 n1 k1,W q2 n2 k2,W q3 n3 k3] M))
 b5:∃o,d[L]?=some o/\o.guard=none/\o.dst=some u/\∀a w h,Bh b c a->a.eval (.tmp t)=Fl h->(execOp a.eval o).run f w=.ok (.value (W (some ⟨w.heap.size,0,none⟩) 1 1)) (w.alloc (.cells #[Fl h] N))
 c4:∃o,d[E]?=some o/\o.guard=none/\o.dst=some U/\o.op=.call {callee:=.builtin .append,args:=#[.tmp n,.tmp u],argTypes:=#[p,p]}
 e1:k∉b/\c.eval (.tmp k)=g
 e2:l∉b/\c.eval (.tmp l)=g
 e3:m∉b/\c.eval (.tmp m)=g
 e4:n∉b/\c.eval (.tmp n)=O
def Sn(d:Nat)(e:List Nat)(f i j:Ad5)(h:List X)(k:X)(b:Q):Prop:=∃a c g,k=W (some ⟨a,0,none⟩) 1 1/\d<=a/\a<b.heap.size/\b.heap[a]?=some (.cells #[Fl c] j)/\Io d e f i h c g b
theorem Sn.step{d:Nat}{a A:List Nat}{b j:Ad5}{e:List X}{l m:Q}{i:Ad5}{k:X}(r:Sn d a b i j e k l)(c:BX d a A b e l m):Sn d a b i j e k m:=by
 let ⟨f,s,n,o,g,h,p,q⟩:=r
 exact⟨f,s,n,o,g,Ac2 h c.size,by rw[c.hi f g h];exact p,q.step c⟩
def nine(b:Nat)(d q:List Nat)(a f p:Ad5)(c:List X)(e t:Nat)(D:List X)(k l m g h i n o r w x y E G H z B I:Nat):List Sl:=
 [⟨k,w,[],HE b a c 1⟩,⟨l,x,[],HE b a c 2⟩,⟨m,y,[],HE b a c 6⟩,⟨g,E,[k],Fq b d a c (e+1)⟩,⟨h,G,[l],Fq b d a c (e+2)⟩,⟨i,H,[m],Fq b d a c (e+6)⟩,
  ⟨n,z,[g,h,i],λu v=>∃j s,u=Fl j/\Io b d a f c j s v⟩,⟨o,B,[n],Sn b d a f p c⟩,⟨r,I,[o],DY b d q a p f c t D⟩]
theorem HT{P:Program}{lo:Nat}{V A:List Nat}{e tt:Ad5}{mc:List X}{te:Ad5}{v va:X}{n r:Nat}{xs:List X}{s1 s2 s3 a1 a2 a3 s4 s5 a4 x1 x2 x3 y1 y2 y3 x4 x5 y4 p1 p2 p3 p4:Nat}{t T:Ad5}{w0:Q}(br:FM .any wc=true)(bs:[x1,x2,x3,y1,y2,y3,x4,x5,y4].Nodup)(aV:[s1,s2,s3,a1,a2,a3,s4,s5,a4].Nodup)(aX:([(a1,s1),(a2,s2),(a3,s3),(s4,a1),(s4,a2),(s4,a3),(s5,s4),(a4,s5)].all λay=>Region.waitsFor .any wc ay.1 ay.2)=true)(b0:∀bc∈[x1,x2,x3,y1,y2,y3,x4,x5,y4],bc<wj.tmps.size)(x:Abi P wc wj [x1,x2,x3,y1,y2,y3,x4,x5,y4] e te tt mc v va s1 s2 s3 a1 a2 a3 s4 s5 a4 x1 x2 x3 y1 y2 y3 x4 x5 y4 p1 p2 p3 p4 t T)(aa:TypeInfo)(ao:X)(ae:Nat)(aL:P.underlying t=some (.slice e))(aH:P.info? e=some aa)(aN:aa.zero=some ao)(aK:aa.size=mc.length)(aD:aa.bytes=ae)(aO:ao.cells.size=mc.length)(an:0<mc.length)(ai:∀i∈mc,i.oneCell'=true)(aE:(n+6)*ae<=140737488355328)(bf:n+6<=Aed)(ad:TypeInfo)(a6:X)(bm:P.underlying T=some (.slice tt))(bj:P.info? tt=some ad)(bo:ad.zero=some a6)(bl:ad.size=1)(bk:ad.bytes=24)(bp:a6.cells.size=1)(bU:r<1000000000000)(bT:lo=w0.heap.size)(E:V=vB v)(aB:A=vB va)(al:∀o∈V,o<lo)(aU:∀o∈A,o<lo)(aq:∀o∈V,o∉A)(aW:BP w0 e mc v n)(bE:w0.ownsRow 0 tt 1 va r xs)(bn:∀a,BW w0 lo V A e mc v n a->vo a)(a7:Nat)(ac:Array Bool)(bz:ac.size=wc.size)(bu:ac.toList.count false<=a7)(bC:Jq [s1,s2,s3,a1,a2,a3,s4,s5,a4] ac=true)(b9:∀au∈[s1,s2,s3,a1,a2,a3,s4,s5,a4],ac.getD au false=false)(bt:∀p a,Bh [x1,x2,x3,y1,y2,y3,x4,x5,y4] wj p->BW w0 lo V A e mc v n a->DY lo V A e tt te mc r xs (p.eval (.tmp y4)) a->w6 .normal p a):wpAnyH P .any wc w6 vo a7 ac wj w0:=by
 have bG:=Ad aW;refine Mm br (nine lo V A e te tt mc n r xs s1 s2 s3 a1 a2 a3 s4 s5 a4 x1 x2 x3 y1 y2 y3 x4 x5 y4) bs aV ?_ wj ?_ (BW w0 lo V A e mc v n) (λa=>a.ownsRow 0 tt 1 va r xs) a4 bn ?_ a7 ac bz bu bC ?_ ⟨rfl,rfl,rfl,by omega,λ_ _ _ _=>rfl,aW⟩ bE ?_
 ·intro b c au I;simp only[Acd,List.all_nil,Ahb,Ael]at aX;obtain⟨bI,bJ,bK,bL,bM,bN,bO,bP⟩:=aX;simp only[nine,Ady,Aaz,or_false]at c;rcases c with rfl|rfl|rfl|rfl|rfl|rfl|rfl|rfl|rfl<;>simp only[Ady,Aaz,or_false]at I
  ·subst I;exact bI
  ·subst I;exact bJ
  ·subst I;exact bK
  ·rcases I with rfl|rfl|rfl
   ·exact bL
   ·exact bM
   ·exact bN
  ·subst I;exact bO
  ·subst I;exact bP
 ·intro b c;have aj:b.dst∈(nine lo V A e te tt mc n r xs s1 s2 s3 a1 a2 a3 s4 s5 a4 x1 x2 x3 y1 y2 y3 x4 x5 y4).map (·.dst):=Adj.2 ⟨b,c,rfl⟩;exact b0 _ aj
 ·
  have aI:∀{a m:Q},BX lo V A e mc a m->∀b∈nine lo V A e te tt mc n r xs s1 s2 s3 a1 a2 a3 s4 s5 a4 x1 x2 x3 y1 y2 y3 x4 x5 y4,(b.idx=a4->∀i,b.G i a->b.G i m)->∀i,b.G i a->b.G i m:=by
   intro a m d b c O i j;simp only[nine,Ady,Aaz,or_false]at c;rcases c with rfl|rfl|rfl|rfl|rfl|rfl|rfl|rfl|rfl
   ·exact HE.step j d
   ·exact HE.step j d
   ·exact HE.step j d
   ·exact Fq.step j d
   ·exact Fq.step j d
   ·exact Fq.step j d
   ·obtain⟨q,L,ai,aj⟩:=j;exact⟨q,L,ai,aj.step d⟩
   ·exact Sn.step j d
   ·exact O rfl i j
  have aT:∀b∈nine lo V A e te tt mc n r xs s1 s2 s3 a1 a2 a3 s4 s5 a4 x1 x2 x3 y1 y2 y3 x4 x5 y4,b.idx=a4->b=⟨a4,y4,[s5],DY lo V A e tt te mc r xs⟩:=by
   intro b c U;exact Gl (f:=Sl.idx) (l:=nine lo V A e te tt mc n r xs s1 s2 s3 a1 a2 a3 s4 s5 a4 x1 x2 x3 y1 y2 y3 x4 x5 y4) aV c (by simp[nine]) U
  have am:∀(a:Q) (k:Obj),∀b∈nine lo V A e te tt mc n r xs s1 s2 s3 a1 a2 a3 s4 s5 a4 x1 x2 x3 y1 y2 y3 x4 x5 y4,∀i,b.G i a->b.G i (a.alloc k):=by
   intro a k b c;refine aI (BX.alloc a k) b c λU i j=>?_;rw[aT b c U]at j ⊢;exact DY.alloc j k
  have aJ:∀(a m:Q),a.grownBy m v.ownBlock->BX lo V A e mc a m->∀b∈nine lo V A e te tt mc n r xs s1 s2 s3 a1 a2 a3 s4 s5 a4 x1 x2 x3 y1 y2 y3 x4 x5 y4,∀i,b.G i a->b.G i m:=by
   intro a m w d b c;refine aI d b c λU i j=>?_;rw[aT b c U]at j ⊢;exact DY.marks j w d E al aq
  have H:∀{a m:Q},BW w0 lo V A e mc v n a->BX lo V A e mc a m->BW w0 lo V A e mc v n m:=λbH q=>bH.step q (λo h=>by rw[E];exact h);have aC:∀(a:Q) (ab:Nat),lo<=a.heap.size->HE lo e mc ab (W (some ⟨a.heap.size,0,none⟩) ab ab) (a.alloc (.cells (Gj mc ab).toArray e)):=λa ab bx=>⟨a.heap.size,rfl,bx,by simp,Adp _ _⟩;have aM:∀o∈vB va,o∉V:=λo h bD=>aq o bD (by rw[aB];exact h);intro b c;have bV:=c;simp only[nine,Ady,Aaz,or_false]at c;rcases c with rfl|rfl|rfl|rfl|rfl|rfl|rfl|rfl|rfl
  ·obtain⟨k,z,w,y,K⟩:=x.b1;exact⟨k,z,w,y,λp a u g _ _=>⟨_,_,K p a u,H g (BX.alloc a _),aC a 1 g.size,λ_ s=>Adr s _,λb c _=>am a _ b c⟩⟩
  ·obtain⟨k,z,w,y,K⟩:=x.b2;exact⟨k,z,w,y,λp a u g _ _=>⟨_,_,K p a u,H g (BX.alloc a _),aC a 2 g.size,λ_ s=>Adr s _,λb c _=>am a _ b c⟩⟩
  ·obtain⟨k,z,w,y,K⟩:=x.b3;exact⟨k,z,w,y,λp a u g _ _=>⟨_,_,K p a u,H g (BX.alloc a _),aC a 6 g.size,λ_ s=>Adr s _,λb c _=>am a _ b c⟩⟩
  ·obtain⟨k,z,w,y,Y⟩:=x.c1;refine⟨k,z,w,y,λp a u g _ B=>?_⟩;have O:=B ⟨s1,x1,[],HE lo e mc 1⟩ (by simp[nine]) (by simp);obtain⟨i,m,j,N,d,D⟩:=G9 (P:=P) t k.type aa ao ae aL aH aN aK aD aO an ai E al g O (by omega) (by omega) (Ac5 (Aaa _ (by omega)) aE);exact⟨i,m,BG _ _ t Y (by rw[u.eval x.e1.1];exact x.e1.2) rfl j,H g d,N,λ_ s=>Hh D E s aM,λb c _=>aJ a m D d b c⟩
  ·obtain⟨k,z,w,y,Y⟩:=x.c2;refine⟨k,z,w,y,λp a u g _ B=>?_⟩;have O:=B ⟨s2,x2,[],HE lo e mc 2⟩ (by simp[nine]) (by simp);obtain⟨i,m,j,N,d,D⟩:=G9 (P:=P) t k.type aa ao ae aL aH aN aK aD aO an ai E al g O (by omega) (by omega) (Ac5 (Aaa _ (by omega)) aE);exact⟨i,m,BG _ _ t Y (by rw[u.eval x.e2.1];exact x.e2.2) rfl j,H g d,N,λ_ s=>Hh D E s aM,λb c _=>aJ a m D d b c⟩
  ·obtain⟨k,z,w,y,Y⟩:=x.c3;refine⟨k,z,w,y,λp a u g _ B=>?_⟩;have O:=B ⟨s3,x3,[],HE lo e mc 6⟩ (by simp[nine]) (by simp);obtain⟨i,m,j,N,d,D⟩:=G9 (P:=P) t k.type aa ao ae aL aH aN aK aD aO an ai E al g O (by omega) bf (Ac5 (Aaa _ (by omega)) aE);exact⟨i,m,BG _ _ t Y (by rw[u.eval x.e3.1];exact x.e3.2) rfl j,H g d,N,λ_ s=>Hh D E s aM,λb c _=>aJ a m D d b c⟩
  ·obtain⟨k,z,w,y,K⟩:=x.b4;refine⟨k,z,w,y,λp a u g _ B=>?_⟩;have af:=B ⟨a1,y1,[s1],Fq lo V e mc (n+1)⟩ (by simp[nine]) (by simp);have ag:=B ⟨a2,y2,[s2],Fq lo V e mc (n+2)⟩ (by simp[nine]) (by simp);have ah:=B ⟨a3,y3,[s3],Fq lo V e mc (n+6)⟩ (by simp[nine]) (by simp);simp only at af ag ah;obtain⟨az,av,aP,-⟩:=id af;obtain⟨a0,aw,aQ,-⟩:=id ag;obtain⟨a5,ax,aR,-⟩:=id ah;have d:=BX.alloc (lo:=lo) (V:=V) (A:=A) (e:=e) (mc:=mc) a (.cells #[v,W az (n+1) av,W a0 (n+2) aw,W a5 (n+6) ax] te);have aS:Fq lo V e mc n v a:=by
    obtain⟨ay,ba,bB⟩:=bG;exact⟨ay,ba,bB,g.mr,λo h=>Ads (by rw[E];exact h)⟩
   rw[aP]at af;rw[aQ]at ag;rw[aR]at ah;refine⟨_,_,K p a _ _ _ _ _ _ _ _ _ u aP aQ aR,H g d,⟨a.heap.size,a.heap.size::(vB v++(vB (W az (n+1) av)++(vB (W a0 (n+2) aw)++vB (W a5 (n+6) ax)))),rfl,Aew,⟨g.size,by simp⟩,λo h=>?_,n,n+1,n+2,n+6,_,_,_,_,Adp _ _,⟨aS.step d,λo h=>by simp[h]⟩,⟨af.step d,λo h=>by simp[h]⟩,⟨ag.step d,λo h=>by simp[h]⟩,⟨ah.step d,λo h=>by simp[h]⟩⟩,λ_ s=>Adr s _,λb c _=>am a _ b c⟩;have an:(a.alloc (.cells #[v,W az (n+1) av,W a0 (n+2) aw,W a5 (n+6) ax] te)).heap.size=a.heap.size+1:=by simp
   have ar:∀{i:X} {ab:Nat},Fq lo V e mc ab i a->o∈vB i->o∈V\/(lo<=o/\o<(a.alloc (.cells #[v,W az (n+1) av,W a0 (n+2) aw,W a5 (n+6) ax] te)).heap.size):=λbe j=>by
    obtain⟨-,-,-,-,bg⟩:=be;exact(bg o j).imp id λa9=>⟨a9.1,by omega⟩
   rcases Ady.1 h with a9|h
   ·right;rw[a9,an];exact⟨g.size,by omega⟩
   ·rcases Acz.1 h with h|h
    ·exact ar aS h
    ·rcases Acz.1 h with h|h
     ·exact ar af h
     ·rcases Acz.1 h with h|h
      ·exact ar ag h
      ·exact ar ah h
  ·obtain⟨k,z,w,y,K⟩:=x.b5;refine⟨k,z,w,y,λp a u g _ B=>?_⟩;obtain⟨q,L,bw,ap⟩:=B ⟨s4,x4,[a1,a2,a3],λv a=>∃q L,v=Fl q/\Io lo V e te mc q L a⟩ (by simp[nine]) (by simp);have d:=BX.alloc (lo:=lo) (V:=V) (A:=A) (e:=e) (mc:=mc) a (.cells #[Fl q] tt);exact⟨_,_,K p a q u bw,H g d,⟨a.heap.size,q,L,rfl,g.size,by simp,Adp _ _,ap.step d⟩,λ_ s=>Adr s _,λb c _=>am a _ b c⟩
  ·obtain⟨k,z,w,y,Y⟩:=x.c4;refine⟨k,z,w,y,λp a u g s B=>?_⟩;obtain⟨aZ,q,L,bh,bQ,bR,bi,ap⟩:=B ⟨s5,x5,[s4],Sn lo V e te tt mc⟩ (by simp[nine]) (by simp);have s:=s rfl;obtain⟨i,m,j,aY,D,-,bq⟩:=run_append_own_at (P:=P) a 0 T k.type tt ad a6 1 24 bm bj bo bl bk bp (by omega) va r xs s ⟨aZ,0,none⟩ 1 1 [Fl q] rfl (λau i I=>Adu bi au i (by simpa using I)) (by intro i j;rw[Ac9]at j;subst j;rfl) (by unfold Aed;omega) (by omega) (Ac0 _);have d:BX lo V A e mc a m:=BX.book D (λo h=>by rw[aB];exact h) aU aq;obtain⟨M,bb,rfl,-,bv⟩:=World.ownsRow.form aY (by omega);have aG:M∈A\/M=a.heap.size:=by
    rcases bq with q|q
    ·left;rw[aB];exact Ah.2 q.symm
    ·right;simpa[Ad6]using q
   have b7:M∉L:=λb6=>by
    have bS:=g.size;rcases ap.2.2.1 M b6 with a8|a8
    ·rcases aG with ak|ak
     ·exact aq M a8 ak
     ·have:=al M a8;omega
    ·rcases aG with ak|ak
     ·have:=aU M ak;omega
     ·omega
   refine⟨_,m,BG _ _ T Y (by rw[u.eval x.e4.1];exact x.e4.2) bh j,H g d,⟨M,bb,q,L,rfl,aY,aG.imp id (λe=>by rw[e];exact g.size),bv,ap.step d,b7⟩,λq=>absurd rfl q,λb c b8=>aI d b c λU=>absurd U b8⟩
 ·intro b c;have aj:b.idx∈(nine lo V A e te tt mc n r xs s1 s2 s3 a1 a2 a3 s4 s5 a4 x1 x2 x3 y1 y2 y3 x4 x5 y4).map (·.idx):=Adj.2 ⟨b,c,rfl⟩;exact b9 _ aj
 ·intro p a u g N;exact bt p a u g (N ⟨a4,y4,[s5],DY lo V A e tt te mc r xs⟩ (by simp[nine]))
theorem DH(a:Nat)(b:Q)(f:a<140737488355328):Adg Acs 13 #[V C (a:Int)] b λc d=>c=F (V C (MQ a))/\d=b:=by
 have e:Hid (MQ a=-7000-a):=rfl;go_wp2;go_ret;exact⟨rfl,rfl⟩
def part(b c:List X)(a:Nat):List X:=Gj b a++c.drop (a*b.length)
theorem Gt(b a:List X):part b a 0=a:=by simp[part,Gj]
theorem I2(a c:List X)(b:Nat)(d:c.length=b*a.length):part a c b=Gj a b:=by unfold part;grind
theorem Jj(b c:X)(d:List X)(a:Nat)(e:a*2+1<d.length):((part [b,c] d a).set (a*2) b).set (a*2+1) c=part [b,c] d (a+1):=by
 have g:(Gj [b,c] a).length=a*2:=Fm _ _;have f:d.drop (a*2)=d[a*2]::d[a*2+1]::d.drop ((a+1)*2):=by
  rw[Adv (by omega),Adv e,show(a+1)*2=a*2+1+1 by omega]
 unfold part;rw[show([b,c]).length=2 from rfl,f,IZ,show Gj [b,c] 1=[b,c] by rfl,Aem];simp_all
theorem BP.cJ{w:Q}{a:Nat}(b:BP w M wb m a)(c:Below w.heap.size w n):BP n M wb m a:=Dh b c
theorem Gf.eg(a:Gf n w m q j f)(b:X):Gf (n.setCell ⟨w,0,none⟩ b) w b q j f:=
 ⟨Ac6 _ _ _ a.c0,by rw[Acy _ _ _ _ (Au (by omega))];exact a.c1,by rw[Acy _ _ _ _ (Au (by omega))];exact a.c2,by rw[Acy _ _ _ _ (Au (by omega))];exact a.c3,
  by rw[Ac3];exact a.f0,by rw[Ac3];exact a.f1,by rw[Ac3];exact a.f2,by rw[Ac3];exact a.f3⟩
theorem Io.fo(z:Io w t M sn wb v wg n)(c:Fr wg n p)(d:∀a∈wg,a∈w9):Wl p w9 M wb v:=by
 obtain⟨e,N,O,B,D,E,G,aa,ab,ac,ad,q,⟨⟨H,k,rfl,r,-⟩,g⟩,⟨⟨I,l,rfl,s,-⟩,h⟩,⟨⟨K,m,rfl,u,-⟩,i⟩,⟨⟨L,o,rfl,x,-⟩,j⟩⟩:=z;refine⟨d v e,[(H,B,k),(I,D,l),(K,E,m),(L,G,o)],rfl,λy U=>?_,λY f=>?_⟩
 ·rw[cell_of_row p v y _ _ _ (by rw[c v e];exact q)];grind
 ·simp[or_false]at f;rcases f with rfl|rfl|rfl|rfl
  ·exact⟨Az r (c.sub g),λa b=>d a (g a b)⟩
  ·exact⟨Az s (c.sub h),λa b=>d a (h a b)⟩
  ·exact⟨Az u (c.sub i),λa b=>d a (i a b)⟩
  ·exact⟨Az x (c.sub j),λa b=>d a (j a b)⟩
theorem AD.gx{fp:List Nat}{x:X}{te:Ad5}(ab:AD n fp v m q j f w9 ng nl n8)(N:w=n.heap.size)(u:∀a∈fp,a<w)(H:∀a∈wg,a∉fp)(t:BW n w wg (vB f) 68 (Vq n8.length) wv b p)(ak:DY w wg (vB f) 68 66 te (Vq n8.length) n8.length (n8.map Fl) x p):
 ∃aa G,AD (p.setCell ⟨v,3,none⟩ x) aa v m q j x w9 ng nl (n8++[G])/\(∀a∈aa,a∈fp\/a∈wg\/(n.heap.size<=a/\a<(p.setCell ⟨v,3,none⟩ x).heap.size))/\Cf (fp++wg) n (p.setCell ⟨v,3,none⟩ x):=by
 have I:=ab.mem;obtain⟨ah,i,rfl,e,a0,a1,a2,a3⟩:=ab;obtain⟨g,h,G,r,rfl,ay,L,au,z,ar⟩:=ak;have O:(p.setCell ⟨v,3,none⟩ (W (some ⟨g,0,none⟩) (n8.length+1) h)).heap.size=p.heap.size:=by simp
 have E:∀a,a≠v->(p.setCell ⟨v,3,none⟩ (W (some ⟨g,0,none⟩) (n8.length+1) h)).heap[a]?=p.heap[a]?:=λa c=>Ac4 _ _ _ _ c;have al:=u v I;have aj:∀a∈vB f,a∈v::(vB m++(vB q++(vB j++(vB f++i)))):=λa c=>by simp[c]
 have am:=e.bu;have ad:g≠v:=λk=>by
  grind
 have ac:∀a∈r,a≠v:=λa c k=>by
  subst k;rcases z.2.2.1 a c with l|l
  ·grind
  ·omega
 have D:∀a,a∈v::(vB m++(vB q++(vB j++(vB f++i))))->a∉vB f->a≠v->(p.setCell ⟨v,3,none⟩ (W (some ⟨g,0,none⟩) (n8.length+1) h)).heap[a]?=n.heap[a]?:=λa c ai az=>by
  rw[E a az];exact t.fr a (u a c) (λU=>H a U c) ai
 have B:Fr i n (p.setCell ⟨v,3,none⟩ (W (some ⟨g,0,none⟩) (n8.length+1) h)):=λa c=>D a (by simp[c]) (λd=>e.uf a d c) (λk=>e.bf (by grind));have M:∀(o:List Nat),Dj o (vB f)->(∀a∈o,a<w)->Dj o (vB (W (some ⟨g,0,none⟩) (n8.length+1) h)):=λo l y a c d=>by
  rw[An,Ac9]at d;subst d;rcases L with s|s
  ·exact l a c s
  ·have:=y a c;omega
 have K:∀(o:List Nat),Dj o i->(∀a∈o,a∈v::(vB m++(vB q++(vB j++(vB f++i)))))->Dj o (i++r):=λo l y a c d=>by
  rcases Acz.1 d with d|d
  ·exact l a c d
  ·rcases z.2.2.1 a d with s|s
   ·exact H a s (y a c)
   ·have:=u a (y a c);omega
 have aq:Dj (vB (W (some ⟨g,0,none⟩) (n8.length+1) h)) (i++r):=λa c d=>by
  rw[An,Ac9]at c;subst c;rcases Acz.1 d with d|d
  ·rcases L with s|s
   ·exact e.uf a s d
   ·have:=u a (by simp[d]);omega
  ·exact ar d
 have ao:v∉vB (W (some ⟨g,0,none⟩) (n8.length+1) h):=λd=>by
  rw[An,Ac9]at d;exact ad d.symm
 have an:v∉i++r:=λd=>by
  rcases Acz.1 d with d|d
  ·exact e.bf d
  ·exact ac v d rfl
 have ax:Cz (p.setCell ⟨v,3,none⟩ (W (some ⟨g,0,none⟩) (n8.length+1) h)) (i++r) 66 68 Vq (W (some ⟨g,0,none⟩) (n8.length+1) h) (n8++[G]):=by
  refine⟨?_,λY aw=>?_⟩
  ·rw[Adk,Adq];exact Az ay (λa c=>by rw[An,Ac9]at c;subst c;exact E a ad)
  ·by_cases ae:Y<n8.length
   ·rw[Afd ae];exact((a3.it Y ae).fr B).more (λa c=>Acw _ c)
   ·obtain rfl:Y=n8.length:=by rw[Adk,Aa6]at aw;omega
    rw[Ae8 (Acu _)];simp only[Ahn,Ag1];exact Io.fo z (λa c=>E a (ac a c)) (λa c=>Acx _ c)
 refine⟨v::(vB m++(vB q++(vB j++(vB (W (some ⟨g,0,none⟩) (n8.length+1) h)++(i++r))))),G,⟨(ah.cK (t.fr v al (λU=>H v U I) am)).HN _,i++r,rfl,?_,(a0.fr (λa c=>D a (by simp[c]) (λd=>e.xu a c d) (λk=>e.bx (by rw[<-k];exact c))) B).more (λa c=>Acw _ c),(a1.fr (λa c=>D a (by simp[c]) (λd=>e.yu a c d) (λk=>e.WP (by rw[<-k];exact c))) B).more (λa c=>Acw _ c),(a2.fr (λa c=>D a (by simp[c]) (λd=>e.zu a c d) (λk=>e.bz (by rw[<-k];exact c))) B).more (λa c=>Acw _ c),ax⟩,?_,?_⟩
 ·exact⟨e.bx,e.WP,e.bz,ao,an,e.xy,e.xz,M _ e.xu (λa c=>u a (by simp[c])),K _ e.xf (λa c=>by simp[c]),e.yz,M _ e.yu (λa c=>u a (by simp[c])),K _ e.yf (λa c=>by simp[c]),M _ e.zu (λa c=>u a (by simp[c])),K _ e.zf (λa c=>by simp[c]),aq⟩
 ·intro a c;have ap:∀a∈r,a∈wg\/(n.heap.size<=a/\a<(p.setCell ⟨v,3,none⟩ (W (some ⟨g,0,none⟩) (n8.length+1) h)).heap.size):=λa c=>by
   rw[O,<-N];exact z.2.2.1 a c
  have av:∀a∈vB (W (some ⟨g,0,none⟩) (n8.length+1) h),a∈vB f\/(n.heap.size<=a/\a<(p.setCell ⟨v,3,none⟩ (W (some ⟨g,0,none⟩) (n8.length+1) h)).heap.size):=λa c=>by
   rw[An,Ac9]at c;subst c;rw[O,<-N];exact L.imp id λl=>⟨l,au⟩
  simp only[Ady,Acz]at c;rcases c with c|c|c|c|c|c|c
  ·left;simp[c]
  ·left;simp[c]
  ·left;simp[c]
  ·left;simp[c]
  ·exact(av a c).elim (λl=>Ads (by simp[l])) (λl=>Ad7 (Ad7 l))
  ·left;simp[c]
  ·exact Ad7 (ap a c)
 ·refine⟨t.os,t.tape,t.output,by rw[O,<-N];exact t.size,λa c af=>?_⟩;have ag:a∉v::(vB m++(vB q++(vB j++(vB f++i)))):=λd=>af (Acw _ d);rw[E a (λk=>ag (by rw[k];exact I))];exact t.fr a (by omega) (λd=>af (Acx _ d)) (λd=>ag (aj a d))
theorem AD.gq{fp:List Nat}{x:X}{te:Ad5}(ab:AD n fp v m q j f w9 ng nl n8)(N:w=n.heap.size)(u:∀a∈fp,a<w)(H:∀a∈wg,a∉fp)(t:BW n w wg (vB m) 55 (TF w9.length) wv b p)(ak:DY w wg (vB m) 55 56 te (TF w9.length) w9.length (w9.map Fl) x p):
 ∃aa G,AD (p.setCell ⟨v,0,none⟩ x) aa v x q j f (w9++[G]) ng nl n8/\(∀a∈aa,a∈fp\/a∈wg\/(n.heap.size<=a/\a<(p.setCell ⟨v,0,none⟩ x).heap.size))/\Cf (fp++wg) n (p.setCell ⟨v,0,none⟩ x):=by
 have I:=ab.mem;obtain⟨ah,i,rfl,e,a0,a1,a2,a3⟩:=ab;obtain⟨g,h,G,r,rfl,ay,L,au,z,ar⟩:=ak;have O:(p.setCell ⟨v,0,none⟩ (W (some ⟨g,0,none⟩) (w9.length+1) h)).heap.size=p.heap.size:=by simp
 have E:∀a,a≠v->(p.setCell ⟨v,0,none⟩ (W (some ⟨g,0,none⟩) (w9.length+1) h)).heap[a]?=p.heap[a]?:=λa c=>Ac4 _ _ _ _ c;have al:=u v I;have aj:∀a∈vB m,a∈v::(vB m++(vB q++(vB j++(vB f++i)))):=λa c=>by simp[c]
 have am:=e.bx;have ad:g≠v:=λk=>by
  grind
 have ac:∀a∈r,a≠v:=λa c k=>by
  subst k;rcases z.2.2.1 a c with l|l
  ·grind
  ·omega
 have D:∀a,a∈v::(vB m++(vB q++(vB j++(vB f++i))))->a∉vB m->a≠v->(p.setCell ⟨v,0,none⟩ (W (some ⟨g,0,none⟩) (w9.length+1) h)).heap[a]?=n.heap[a]?:=λa c ai az=>by
  rw[E a az];exact t.fr a (u a c) (λU=>H a U c) ai
 have B:Fr i n (p.setCell ⟨v,0,none⟩ (W (some ⟨g,0,none⟩) (w9.length+1) h)):=λa c=>D a (by simp[c]) (λd=>e.xf a d c) (λk=>e.bf (by grind));have M:∀(o:List Nat),Dj o (vB m)->(∀a∈o,a<w)->Dj o (vB (W (some ⟨g,0,none⟩) (w9.length+1) h)):=λo l y a c d=>by
  rw[An,Ac9]at d;subst d;rcases L with s|s
  ·exact l a c s
  ·have:=y a c;omega
 have K:∀(o:List Nat),Dj o i->(∀a∈o,a∈v::(vB m++(vB q++(vB j++(vB f++i)))))->Dj o (i++r):=λo l y a c d=>by
  rcases Acz.1 d with d|d
  ·exact l a c d
  ·rcases z.2.2.1 a d with s|s
   ·exact H a s (y a c)
   ·have:=u a (y a c);omega
 have aq:Dj (vB (W (some ⟨g,0,none⟩) (w9.length+1) h)) (i++r):=λa c d=>by
  rw[An,Ac9]at c;subst c;rcases Acz.1 d with d|d
  ·rcases L with s|s
   ·exact e.xf a s d
   ·have:=u a (by simp[d]);omega
  ·exact ar d
 have ao:v∉vB (W (some ⟨g,0,none⟩) (w9.length+1) h):=λd=>by
  rw[An,Ac9]at d;exact ad d.symm
 have an:v∉i++r:=λd=>by
  rcases Acz.1 d with d|d
  ·exact e.bf d
  ·exact ac v d rfl
 have ax:Cz (p.setCell ⟨v,0,none⟩ (W (some ⟨g,0,none⟩) (w9.length+1) h)) (i++r) 56 55 TF (W (some ⟨g,0,none⟩) (w9.length+1) h) (w9++[G]):=by
  refine⟨?_,λY aw=>?_⟩
  ·rw[Adk,Adq];exact Az ay (λa c=>by rw[An,Ac9]at c;subst c;exact E a ad)
  ·by_cases ae:Y<w9.length
   ·rw[Afd ae];exact((a0.it Y ae).fr B).more (λa c=>Acw _ c)
   ·obtain rfl:Y=w9.length:=by rw[Adk,Aa6]at aw;omega
    rw[Ae8 (Acu _)];simp only[Ahn,Ag1];exact Io.fo z (λa c=>E a (ac a c)) (λa c=>Acx _ c)
 refine⟨v::(vB (W (some ⟨g,0,none⟩) (w9.length+1) h)++(vB q++(vB j++(vB f++(i++r))))),G,⟨(ah.cK (t.fr v al (λU=>H v U I) am)).eg _,i++r,rfl,?_,ax,(a1.fr (λa c=>D a (by simp[c]) (λd=>e.xy a d c) (λk=>e.WP (by rw[<-k];exact c))) B).more (λa c=>Acw _ c),(a2.fr (λa c=>D a (by simp[c]) (λd=>e.xz a d c) (λk=>e.bz (by rw[<-k];exact c))) B).more (λa c=>Acw _ c),(a3.fr (λa c=>D a (by simp[c]) (λd=>e.xu a d c) (λk=>e.bu (by rw[<-k];exact c))) B).more (λa c=>Acw _ c)⟩,?_,?_⟩
 ·exact⟨ao,e.WP,e.bz,e.bu,an,(M _ e.xy.symm (λa c=>u a (by simp[c]))).symm,(M _ e.xz.symm (λa c=>u a (by simp[c]))).symm,(M _ e.xu.symm (λa c=>u a (by simp[c]))).symm,aq,e.yz,e.yu,K _ e.yf (λa c=>by simp[c]),e.zu,K _ e.zf (λa c=>by simp[c]),K _ e.uf (λa c=>by simp[c])⟩
 ·intro a c;have ap:∀a∈r,a∈wg\/(n.heap.size<=a/\a<(p.setCell ⟨v,0,none⟩ (W (some ⟨g,0,none⟩) (w9.length+1) h)).heap.size):=λa c=>by
   rw[O,<-N];exact z.2.2.1 a c
  have av:∀a∈vB (W (some ⟨g,0,none⟩) (w9.length+1) h),a∈vB m\/(n.heap.size<=a/\a<(p.setCell ⟨v,0,none⟩ (W (some ⟨g,0,none⟩) (w9.length+1) h)).heap.size):=λa c=>by
   rw[An,Ac9]at c;subst c;rw[O,<-N];exact L.imp id λl=>⟨l,au⟩
  simp only[Ady,Acz]at c;rcases c with c|c|c|c|c|c|c
  ·left;simp[c]
  ·exact(av a c).elim (λl=>Ads (by simp[l])) (λl=>Ad7 (Ad7 l))
  ·left;simp[c]
  ·left;simp[c]
  ·left;simp[c]
  ·left;simp[c]
  ·exact Ad7 (ap a c)
 ·refine⟨t.os,t.tape,t.output,by rw[O,<-N];exact t.size,λa c af=>?_⟩;have ag:a∉v::(vB m++(vB q++(vB j++(vB f++i)))):=λd=>af (Acw _ d);rw[E a (λk=>ag (by rw[k];exact I))];exact t.fr a (by omega) (λd=>af (Acx _ d)) (λd=>ag (aj a d))
theorem AD.g0{fp:List Nat}{x:X}{te:Ad5}(ab:AD n fp v m q j f w9 ng nl n8)(N:w=n.heap.size)(u:∀a∈fp,a<w)(H:∀a∈wg,a∉fp)(t:BW n w wg (vB q) 59 (N6 ng.length) wv b p)(ak:DY w wg (vB q) 59 61 te (N6 ng.length) ng.length (ng.map Fl) x p):
 ∃aa G,AD (p.setCell ⟨v,1,none⟩ x) aa v m x j f w9 (ng++[G]) nl n8/\(∀a∈aa,a∈fp\/a∈wg\/(n.heap.size<=a/\a<(p.setCell ⟨v,1,none⟩ x).heap.size))/\Cf (fp++wg) n (p.setCell ⟨v,1,none⟩ x):=by
 have I:=ab.mem;obtain⟨ah,i,rfl,e,a0,a1,a2,a3⟩:=ab;obtain⟨g,h,G,r,rfl,ay,L,au,z,ar⟩:=ak;have O:(p.setCell ⟨v,1,none⟩ (W (some ⟨g,0,none⟩) (ng.length+1) h)).heap.size=p.heap.size:=by simp
 have E:∀a,a≠v->(p.setCell ⟨v,1,none⟩ (W (some ⟨g,0,none⟩) (ng.length+1) h)).heap[a]?=p.heap[a]?:=λa c=>Ac4 _ _ _ _ c;have al:=u v I;have aj:∀a∈vB q,a∈v::(vB m++(vB q++(vB j++(vB f++i)))):=λa c=>by simp[c]
 have am:=e.WP;have ad:g≠v:=λk=>by
  grind
 have ac:∀a∈r,a≠v:=λa c k=>by
  subst k;rcases z.2.2.1 a c with l|l
  ·grind
  ·omega
 have D:∀a,a∈v::(vB m++(vB q++(vB j++(vB f++i))))->a∉vB q->a≠v->(p.setCell ⟨v,1,none⟩ (W (some ⟨g,0,none⟩) (ng.length+1) h)).heap[a]?=n.heap[a]?:=λa c ai az=>by
  rw[E a az];exact t.fr a (u a c) (λU=>H a U c) ai
 have B:Fr i n (p.setCell ⟨v,1,none⟩ (W (some ⟨g,0,none⟩) (ng.length+1) h)):=λa c=>D a (by simp[c]) (λd=>e.yf a d c) (λk=>e.bf (by grind));have M:∀(o:List Nat),Dj o (vB q)->(∀a∈o,a<w)->Dj o (vB (W (some ⟨g,0,none⟩) (ng.length+1) h)):=λo l y a c d=>by
  rw[An,Ac9]at d;subst d;rcases L with s|s
  ·exact l a c s
  ·have:=y a c;omega
 have K:∀(o:List Nat),Dj o i->(∀a∈o,a∈v::(vB m++(vB q++(vB j++(vB f++i)))))->Dj o (i++r):=λo l y a c d=>by
  rcases Acz.1 d with d|d
  ·exact l a c d
  ·rcases z.2.2.1 a d with s|s
   ·exact H a s (y a c)
   ·have:=u a (y a c);omega
 have aq:Dj (vB (W (some ⟨g,0,none⟩) (ng.length+1) h)) (i++r):=λa c d=>by
  rw[An,Ac9]at c;subst c;rcases Acz.1 d with d|d
  ·rcases L with s|s
   ·exact e.yf a s d
   ·have:=u a (by simp[d]);omega
  ·exact ar d
 have ao:v∉vB (W (some ⟨g,0,none⟩) (ng.length+1) h):=λd=>by
  rw[An,Ac9]at d;exact ad d.symm
 have an:v∉i++r:=λd=>by
  rcases Acz.1 d with d|d
  ·exact e.bf d
  ·exact ac v d rfl
 have ax:Cz (p.setCell ⟨v,1,none⟩ (W (some ⟨g,0,none⟩) (ng.length+1) h)) (i++r) 61 59 N6 (W (some ⟨g,0,none⟩) (ng.length+1) h) (ng++[G]):=by
  refine⟨?_,λY aw=>?_⟩
  ·rw[Adk,Adq];exact Az ay (λa c=>by rw[An,Ac9]at c;subst c;exact E a ad)
  ·by_cases ae:Y<ng.length
   ·rw[Afd ae];exact((a1.it Y ae).fr B).more (λa c=>Acw _ c)
   ·obtain rfl:Y=ng.length:=by rw[Adk,Aa6]at aw;omega
    rw[Ae8 (Acu _)];simp only[Ahn,Ag1];exact Io.fo z (λa c=>E a (ac a c)) (λa c=>Acx _ c)
 refine⟨v::(vB m++(vB (W (some ⟨g,0,none⟩) (ng.length+1) h)++(vB j++(vB f++(i++r))))),G,⟨(ah.cK (t.fr v al (λU=>H v U I) am)).db _,i++r,rfl,?_,(a0.fr (λa c=>D a (by simp[c]) (λd=>e.xy a c d) (λk=>e.bx (by rw[<-k];exact c))) B).more (λa c=>Acw _ c),ax,(a2.fr (λa c=>D a (by simp[c]) (λd=>e.yz a d c) (λk=>e.bz (by rw[<-k];exact c))) B).more (λa c=>Acw _ c),(a3.fr (λa c=>D a (by simp[c]) (λd=>e.yu a d c) (λk=>e.bu (by rw[<-k];exact c))) B).more (λa c=>Acw _ c)⟩,?_,?_⟩
 ·exact⟨e.bx,ao,e.bz,e.bu,an,M _ e.xy (λa c=>u a (by simp[c])),e.xz,e.xu,K _ e.xf (λa c=>by simp[c]),(M _ e.yz.symm (λa c=>u a (by simp[c]))).symm,(M _ e.yu.symm (λa c=>u a (by simp[c]))).symm,aq,e.zu,K _ e.zf (λa c=>by simp[c]),K _ e.uf (λa c=>by simp[c])⟩
 ·intro a c;have ap:∀a∈r,a∈wg\/(n.heap.size<=a/\a<(p.setCell ⟨v,1,none⟩ (W (some ⟨g,0,none⟩) (ng.length+1) h)).heap.size):=λa c=>by
   rw[O,<-N];exact z.2.2.1 a c
  have av:∀a∈vB (W (some ⟨g,0,none⟩) (ng.length+1) h),a∈vB q\/(n.heap.size<=a/\a<(p.setCell ⟨v,1,none⟩ (W (some ⟨g,0,none⟩) (ng.length+1) h)).heap.size):=λa c=>by
   rw[An,Ac9]at c;subst c;rw[O,<-N];exact L.imp id λl=>⟨l,au⟩
  simp only[Ady,Acz]at c;rcases c with c|c|c|c|c|c|c
  ·left;simp[c]
  ·left;simp[c]
  ·exact(av a c).elim (λl=>Ads (by simp[l])) (λl=>Ad7 (Ad7 l))
  ·left;simp[c]
  ·left;simp[c]
  ·left;simp[c]
  ·exact Ad7 (ap a c)
 ·refine⟨t.os,t.tape,t.output,by rw[O,<-N];exact t.size,λa c af=>?_⟩;have ag:a∉v::(vB m++(vB q++(vB j++(vB f++i)))):=λd=>af (Acw _ d);rw[E a (λk=>ag (by rw[k];exact I))];exact t.fr a (by omega) (λd=>af (Acx _ d)) (λd=>ag (aj a d))
theorem AD.gD{fp:List Nat}{x:X}{te:Ad5}(ab:AD n fp v m q j f w9 ng nl n8)(N:w=n.heap.size)(u:∀a∈fp,a<w)(H:∀a∈wg,a∉fp)(t:BW n w wg (vB j) 65 (T6 nl.length) wv b p)(ak:DY w wg (vB j) 65 62 te (T6 nl.length) nl.length (nl.map Fl) x p):
 ∃aa G,AD (p.setCell ⟨v,2,none⟩ x) aa v m q x f w9 ng (nl++[G]) n8/\(∀a∈aa,a∈fp\/a∈wg\/(n.heap.size<=a/\a<(p.setCell ⟨v,2,none⟩ x).heap.size))/\Cf (fp++wg) n (p.setCell ⟨v,2,none⟩ x):=by
 have I:=ab.mem;obtain⟨ah,i,rfl,e,a0,a1,a2,a3⟩:=ab;obtain⟨g,h,G,r,rfl,ay,L,au,z,ar⟩:=ak;have O:(p.setCell ⟨v,2,none⟩ (W (some ⟨g,0,none⟩) (nl.length+1) h)).heap.size=p.heap.size:=by simp
 have E:∀a,a≠v->(p.setCell ⟨v,2,none⟩ (W (some ⟨g,0,none⟩) (nl.length+1) h)).heap[a]?=p.heap[a]?:=λa c=>Ac4 _ _ _ _ c;have al:=u v I;have aj:∀a∈vB j,a∈v::(vB m++(vB q++(vB j++(vB f++i)))):=λa c=>by simp[c]
 have am:=e.bz;have ad:g≠v:=λk=>by
  grind
 have ac:∀a∈r,a≠v:=λa c k=>by
  subst k;rcases z.2.2.1 a c with l|l
  ·grind
  ·omega
 have D:∀a,a∈v::(vB m++(vB q++(vB j++(vB f++i))))->a∉vB j->a≠v->(p.setCell ⟨v,2,none⟩ (W (some ⟨g,0,none⟩) (nl.length+1) h)).heap[a]?=n.heap[a]?:=λa c ai az=>by
  rw[E a az];exact t.fr a (u a c) (λU=>H a U c) ai
 have B:Fr i n (p.setCell ⟨v,2,none⟩ (W (some ⟨g,0,none⟩) (nl.length+1) h)):=λa c=>D a (by simp[c]) (λd=>e.zf a d c) (λk=>e.bf (by grind));have M:∀(o:List Nat),Dj o (vB j)->(∀a∈o,a<w)->Dj o (vB (W (some ⟨g,0,none⟩) (nl.length+1) h)):=λo l y a c d=>by
  rw[An,Ac9]at d;subst d;rcases L with s|s
  ·exact l a c s
  ·have:=y a c;omega
 have K:∀(o:List Nat),Dj o i->(∀a∈o,a∈v::(vB m++(vB q++(vB j++(vB f++i)))))->Dj o (i++r):=λo l y a c d=>by
  rcases Acz.1 d with d|d
  ·exact l a c d
  ·rcases z.2.2.1 a d with s|s
   ·exact H a s (y a c)
   ·have:=u a (y a c);omega
 have aq:Dj (vB (W (some ⟨g,0,none⟩) (nl.length+1) h)) (i++r):=λa c d=>by
  rw[An,Ac9]at c;subst c;rcases Acz.1 d with d|d
  ·rcases L with s|s
   ·exact e.zf a s d
   ·have:=u a (by simp[d]);omega
  ·exact ar d
 have ao:v∉vB (W (some ⟨g,0,none⟩) (nl.length+1) h):=λd=>by
  rw[An,Ac9]at d;exact ad d.symm
 have an:v∉i++r:=λd=>by
  rcases Acz.1 d with d|d
  ·exact e.bf d
  ·exact ac v d rfl
 have ax:Cz (p.setCell ⟨v,2,none⟩ (W (some ⟨g,0,none⟩) (nl.length+1) h)) (i++r) 62 65 T6 (W (some ⟨g,0,none⟩) (nl.length+1) h) (nl++[G]):=by
  refine⟨?_,λY aw=>?_⟩
  ·rw[Adk,Adq];exact Az ay (λa c=>by rw[An,Ac9]at c;subst c;exact E a ad)
  ·by_cases ae:Y<nl.length
   ·rw[Afd ae];exact((a2.it Y ae).fr B).more (λa c=>Acw _ c)
   ·obtain rfl:Y=nl.length:=by rw[Adk,Aa6]at aw;omega
    rw[Ae8 (Acu _)];simp only[Ahn,Ag1];exact Io.fo z (λa c=>E a (ac a c)) (λa c=>Acx _ c)
 refine⟨v::(vB m++(vB q++(vB (W (some ⟨g,0,none⟩) (nl.length+1) h)++(vB f++(i++r))))),G,⟨(ah.cK (t.fr v al (λU=>H v U I) am)).dJ _,i++r,rfl,?_,(a0.fr (λa c=>D a (by simp[c]) (λd=>e.xz a c d) (λk=>e.bx (by rw[<-k];exact c))) B).more (λa c=>Acw _ c),(a1.fr (λa c=>D a (by simp[c]) (λd=>e.yz a c d) (λk=>e.WP (by rw[<-k];exact c))) B).more (λa c=>Acw _ c),ax,(a3.fr (λa c=>D a (by simp[c]) (λd=>e.zu a d c) (λk=>e.bu (by rw[<-k];exact c))) B).more (λa c=>Acw _ c)⟩,?_,?_⟩
 ·exact⟨e.bx,e.WP,ao,e.bu,an,e.xy,M _ e.xz (λa c=>u a (by simp[c])),e.xu,K _ e.xf (λa c=>by simp[c]),M _ e.yz (λa c=>u a (by simp[c])),e.yu,K _ e.yf (λa c=>by simp[c]),(M _ e.zu.symm (λa c=>u a (by simp[c]))).symm,aq,K _ e.uf (λa c=>by simp[c])⟩
 ·intro a c;have ap:∀a∈r,a∈wg\/(n.heap.size<=a/\a<(p.setCell ⟨v,2,none⟩ (W (some ⟨g,0,none⟩) (nl.length+1) h)).heap.size):=λa c=>by
   rw[O,<-N];exact z.2.2.1 a c
  have av:∀a∈vB (W (some ⟨g,0,none⟩) (nl.length+1) h),a∈vB j\/(n.heap.size<=a/\a<(p.setCell ⟨v,2,none⟩ (W (some ⟨g,0,none⟩) (nl.length+1) h)).heap.size):=λa c=>by
   rw[An,Ac9]at c;subst c;rw[O,<-N];exact L.imp id λl=>⟨l,au⟩
  simp only[Ady,Acz]at c;rcases c with c|c|c|c|c|c|c
  ·left;simp[c]
  ·left;simp[c]
  ·left;simp[c]
  ·exact(av a c).elim (λl=>Ads (by simp[l])) (λl=>Ad7 (Ad7 l))
  ·left;simp[c]
  ·left;simp[c]
  ·exact Ad7 (ap a c)
 ·refine⟨t.os,t.tape,t.output,by rw[O,<-N];exact t.size,λa c af=>?_⟩;have ag:a∉v::(vB m++(vB q++(vB j++(vB f++i)))):=λd=>af (Acw _ d);rw[E a (λk=>ag (by rw[k];exact I))];exact t.fr a (by omega) (λd=>af (Acx _ d)) (λd=>ag (aj a d))
theorem Tryz.f4:(Acs.info? 66).map (λa=>(a.zero,a.size,a.bytes))=some (some (W none 0 0),1,24):=by kernel_rfl
theorem NY{c:Q}{fp:List Nat}{va:X}(f:AD c fp w m q j va wg w9 ng nl)(ax:∀b∈fp,b<c.heap.size){v:X}{d:List G7}{lo:Nat}(al:Oj c lo v d)(bT:d.length<=65535)(bU:nl.length<100000000000)(ah:∀b∈vB v,b∉fp):
 Adg Acs 24 #[J (some ⟨w,0,none⟩),v] c λe w'=>e=F (R #[])/\∃af bn aL,AD w' af w m q j bn wg w9 ng (nl++[aL])/\(∀b∈af,b∈fp\/b∈vB v\/(c.heap.size<=b/\b<w'.heap.size))/\Cf (fp++vB v) c w':=by
 obtain⟨E,D,rfl⟩:=al.slice;obtain⟨B,ac,bc⟩:=Ad f.a.own;have O:=hid f;have z:=hid al;have U:=hid ah;have y:=hid ax;subst bc;obtain⟨br,bs,bt,bv,bG,bH,bI,bJ⟩:=id f.box;have bN:w<c.heap.size:=f.box.lt;have I:=hid (λc=>DH nl.length c (by omega));obtain⟨g,aj⟩:∃g,MQ nl.length=g:=⟨_,rfl⟩;have H:=hid aj;rw[aj]at I;clear f al ah ax aj;go_enter Tryz.func24,Tryz.ntmps24;go_wp2_with (first
  |(go_at_call 13;refine(I.out _).mono ?_;rintro e bZ ⟨rfl,am⟩;replace am:=am.symm;subst am))
 have K:=hid (OU.new c (.int C 0) (.int C g) 68);have N:Hid (Below c.heap.size c (c.alloc (Adi #[.int C 0,.int C g] 68))):=bA;have aa:=hid (Dh z.out.own N.out);generalize c.alloc (Adi #[.int C 0,.int C g] 68)=W1 at*;have bM:c.heap.size<W1.heap.size:=K.out.lt;have M:Hid (∀b∈vB (W E d.length D),b<c.heap.size):=λb i=>(z.out.rg b (Acw _ i)).2;go_loopw [5] (λan wr=>∃h:Nat,h<=d.length/\an=.int C (h:Int)/\Hid (wr.ownsRow 0 68 2 (W E d.length D) d.length (part [.int C 0,.int C g] (d.flatMap FG) h))/\Hid (Cf (vB (W E d.length D)) W1 wr)) (λan _=>d.length-(intOf an).toNat)
 case atStart=>exact⟨0,Ac0 _,rfl,by show World.ownsRow _ _ _ _ _ _ _;rw[Gt];exact aa.out,Cf.refl _ _⟩
 case round=>
  obtain⟨h,bP,rfl,s,G⟩:=hrel;rename Q=>wr
  have L:=hid (K.out.off G.out (λl=>by have:=M.out _ l;omega));obtain⟨a7,a8,bX,a9⟩:=id L.out;by_cases bS:h<d.length
  ·obtain⟨aK,aG,a6,-,bO⟩:=World.ownsRow.form s.out (by omega);simp only[Value.slice.injEq,true_and]at a6;obtain⟨rfl,rfl⟩:=a6;have bQ:(0:Int)<=(h:Int):=by omega
   have bR:(h:Int)<(d.length:Int):=by omega
   have cd:=World.ownsRow.frozenAt s.out (h*2);have ce:=World.ownsRow.frozenAt s.out (h*2+1);have bW:(d.flatMap FG).length=d.length*2:=z.out.own.1;have bV:(part [.int C 0,.int C g] (d.flatMap FG) h).length=d.length*2:=s.out.1;have aC:=Aen s.out (h*2) (by omega);have y1:=Aen s.out (h*2+1) (by omega);rw[Ad0 (by omega)]at aC y1;generalize (part [.int C 0,.int C g] (d.flatMap FG) h)[h*2]=q0 at*;generalize (part [.int C 0,.int C g] (d.flatMap FG) h)[h*2+1]=aB at*;go_wp2;have a0:=(World.ownsRow.stored (World.ownsRow.stored s.out (h*2) (.int C 0)).1 (h*2+1) (.int C g)).1;rw[Jj _ _ _ _ (by omega)]at a0;exact⟨⟨h+1,by omega,by go_num,a0,(G.out.set (Ads (by simp[An])) _).set (Ads (by simp[An])) _⟩,by simp[intOf];omega⟩
  ·obtain rfl:h=d.length:=by omega
   have Y:Hid (BP wr 68 [.int C 0,.int C g] (W E d.length D) d.length):=by
    have f:=s.out;rw[I2 _ _ _ (by show _=d.length*2;exact z.out.own.1)]at f;exact f
   have p:Hid (AD wr fp w m q j (W B nl.length ac) wg w9 ng nl):=by
    refine(O.out.fr (w':=W1) λb i=>N.out.block b (y.out b i)).fr λb i=>G.out.block b (by have:=y.out b i;omega) (λl=>U.out b l i)
   obtain⟨aC,y1,y2,y3,ca,x1,x2,x3⟩:=id p.out.box;obtain⟨aD,aW,au⟩:=Adb.1 Tryz.gP;simp only[Aeb]at au;obtain⟨aT,aU,aV⟩:=au;go_wp2;obtain⟨aE,ba,ab⟩:=Adb.1 Tryz.f4;simp only[Aeb]at ab;obtain⟨aX,aY,aZ⟩:=ab;have be:c.heap.size<wr.heap.size:=L.out.lt;have av:w<wr.heap.size:=p.out.box.lt;refine ED (S:=λw'=>w'.cell? ⟨w,3,none⟩=some (W B nl.length ac)/\w'.cell? ⟨c.heap.size,0,none⟩=some (.int C 0)/\w'.cell? ⟨c.heap.size,1,none⟩=some (.int C g)) 27 2 (by kernel_rfl) (by rfl) (by kernel_rfl) (by kernel_rfl) (by kernel_rfl) ⟨y3,a7,a8⟩ (λad=>?_);iterate 18
    refine Sq (v:=?_) [0,1,2,3,4,5,6,7,10,11,12,15,16,17,18,19,20,21] rfl rfl rfl (by kernel_rfl) (by kernel_rfl) (by kernel_rfl) (λ_ _ _ f=>f) (Ads ⟨by rfl,?_⟩) (by assumption) ?_;rotate_left
    ·intro c aS;(try dsimp only at aS);(go_simp<;>with_reducible rfl)
    simp only[Act.put,Adn,Ad4,Adz]
   have aw:∀b∈vB (W E d.length D),b<c.heap.size:=M.out;have ak:∀b∈vB (W B nl.length ac),b∈fp:=p.out.a.mem;have ag:∀b∈vB (W E d.length D),b∉fp:=U.out;have ay:∀b∈fp,b<wr.heap.size:=λb i=>by have:=y.out b i;omega
   refine HT (w0:=wr.drew) (lo:=wr.heap.size) (V:=vB (W E d.length D)) (A:=vB (W B nl.length ac)) (e:=68) (tt:=66) (te:=63) (mc:=[.int C 0,.int C g]) (v:=W E d.length D) (va:=W B nl.length ac) (n:=d.length) (r:=nl.length) (xs:=nl.map Fl)
    (s1:=8) (a1:=9) (s2:=13) (a2:=14) (s3:=22) (a3:=23) (s4:=24) (s5:=25) (a4:=26) (x1:=31) (y1:=32) (x2:=36) (y2:=37) (x3:=45) (y3:=46) (x4:=47) (x5:=48) (y4:=49) (p1:=29) (p2:=33) (p3:=38) (p4:=27) (t:=63) (T:=27)
    (by kernel_rfl) (by decide) (by decide) (by kernel_rfl) ?_ ?_ aD _ 16 Tryz.underlying63 aW aT aU aV (by rfl) (by simp) ?_ (by omega) (by unfold Aed;omega) aE _ Tryz.underlying27 ba aX aY aZ (by rfl) (by omega) rfl rfl rfl ?_ ?_ ?_ ?_ ?_ ?_ 9 _ (by kernel_rfl) (Acb (by kernel_rfl)) (by kernel_rfl) ?_ ?_
   ·intro bx ah;simp at ah ⊢;omega
   ·refine⟨⟨_,rfl,rfl,rfl,λa c k=>?_⟩,⟨_,rfl,rfl,rfl,λa c k=>?_⟩,⟨_,rfl,rfl,rfl,λa c k=>?_⟩,⟨_,rfl,rfl,rfl,rfl⟩,⟨_,rfl,rfl,rfl,rfl⟩,⟨_,rfl,rfl,rfl,rfl⟩,⟨_,rfl,rfl,rfl,λa c aB a9 bf bl bj bg bm bk bh k ai aH aI=>?_⟩,⟨_,rfl,rfl,rfl,λa c f k ai=>?_⟩,⟨_,rfl,rfl,rfl,rfl⟩,⟨by decide,rfl⟩,⟨by decide,rfl⟩,⟨by decide,rfl⟩,⟨by decide,rfl⟩⟩
    ·show Sem.run Acs (execOp a.eval ⟨some 31,.buildSlice 63 1 #[(0,.tmp 30)],63,_,_,none⟩) c=_;have b0:a.tmps[30]?.getD Aet=.agg #[.int C 0,.int C g]:=by rw[k.it 30 (by decide)];rfl
     clear O z U y I H K N aa M s G L Y p ad;go_simp;rfl
    ·show Sem.run Acs (execOp a.eval ⟨some 36,.buildSlice 63 2 #[(0,.tmp 34),(1,.tmp 35)],63,_,_,none⟩) c=_;have b2:a.tmps[34]?.getD Aet=.agg #[.int C 0,.int C g]:=by rw[k.it 34 (by decide)];rfl
     have b3:a.tmps[35]?.getD Aet=.agg #[.int C 0,.int C g]:=by rw[k.it 35 (by decide)];rfl
     clear O z U y I H K N aa M s G L Y p ad;go_simp;rfl
    ·show Sem.run Acs (execOp a.eval ⟨some 45,.buildSlice 63 6 #[(0,.tmp 39),(1,.tmp 40),(2,.tmp 41),(3,.tmp 42),(4,.tmp 43),(5,.tmp 44)],63,_,_,none⟩) c=_;have b5:a.tmps[39]?.getD Aet=.agg #[.int C 0,.int C g]:=by rw[k.it 39 (by decide)];rfl
     have b6:a.tmps[40]?.getD Aet=.agg #[.int C 0,.int C g]:=by rw[k.it 40 (by decide)];rfl
     have b7:a.tmps[41]?.getD Aet=.agg #[.int C 0,.int C g]:=by rw[k.it 41 (by decide)];rfl
     have b8:a.tmps[42]?.getD Aet=.agg #[.int C 0,.int C g]:=by rw[k.it 42 (by decide)];rfl
     have b9:a.tmps[43]?.getD Aet=.agg #[.int C 0,.int C g]:=by rw[k.it 43 (by decide)];rfl
     have bB:a.tmps[44]?.getD Aet=.agg #[.int C 0,.int C g]:=by rw[k.it 44 (by decide)];rfl
     clear O z U y I H K N aa M s G L Y p ad;go_simp;rfl
    ·show Sem.run Acs (execOp a.eval ⟨some 47,.buildSlice 66 4 #[(0,.tmp 28),(1,.tmp 32),(2,.tmp 37),(3,.tmp 46)],66,_,_,none⟩) c=_;have bz:a.tmps[28]?.getD Aet=W E d.length D:=by rw[k.it 28 (by decide)];rfl
     have b1:a.tmps[32]?.getD Aet=W aB a9 bf:=by rw[<-Ad2];exact ai
     have b4:a.tmps[37]?.getD Aet=W bl bj bg:=by rw[<-Ad2];exact aH
     have bC:a.tmps[46]?.getD Aet=W bm bk bh:=by rw[<-Ad2];exact aI
     clear O z U y I H K N aa M s G L Y p ad;go_simp;rfl
    ·show Sem.run Acs (execOp a.eval ⟨some 48,.buildSlice 27 1 #[(0,.tmp 47)],27,_,_,none⟩) c=_;have bD:a.tmps[47]?.getD Aet=W (some ⟨f,0,none⟩) 4 4:=by rw[<-Ad2];exact ai
     clear O z U y I H K N aa M s G L Y p ad;go_simp;rfl
   ·intro bY a5;simp at a5;rcases a5 with rfl|rfl<;>rfl
   ·intro b i;have:=aw b i;omega
   ·intro b i;exact ay b (ak b i)
   ·intro b i l;exact ag b i (ak b l)
   ·exact BP.cJ Y.out (Acv _ _).drew
   ·exact Dh p.out.a.own (Acv _ _).drew
   ·intro w' ae;have ab:=ae.fr w av (λl=>ag w l p.out.mem) (λl=>by obtain⟨aJ,-,B,-⟩:=p.out.ex;exact B.bu l);have ar:=ae.fr c.heap.size be (λl=>by have:=aw _ l;omega) (λl=>by have:=y.out _ (ak _ l);omega);exact⟨by rw[Ac1 (a:=⟨w,3,none⟩) ab];exact y3,by rw[Ac1 (a:=⟨c.heap.size,0,none⟩) ar];exact a7,by rw[Ac1 (a:=⟨c.heap.size,1,none⟩) ar];exact a8⟩
   ·decide
   ·intro a w' k ae aq;have aN:=p.out.fr (w':=wr.drew) (λ_ _=>rfl);have ao:=hid (AD.gx (te:=63) (x:=a.eval (.tmp 49)) aN rfl ay ag (by have f:=ae;rw[<-H.out]at f;exact f) (by have f:=aq;rw[<-H.out]at f;exact f));have ab:=ae.fr w av (λl=>ag w l p.out.mem) (λl=>by obtain⟨aJ,-,B,-⟩:=p.out.ex;exact B.bu l);have bw:w'.cell? ⟨w,3,none⟩=some (W B nl.length ac):=by rw[Ac1 (a:=⟨w,3,none⟩) ab];exact y3
    have cf:w'.frozen? ⟨w,3,none⟩=false:=by rw[Adm (a:=⟨w,3,none⟩) ab];exact x3
    obtain⟨aK,aG,n,bK,az,-⟩:=aq;have u:=Ef k;simp only[Ab2,Aho]at u;rw[az]at ao u;generalize a.eval (.tmp 31)=z31 at u;generalize a.eval (.tmp 36)=z36 at u;generalize a.eval (.tmp 45)=z45 at u;generalize a.eval (.tmp 32)=z32 at u;generalize a.eval (.tmp 37)=z37 at u;generalize a.eval (.tmp 46)=z46 at u;generalize a.eval (.tmp 47)=z47 at u;generalize a.eval (.tmp 48)=z48 at u;simp only[Act.put,Adn,Ad4,Adz]at u;clear k az;subst u;clear O z y I H K aa M s L Y p ad;refine Q0 ?_;refine wpOp_step (o:=⟨some 50,.nilCheck (.tmp 23),0,_,_,none⟩) rfl (λbo aO=>?_);go_simp;refine aO _ _ ?_;refine wpOp_step (o:=⟨some 51,.fieldAddr _ (.tmp 50) 3,0,_,_,none⟩) rfl (λbp aP=>?_);go_simp;refine aP _ _ ?_;refine wpOp_step (o:=⟨none,.store _ (.tmp 51) (.tmp 49),0,_,_,none⟩) rfl (λbq aQ=>?_);go_simp;refine aQ _ _ ?_;go_wp2;refine bE ?_;obtain⟨af,bi,aM,bb,aR⟩:=ao.out;refine⟨rfl,af,_,bi,aM,λb i=>?_,?_⟩
    ·rcases bb b i with f|f|f
     ·exact Ads f
     ·exact Ad7 (Ads f)
     ·exact Ad7 (Ad7 ⟨by have ap:=f.1;have bL:wr.drew.heap.size=wr.heap.size:=rfl;omega,f.2⟩)
    ·have ap:Cf (fp++vB (W E d.length D)) W1 wr:=G.out.more λb i=>Ads (Acx _ i);exact(((Cf.cI N.out).trans ap).trans (Cf.cI (Acv _ _).drew)).trans aR
theorem Gr(c:wd->List Nat)(b:List wd)(a:Nat)(d:a<b.length):(b.take (a+1)).flatMap c=(b.take a).flatMap c++c b[a]:=by
 rw[Ade d,Ado,Adh,Ae1,Ad8]
theorem Rb{d:wd->List Nat}{a:List wd}(e:(a.flatMap d).Nodup){b j:Nat}(i:j<=b)(h:b<a.length):∀c∈d a[b],c∉(a.take j).flatMap d:=by
 intro c g f;rw[<-Ag4 j a,Ado,Aee]at e;refine e.2.2 c f c ?_ rfl;refine Ada.2 ⟨a[b],?_,g⟩;rw[List.mem_iff_getElem];exact⟨b-j,by grind,by simp_all⟩
theorem Cf.then{bs:List Nat}(a:Cf t n p)(b:Cf bs p h)(i:∀e∈bs,e∈t\/n.heap.size<=e):Cf t n h:=
 ⟨b.os.trans a.os,b.tape.trans a.tape,b.output.trans a.output,Ac5 a.size b.size,λc d f=>(b.block c (Ac2 d a.size) (λg=>by grind)).trans (a.block c d f)⟩
theorem Dx(b:Bp×X)(a:Nat)(c:a∈vB b.2):a∈AP b:=Acw _ c
theorem O7(c d e:X)(b:List X)(a:Nat)(g:a*3+2<b.length):(((part [c,d,e] b a).set (a*3) c).set (a*3+1) d).set (a*3+2) e=part [c,d,e] b (a+1):=by
 have h:(Gj [c,d,e] a).length=a*3:=Fm _ _;have f:b.drop (a*3)=b[a*3]::b[a*3+1]::b[a*3+2]::b.drop ((a+1)*3):=by
  rw[Adv (by omega),Adv (by omega),Adv (by omega),show(a+1)*3=a*3+1+1+1 by omega]
 unfold part;rw[show([c,d,e]).length=3 from rfl,f,IZ,show Gj [c,d,e] 1=[c,d,e] by rfl,Aem];simp_all
theorem Pq(c d e f:X)(b:List X)(a:Nat)(h:a*4+3<b.length):((((part [c,d,e,f] b a).set (a*4) c).set (a*4+1) d).set (a*4+2) e).set (a*4+3) f=part [c,d,e,f] b (a+1):=by
 have i:(Gj [c,d,e,f] a).length=a*4:=Fm _ _;have g:b.drop (a*4)=b[a*4]::b[a*4+1]::b[a*4+2]::b[a*4+3]::b.drop ((a+1)*4):=by
  rw[Adv (by omega),Adv (by omega),Adv (by omega),Adv (by omega),show(a+1)*4=a*4+1+1+1+1 by omega]
 unfold part;rw[show([c,d,e,f]).length=4 from rfl,g,IZ,show Gj [c,d,e,f] 1=[c,d,e,f] by rfl,Aem];simp_all
theorem QR(c d:List X)(b a:Nat)(e:b*c.length<=a):(part c d b)[a]?=d[a]?:=by
 unfold part;rw[Aex (by rw[Fm];omega),Fm,List.getElem?_drop];congr 1
 omega
structure D1 (e:Q) (fp:List Nat) (f:Nat) (n m l:X) (c j h g:List Nat) (d:X) (a:Es) (k:List X) (b:Nat) (wr:Q):Prop where
 bk:∃fp' va' ha',AD wr fp' f n m l va' c j h ha'/\ha'.length=g.length+b/\∀q∈fp',q<wr.heap.size/\(q∈fp\/q∈(a.take b).flatMap AP\/e.heap.size<=q)
 row:wr.ownsRow 0 65 3 d a.length (part k (a.flatMap ER) b)
 it:∀i (c:i<a.length),b<=i->Vv wr a[i]
 off:Cf (fp++AJ AP d a) e wr
theorem D1.dc{wr:Q}{fp:List Nat}{j:Nat}(h:(AJ AP m wx).Nodup)(p:∀a∈AJ AP m wx,a∉fp/\a<n.heap.size){c:List Nat}(k:∀a∈c,a<wr.heap.size/\(a∈fp\/a∈(wx.take j).flatMap AP\/n.heap.size<=a)):
 (∀f e,j<=f->∀a∈AP wx[f],a∉c)/\∀a∈vB m,a∉c:=by
 have i:=Aee.1 h;constructor
 ·intro f e l a b g;have o:a∈AJ AP m wx:=Acx _ (Ada.2 ⟨_,Ac8 e,b⟩);rcases(k a g).2 with d|d|d
  ·grind
  ·exact Rb i.2.1 l e a b d
  grind
 ·intro a b g;have o:a∈AJ AP m wx:=Acw _ b;grind
theorem D1.next{wr w2:Q}{fp:List Nat}{v:X}{j:Nat}(z:(AJ AP f wx).Nodup)(k:∀a∈AJ AP f wx,a∉fp/\a<n.heap.size)(o:j<wx.length){p g:List Nat}{H:X}{s:List Nat}{y:Nat}(u:D1 n fp w m q v wg w9 ng nl f wx wb j wr)(M:s.length=nl.length+j)(l:∀a∈p,a<wr.heap.size/\(a∈fp\/a∈(wx.take j).flatMap AP\/n.heap.size<=a))(I:AD w2 g w m q v H wg w9 ng (s++[y]))(t:∀a∈g,a∈p\/a∈vB wx[j].2\/(wr.heap.size<=a/\a<w2.heap.size))(r:Cf (p++vB wx[j].2) wr w2)(i:Cf (vB f) w2 h)(U:h.ownsRow 0 65 3 f wx.length (part wb (wx.flatMap ER) (j+1))):D1 n fp w m q v wg w9 ng nl f wx wb (j+1) h:=by
 let ⟨K,L⟩:=D1.dc z k l
 have B:=Aee.1 z;have af:=λa b=>k a (Acw _ b);have E:∀a∈vB wx[j].2,a∈AJ AP f wx:=λa b=>Acx _ (Ada.2 ⟨_,Ac8 o,Dx _ _ b⟩);have G:∀a∈vB f,∀e (wg:e<wx.length),a∉AP wx[e]:=λa b e wg d=>B.2.2 a b a (Ada.2 ⟨_,Ac8 wg,d⟩) rfl;have ac:=u.off.size;have ad:=r.size;have ae:=i.size;have Y:∀a∈vB f,a∉g:=λa b d=>by
  rcases t a d with c|c|c
  ·exact L a b c
  ·exact G a b j o (Dx _ _ c)
  grind
 have D:∀a∈g,a<w2.heap.size:=λa d=>by
  rcases t a d with c|c|c
  ·have:=(l a c).1;omega
  ·have:=(k a (E a c)).2;omega
  ·exact c.2
 refine⟨⟨g,H,s++[y],I.fr λa b=>i.block a (D a b) (λd=>Y a d b),?_,λa b=>⟨?_,?_⟩⟩,U,λe wg N=>?_,?_⟩
 ·rw[Adk,Aa6,M];omega
 ·have:=D a b;omega
 ·rw[Gr AP wx j o];rcases t a b with c|c|c
  ·rcases(l a c).2 with c|c|c
   ·exact Ads c
   ·exact Ad7 (Ads (Acw _ c))
   ·exact Ad7 (Ad7 c)
  ·exact Ad7 (Ads (Acx _ (Dx _ _ c)))
  ·exact Ad7 (Ad7 (by omega))
 ·refine Vu wr h _ (u.it e wg (by omega)) (by omega) λa b=>?_;have O:a<wr.heap.size:=by have:=(λa b=>(k a (Acx _ (Ada.2 ⟨_,Ac8 wg,b⟩))).2) a b;omega
  rw[i.block a (by omega) (λd=>G a d e wg b)];refine r.block a O λd=>?_;rcases Acz.1 d with d|d
  ·exact K e wg (by omega) a b d
  ·refine Rb B.2.1 (j:=j+1) N wg a b ?_;rw[Gr AP wx j o];exact Acx _ (Dx _ _ d)
 ·refine(u.off.then r λa b=>?_).then i λa b=>Ads (Acx _ (Acw _ b));rcases Acz.1 b with b|b
  ·rcases(l a b).2 with c|c|c
   ·exact Ads (Acw _ c)
   ·let ⟨x,aa,ab⟩:=Ada.1 c
    exact Ads (Acx _ (Acx _ (Ada.2 ⟨x,Abs aa,ab⟩)))
   ·exact Ad7 c
  ·exact Ads (Acx _ (E a b))
theorem Tryz.f9:(Acs.info? 62).map (λa=>(a.zero,a.size,a.bytes))=some (some (W none 0 0),1,24):=by kernel_rfl
theorem OE{g:Q}{fp:List Nat}{va:X}(c:AD g fp w m q j va wg w9 ng nl)(aY:∀b∈fp,b<g.heap.size){v:X}{d:Es}{lo:Nat}(a9:QL g lo v d)(cJ:d.length<=65535)(aT:∀x∈d,x.1.alts.length<=65535)(cM:ng.length<100000000000)(cK:nl.length+d.length<100000000000)(aw:∀b∈AJ AP v d,b∉fp):
 Adg Acs 14 #[J (some ⟨w,0,none⟩),v] g λe w'=>e=F (R #[])/\∃an bV aG bw ap,AD w' an w m q bV aG wg w9 (ng++[bw]) ap/\ap.length=nl.length+d.length/\(∀b∈an,b<w'.heap.size/\(b∈fp\/b∈AJ AP v d\/g.heap.size<=b))/\Cf (fp++AJ AP v d) g w':=by
 obtain⟨B,u,rfl⟩:=a9.slice;obtain⟨M,cc,bL⟩:=Ad c.c.own;have ag:=hid c;have H:=hid a9;have ah:=hid aw;have G:=hid aY;have af:=hid aT;subst bL;obtain⟨ch,ci,cj,ck,c1,c2,c3,c4⟩:=id c.box;have cC:=c.box.lt;have U:=hid (λg=>DH ng.length g (by omega));obtain⟨k,az⟩:∃k,MQ ng.length=k:=⟨_,rfl⟩;have O:=hid az;rw[az]at U;clear c a9 aw aY az aT;go_enter Tryz.func14,Tryz.ntmps14;go_wp2_with (first
  |(go_at_call 13;refine(U.out _).mono ?_;rintro e cZ ⟨rfl,aB⟩;replace aB:=aB.symm;subst aB))
 have Y:=hid (Gy.new g (.int C 0) (.int C k) (W none 0 0) 65);have I:Hid (Below g.heap.size g (g.alloc (Adi #[.int C 0,.int C k,W none 0 0] 65))):=bA;have D:=hid (H.out.cJ Vu I.out);generalize g.alloc (Adi #[.int C 0,.int C k,W none 0 0] 65)=W1 at*;have c8:=Y.out.lt;have aa:Hid (∀b∈AJ AP (W B d.length u) d,b∉fp/\b<W1.heap.size):=λb f=>⟨ah.out b f,(D.out.rg b f).2⟩;have E:Hid (∀b∈AJ AP (W B d.length u) d,b<g.heap.size):=λb f=>(H.out.rg b f).2;have am:Hid (D1 W1 fp w m q (W M ng.length cc) wg w9 ng nl (W B d.length u) d [.int C 0,.int C k,W none 0 0] 0 W1):=
  ⟨⟨fp,va,nl,ag.out.fr λb f=>I.out.block b (G.out b f),rfl,λb f=>⟨by have:=G.out b f;omega,Ads f⟩⟩,by rw[Gt];exact D.out.own,λcR wg _=>D.out.it _ (Ac8 wg),Cf.refl _ _⟩
 go_loopw [5] (λaE wr=>∃i:Nat,i<=d.length/\aE=.int C (i:Int)/\Hid (D1 W1 fp w m q (W M ng.length cc) wg w9 ng nl (W B d.length u) d [.int C 0,.int C k,W none 0 0] i wr)) (λaE _=>d.length-(intOf aE).toNat)
 case atStart=>grind
 case round=>
  obtain⟨i,cG,rfl,l⟩:=hrel;rename Q=>wr
  have ak:Hid (g.heap.size∉fp++AJ AP (W B d.length u) d):=λh=>by
   rcases Acz.1 h with h|h
   ·have:=G.out _ h;omega
   ·have:=E.out _ h;omega
  have L:=hid (Y.out.off l.out.off ak.out);obtain⟨bg,bh,bi,cW,bj,bl⟩:=id L.out;obtain⟨an,aG,ap,aL,ba,a7⟩:=l.out.bk;have K:=hid aL;have y:=hid a7;obtain⟨aX,aQ⟩:=D1.dc D.out.nd aa.out a7;have ai:=hid aX;have ab:=hid aQ;clear aL a7 aX aQ;have cD:=K.out.box.lt;have bM:=L.out.lt;by_cases ad:i<d.length
  ·obtain⟨ar,bs,bf,-,cF⟩:=World.ownsRow.form l.out.row (by omega);simp only[Value.slice.injEq,true_and]at bf;obtain⟨rfl,rfl⟩:=bf;have cH:(0:Int)<=(i:Int):=by omega
   have cI:(i:Int)<(d.length:Int):=by omega
   have cQ:=H.out.own.1;have cN:=l.out.row.1;have y2:=Aen l.out.row (i*3+2) (by omega);rw[QR _ _ _ _ (by simp)]at y2;replace y2:=y2.trans (EX (λx:Bp×X=>Value.int C x.1.op) (λx=>Value.int C x.1.a) (λx=>x.2) d i ad).2.2
   have aJ:=hid (l.out.it i ad (Acu _));obtain⟨aq,cf,av⟩:=aJ.out.slice;have bZ:=hid av;have ax:=hid (NY K.out (λb f=>(y.out b f).1) aJ.out (af.out _ (Ac8 ad)) (by omega) (λb f=>ai.out i ad (Acu _) b (Dx _ _ f)));have bK:∀b∈vB d[i].2,b∈AJ AP (W (some ⟨ar,0,none⟩) d.length u) d:=λb f=>Acx _ (Ada.2 ⟨_,Ac8 ad,Dx _ _ f⟩);have aH:Hid (∀ae,Cf (an++vB d[i].2) wr ae->Gy ae g.heap.size (.int C 0) (.int C k) (W none 0 0)/\ae.ownsRow 0 65 3 (W (some ⟨ar,0,none⟩) d.length u) d.length (part [.int C 0,.int C k,W none 0 0] (d.flatMap ER) i)):=by
    intro ae aO;refine⟨L.out.off aO λh=>?_,Az l.out.row λb f=>?_⟩
    ·rcases Acz.1 h with h|h
     ·rcases(y.out _ h).2 with c|c|c
      ·have:=G.out _ c;omega
      ·obtain⟨x,aC,aD⟩:=Ada.1 c;have:=E.out _ (Acx _ (Ada.2 ⟨x,Abs aC,aD⟩));omega
      ·omega
     ·have:=E.out _ (bK _ h);omega
    ·refine aO.block b (Lb l.out.row b (Ah.1 f)) λh=>?_;rcases Acz.1 h with h|h
     ·exact ab.out b f h
     ·exact(Aee.1 D.out.nd).2.2 b f b (Ada.2 ⟨_,Ac8 ad,Dx _ _ h⟩) rfl
   rw[av]at y2 ax aH;go_wp2_with (first
    |(go_at_call 24;refine ax.out.mono ?_;rintro e ae ⟨rfl,aK,cY,c6,aM,aW,a5⟩;obtain⟨b4,N⟩:=aH.out ae a5;have bm:=hid aM;have bn:=hid aW;have bo:=hid a5;have bp:=hid N;obtain⟨cS,cU,cV,-,-,-⟩:=b4;have bW:=Aen N (i*3) (by omega);have bX:=Aen N (i*3+1) (by omega);have bY:=Aen N (i*3+2) (by omega);rw[Ad0 (by omega)]at bW bX bY;have dd:=World.ownsRow.frozenAt N (i*3);have de:=World.ownsRow.frozenAt N (i*3+1);have df:=World.ownsRow.frozenAt N (i*3+2);clear aM aW a5 N ax))
   have bb:=(World.ownsRow.stored (World.ownsRow.stored (World.ownsRow.stored bp.out (i*3) (.int C 0)).1 (i*3+1) (.int C k)).1 (i*3+2) (W none 0 0)).1;rw[O7 _ _ _ _ _ (by omega)]at bb;refine⟨⟨i+1,by omega,by go_num,?_⟩,by simp[intOf];omega⟩;exact D1.next D.out.nd aa.out ad l.out ba y.out bm.out (by rw[av];exact bn.out) (by rw[av];exact bo.out) ((((Cf.refl [ar] ae).set (Ads (by simp)) _).set (Ads (by simp)) _).set (Ads (by simp)) _) bb
  ·obtain rfl:i=d.length:=by omega
   have aj:Hid (BP wr 65 [.int C 0,.int C k,W none 0 0] (W B d.length u) d.length):=by
    have c:=l.out.row;rw[I2 _ _ _ (by show _=d.length*3;exact H.out.own.1)]at c;exact c
   have s:Hid (AD wr an w m q (W M ng.length cc) aG wg w9 ng ap):=K.out;obtain⟨db,y1,y2,y3,da,x1,x2,x3⟩:=id s.out.box;obtain⟨bq,bD,aS⟩:=Adb.1 Tryz.gW;simp only[Aeb]at aS;obtain⟨b9,bB,bC⟩:=aS;go_wp2;obtain⟨br,bJ,ac⟩:=Adb.1 Tryz.f9;simp only[Aeb]at ac;obtain⟨bG,bH,bI⟩:=ac;have aR:∀b∈vB (W B d.length u),b<wr.heap.size:=λb f=>by have:=E.out b (Acw _ f);omega
   have a6:=s.out.c.mem;have au:=ab.out;have a8:=λb f=>(y.out b f).1;have b7:=bM;have b6:g.heap.size∉vB (W B d.length u):=λh=>by have:=E.out _ (Acw _ h);omega
   have b5:g.heap.size∉vB (W M ng.length cc):=λh=>by
    rcases(y.out _ (a6 _ h)).2 with c|c|c
    ·have:=G.out _ c;omega
    ·obtain⟨x,aC,aD⟩:=Ada.1 c;have:=E.out _ (Acx _ (Ada.2 ⟨x,Abs aC,aD⟩));omega
    ·omega
   have aU:=s.out.box.lt;refine ED (S:=λw'=>w'.cell? ⟨w,2,none⟩=some (W M ng.length cc)/\w'.cell? ⟨g.heap.size,0,none⟩=some (.int C 0)/\w'.cell? ⟨g.heap.size,1,none⟩=some (.int C k)/\w'.cell? ⟨g.heap.size,2,none⟩=some (W none 0 0)) 27 2 (by kernel_rfl) (by rfl) (by kernel_rfl) (by kernel_rfl) (by kernel_rfl) ⟨y2,bg,bh,bi⟩ (λal=>?_);iterate 18
    refine Sq (v:=?_) [0,1,2,3,4,5,6,7,10,11,12,15,16,17,18,19,20,21] rfl rfl rfl (by kernel_rfl) (by kernel_rfl) (by kernel_rfl) (λ_ _ _ c=>c) (Ads ⟨by rfl,?_⟩) (by assumption) ?_;rotate_left
    ·intro g b8;(try dsimp only at b8);(go_simp<;>with_reducible rfl)
    simp only[Act.put,Adn,Ad4,Adz]
   refine HT (w0:=wr.drew) (lo:=wr.heap.size) (V:=vB (W B d.length u)) (A:=vB (W M ng.length cc)) (e:=65) (tt:=62) (te:=57) (mc:=[.int C 0,.int C k,W none 0 0]) (v:=W B d.length u) (va:=W M ng.length cc) (n:=d.length) (r:=ng.length) (xs:=ng.map Fl)
    (s1:=8) (a1:=9) (s2:=13) (a2:=14) (s3:=22) (a3:=23) (s4:=24) (s5:=25) (a4:=26) (x1:=38) (y1:=39) (x2:=43) (y2:=44) (x3:=52) (y3:=53) (x4:=54) (x5:=55) (y4:=56) (p1:=36) (p2:=40) (p3:=45) (p4:=34) (t:=57) (T:=26)
    (by kernel_rfl) (by decide) (by decide) (by kernel_rfl) ?_ ?_ bq _ 40 Tryz.underlying57 bD b9 bB bC (by rfl) (by simp) ?_ (by omega) (by unfold Aed;omega) br _ Tryz.underlying26 bJ bG bH bI (by rfl) (by omega) rfl rfl rfl ?_ ?_ ?_ ?_ ?_ ?_ 9 _ (by kernel_rfl) (Acb (by kernel_rfl)) (by kernel_rfl) ?_ ?_
   ·intro cl aw;simp at aw ⊢;omega
   ·refine⟨⟨_,rfl,rfl,rfl,λa g p=>?_⟩,⟨_,rfl,rfl,rfl,λa g p=>?_⟩,⟨_,rfl,rfl,rfl,λa g p=>?_⟩,⟨_,rfl,rfl,rfl,rfl⟩,⟨_,rfl,rfl,rfl,rfl⟩,⟨_,rfl,rfl,rfl,rfl⟩,⟨_,rfl,rfl,rfl,λa g bS bj bN bT bl bO bU bR bP p ay bt bu=>?_⟩,⟨_,rfl,rfl,rfl,λa g c p ay=>?_⟩,⟨_,rfl,rfl,rfl,rfl⟩,⟨by decide,rfl⟩,⟨by decide,rfl⟩,⟨by decide,rfl⟩,⟨by decide,rfl⟩⟩
    ·show Sem.run Acs (execOp a.eval ⟨some 38,.buildSlice 57 1 #[(0,.tmp 37)],57,_,_,none⟩) g=_;have cn:a.tmps[37]?.getD Aet=.agg #[.int C 0,.int C k,W none 0 0]:=by rw[p.it 37 (by decide)];rfl
     clear ag H ah G U O Y I E L aj s l K y ai ab aa am D ak af al;go_simp;rfl
    ·show Sem.run Acs (execOp a.eval ⟨some 43,.buildSlice 57 2 #[(0,.tmp 41),(1,.tmp 42)],57,_,_,none⟩) g=_;have cp:a.tmps[41]?.getD Aet=.agg #[.int C 0,.int C k,W none 0 0]:=by rw[p.it 41 (by decide)];rfl
     have cq:a.tmps[42]?.getD Aet=.agg #[.int C 0,.int C k,W none 0 0]:=by rw[p.it 42 (by decide)];rfl
     clear ag H ah G U O Y I E L aj s l K y ai ab aa am D ak af al;go_simp;rfl
    ·show Sem.run Acs (execOp a.eval ⟨some 52,.buildSlice 57 6 #[(0,.tmp 46),(1,.tmp 47),(2,.tmp 48),(3,.tmp 49),(4,.tmp 50),(5,.tmp 51)],57,_,_,none⟩) g=_;have cs:a.tmps[46]?.getD Aet=.agg #[.int C 0,.int C k,W none 0 0]:=by rw[p.it 46 (by decide)];rfl
     have ct:a.tmps[47]?.getD Aet=.agg #[.int C 0,.int C k,W none 0 0]:=by rw[p.it 47 (by decide)];rfl
     have cv:a.tmps[48]?.getD Aet=.agg #[.int C 0,.int C k,W none 0 0]:=by rw[p.it 48 (by decide)];rfl
     have cw:a.tmps[49]?.getD Aet=.agg #[.int C 0,.int C k,W none 0 0]:=by rw[p.it 49 (by decide)];rfl
     have cx:a.tmps[50]?.getD Aet=.agg #[.int C 0,.int C k,W none 0 0]:=by rw[p.it 50 (by decide)];rfl
     have cy:a.tmps[51]?.getD Aet=.agg #[.int C 0,.int C k,W none 0 0]:=by rw[p.it 51 (by decide)];rfl
     clear ag H ah G U O Y I E L aj s l K y ai ab aa am D ak af al;go_simp;rfl
    ·show Sem.run Acs (execOp a.eval ⟨some 54,.buildSlice 62 4 #[(0,.tmp 35),(1,.tmp 39),(2,.tmp 44),(3,.tmp 53)],62,_,_,none⟩) g=_;have cm:a.tmps[35]?.getD Aet=W B d.length u:=by rw[p.it 35 (by decide)];rfl
     have co:a.tmps[39]?.getD Aet=W bS bj bN:=by rw[<-Ad2];exact ay
     have cr:a.tmps[44]?.getD Aet=W bT bl bO:=by rw[<-Ad2];exact bt
     have cz:a.tmps[53]?.getD Aet=W bU bR bP:=by rw[<-Ad2];exact bu
     clear ag H ah G U O Y I E L aj s l K y ai ab aa am D ak af al;go_simp;rfl
    ·show Sem.run Acs (execOp a.eval ⟨some 55,.buildSlice 26 1 #[(0,.tmp 54)],26,_,_,none⟩) g=_;have c0:a.tmps[54]?.getD Aet=W (some ⟨c,0,none⟩) 4 4:=by rw[<-Ad2];exact ay
     clear ag H ah G U O Y I E L aj s l K y ai ab aa am D ak af al;go_simp;rfl
   ·intro cX be;simp at be;rcases be with rfl|rfl|rfl<;>rfl
   ·exact aR
   ·intro b f;exact a8 b (a6 b f)
   ·intro b f h;exact au b f (a6 b h)
   ·exact BP.cJ aj.out (Acv _ _).drew
   ·exact Dh s.out.c.own (Acv _ _).drew
   ·intro w' ao;have ac:=ao.fr w aU (λh=>au w h s.out.mem) (λh=>by obtain⟨bv,-,aq,-⟩:=s.out.ex;exact aq.bz h);have a0:=ao.fr g.heap.size b7 b6 b5;exact⟨by rw[Ac1 (a:=⟨w,2,none⟩) ac];exact y2,by rw[Ac1 (a:=⟨g.heap.size,0,none⟩) a0];exact bg,by rw[Ac1 (a:=⟨g.heap.size,1,none⟩) a0];exact bh,by rw[Ac1 (a:=⟨g.heap.size,2,none⟩) a0];exact bi⟩
   ·decide
   ·intro a w' p ao aN;have b0:=s.out.fr (w':=wr.drew) (λ_ _=>rfl);have aI:=hid (AD.gD (te:=57) (x:=a.eval (.tmp 56)) b0 rfl a8 au (by have c:=ao;rw[<-O.out]at c;exact c) (by have c:=aN;rw[<-O.out]at c;exact c));have ac:=ao.fr w aU (λh=>au w h s.out.mem) (λh=>by obtain⟨bv,-,aq,-⟩:=s.out.ex;exact aq.bz h);have cB:w'.cell? ⟨w,2,none⟩=some (W M ng.length cc):=by rw[Ac1 (a:=⟨w,2,none⟩) ac];exact y2
    have dc:w'.frozen? ⟨w,2,none⟩=false:=by rw[Adm (a:=⟨w,2,none⟩) ac];exact x2
    obtain⟨ar,bs,n,c5,aZ,-⟩:=aN;have z:=Ef p;simp only[Ab2,Aho]at z;rw[aZ]at aI z;generalize a.eval (.tmp 38)=z38 at z;generalize a.eval (.tmp 43)=z43 at z;generalize a.eval (.tmp 52)=z52 at z;generalize a.eval (.tmp 39)=z39 at z;generalize a.eval (.tmp 44)=z44 at z;generalize a.eval (.tmp 53)=z53 at z;generalize a.eval (.tmp 54)=z54 at z;generalize a.eval (.tmp 55)=z55 at z;simp only[Act.put,Adn,Ad4,Adz]at z;clear p aZ;subst z;clear al;refine Q0 ?_;refine wpOp_step (o:=⟨some 57,.nilCheck (.tmp 30),0,_,_,none⟩) rfl (λca b1=>?_);go_simp;refine b1 _ _ ?_;refine wpOp_step (o:=⟨some 58,.fieldAddr _ (.tmp 57) 2,0,_,_,none⟩) rfl (λcd b2=>?_);go_simp;refine b2 _ _ ?_;refine wpOp_step (o:=⟨none,.store _ (.tmp 58) (.tmp 56),0,_,_,none⟩) rfl (λce b3=>?_);go_simp;refine b3 _ _ ?_;go_wp2;refine bE ?_;obtain⟨aK,bQ,bx,aV,aP⟩:=aI.out;have cO:=aP.size;have cE:wr.drew.heap.size=wr.heap.size:=rfl;have c7:=l.out.off.size;have c9:=I.out.size;have bc:∀b,b∈(d.take d.length).flatMap AP->b∈AJ AP (W B d.length u) d:=λb f=>by rw[Ad9]at f;exact Acx _ f
    refine⟨rfl,aK,_,_,bQ,ap,bx,ba,λb f=>⟨?_,?_⟩,?_⟩
    ·rcases aV b f with c|c|c
     ·have:=a8 b c;omega
     ·have:=aR b c;omega
     ·exact c.2
    ·rcases aV b f with c|c|c
     ·rcases(y.out b c).2 with c|c|c
      ·exact Ads c
      ·exact Ad7 (Ads (bc b c))
      ·exact Ad7 (Ad7 (by omega))
     ·exact Ad7 (Ads (Acw _ c))
     ·exact Ad7 (Ad7 (by omega))
    ·refine(((Cf.cI I.out).then l.out.off (λb f=>Ads f)).trans (Cf.cI (Acv _ _).drew)).then aP λb f=>?_;rcases Acz.1 f with f|f
     ·rcases(y.out b f).2 with c|c|c
      ·exact Ads (Acw _ c)
      ·exact Ads (Acx _ (bc b c))
      ·exact Ad7 (by omega)
     ·exact Ads (Acx _ (Acw _ f))
structure Dk (e:Q) (fp:List Nat) (f:Nat) (m l:X) (c j h g:List Nat) (d:X) (a:U6) (k:List X) (b:Nat) (wr:Q):Prop where
 bk:∃fp' vc' va' hc' ha',AD wr fp' f m l vc' va' c j hc' ha'/\hc'.length=h.length+b/\ha'.length<=g.length+b*65535/\∀q∈fp',q<wr.heap.size/\(q∈fp\/q∈(a.take b).flatMap AH\/e.heap.size<=q)
 row:wr.ownsRow 0 59 4 d a.length (part k (a.flatMap QT) b)
 it:∀i (c:i<a.length),b<=i->Qf wr a[i]
 off:Cf (fp++AJ AH d a) e wr
theorem Dk.dc{wr:Q}{fp:List Nat}{j:Nat}(h:(AJ AH m vw).Nodup)(p:∀a∈AJ AH m vw,a∉fp/\a<n.heap.size){c:List Nat}(k:∀a∈c,a<wr.heap.size/\(a∈fp\/a∈(vw.take j).flatMap AH\/n.heap.size<=a)):
 (∀f e,j<=f->∀a∈AH vw[f],a∉c)/\∀a∈vB m,a∉c:=by
 have i:=Aee.1 h;constructor
 ·intro f e l a b g;have o:a∈AJ AH m vw:=Acx _ (Ada.2 ⟨_,Ac8 e,b⟩);rcases(k a g).2 with d|d|d
  ·grind
  ·exact Rb i.2.1 l e a b d
  grind
 ·intro a b g;have o:a∈AJ AH m vw:=Acw _ b;grind
theorem Dk.next{wr w2:Q}{fp:List Nat}{d:X}{j:Nat}(u:(AJ AH d vw).Nodup)(o:∀a∈AJ AH d vw,a∉fp/\a<n.heap.size)(s:j<vw.length){k g:List Nat}{E D:X}{z y r p:List Nat}(t:Dk n fp w m q wg w9 ng nl d vw wb j wr)(ad:z.length=ng.length+j)(ab:y.length<=nl.length+j*65535)(ae:r.length=z.length+1)(ac:p.length<=y.length+65535)(B:∀a∈k,a<wr.heap.size/\(a∈fp\/a∈(vw.take j).flatMap AH\/n.heap.size<=a))(G:AD w2 g w m q E D wg w9 r p)(I:∀a∈g,a<w2.heap.size/\(a∈k\/a∈AH vw[j]\/wr.heap.size<=a))(l:Cf (k++AH vw[j]) wr w2)(i:Cf (vB d) w2 h)(M:h.ownsRow 0 59 4 d vw.length (part wb (vw.flatMap QT) (j+1))):Dk n fp w m q wg w9 ng nl d vw wb (j+1) h:=by
 let ⟨H,aa⟩:=Dk.dc u o B
 have v:=Aee.1 u;have ai:=λa b=>o a (Acw _ b);have O:∀a∈vB d,∀e (wg:e<vw.length),a∉AH vw[e]:=λa b e wg c=>v.2.2 a b a (Ada.2 ⟨_,Ac8 wg,c⟩) rfl;have af:=t.off.size;have ag:=l.size;have ah:=i.size;have N:∀a∈vB d,a∉g:=λa b c=>by
  grind
 refine⟨⟨g,E,D,r,p,G.fr λa b=>i.block a (I a b).1 (λc=>N a c b),by omega,by omega,λa b=>⟨?_,?_⟩⟩,M,λe wg K=>?_,?_⟩
 ·grind
 ·rw[Gr AH vw j s];grind
 ·refine O6 wr h _ (t.it e wg (by omega)) (by omega) λa b=>?_;have L:a<wr.heap.size:=by have:=(λa b=>(o a (Acx _ (Ada.2 ⟨_,Ac8 wg,b⟩))).2) a b;omega
  rw[i.block a (by omega) (λc=>O a c e wg b)];refine l.block a L λc=>?_;rcases Acz.1 c with c|c
  ·exact H e wg (by omega) a b c
  ·refine Rb v.2.1 (j:=j+1) K wg a b ?_;rw[Gr AH vw j s];exact Acx _ c
 ·refine(t.off.then l λa b=>?_).then i λa b=>Ads (Acx _ (Acw _ b));rcases Acz.1 b with b|b
  ·rcases(B a b).2 with f|f|f
   ·exact Ads (Acw _ f)
   ·let ⟨x,U,Y⟩:=Ada.1 f
    exact Ads (Acx _ (Acx _ (Ada.2 ⟨x,Abs U,Y⟩)))
   ·exact Ad7 f
  ·exact Ads (Acx _ ((λa b=>Acx _ (Ada.2 ⟨_,Ac8 s,b⟩)) a b))
structure BK (e:Q) (b:Nat) (c:Q) (d a:Nat):Prop where
 it:∃(fp:List Nat) (vi vg vc va:X) (hi hg hc ha:List Nat),AD c fp d vi vg vc va hi hg hc ha/\(∀q∈fp,e.heap.size<=q/\q<b)/\hi.length<=a/\hg.length<=a/\hc.length<=a*100000/\ha.length<=a*6553500000
 le:b<=c.heap.size
theorem BK.cJ{w:Q}{d:Nat}(a:BK n d w v b)(c:Below w.heap.size w p):BK n d p v b:=by
 let ⟨fp,s,r,q,o,k,j,i,h,e,f,g⟩:=a.it
 have l:=a.le;exact⟨⟨fp,s,r,q,o,k,j,i,h,e.fr (λm t=>c.block m (by grind)),f,g⟩,Ac5 l c.size⟩
def Xt:Prop:=∀(g a:Q) (b c e:Nat),BK g e a b c->c<=2->
 Adg Acs 7 #[J (some ⟨b,0,none⟩)] a λd f=>d=F (A true)/\Below a.heap.size a f
theorem Tryz.fH:(Acs.info? 56).map (λa=>(a.zero,a.size,a.bytes))=some (some (W none 0 0),1,24):=by kernel_rfl
theorem Tryz.fk:(Acs.info? 61).map (λa=>(a.zero,a.size,a.bytes))=some (some (W none 0 0),1,24):=by kernel_rfl
def Aao(j:Q)(i:Nat)(l:X)(h:J8):Prop:=∃(g:Option Addr) (f e:Nat) (d:Option Addr) (c b:Nat) (a:U6),l=T #[S h.name,W g f e,W d c b]/\Ux j i (W g f e) h.AA/\(∀k∈vB (W g f e),k∉AJ AH (W d c b) a)/\L8 j i (W d c b) a/\a.map (·.1)=h.Aq
structure X2 (a:J8):Prop where
 im:a.AA.length<=100000
 gl:a.Aq.length<=100000
 gf:∀g∈a.Aq,g.code.length<=65535/\∀x∈g.code,x.alts.length<=256
def Sa:Prop:=∀(b a:Q) (c e d:Nat) (h:X) (g:J8),BK b d a c e->e<=2->X2 g->Aao a d h g->b.heap.size<=d->
 Adg Acs 6 #[J (some ⟨c,0,none⟩),h] a λi f=>i=F (R #[])/\BK b f.heap.size f c (e+1)/\Below b.heap.size a f
theorem Ss:Sa:=by
 intro w0 i m r lo v j bR eD cw bm eA;obtain⟨fp,eZ,eY,dt,va,B,O,bJ,b8,au,c1,e8,e7,e6,e5⟩:=bR.it;have eF:=bR.le;obtain⟨H,eK,G,s,el,p,g,rfl,bT,c8,av,cx⟩:=bm;obtain⟨eL,eJ,c7⟩:=bT.slice;obtain⟨em,ek,c4⟩:=av.slice;simp only[Value.slice.injEq]at c7 c4;obtain⟨rfl,rfl,rfl⟩:=c7;obtain⟨rfl,rfl,rfl⟩:=c4;obtain⟨bg,bf,dn⟩:=Ad au.i.own;obtain⟨aC,aB,dm⟩:=Ad au.g.own;subst dn dm;have aD:=hid au;have w:Hid (∀b∈fp,w0.heap.size<=b/\b<lo):=c1;have ao:=hid bT;have aw:=hid av;have aa:=hid cw;have al:=hid c8;have ag:=hid cx;obtain⟨d0,d1,d2,d3,ec,ed,ee,ef⟩:=id au.box;have ez:=au.box.lt;have ax:=hid (λi=>DH B.length i (by omega));have aj:=hid (λi=>DH O.length i (by omega));obtain⟨l,bU⟩:∃l,MQ B.length=l:=⟨_,rfl⟩;obtain⟨y,aP⟩:∃l,MQ O.length=l:=⟨_,rfl⟩;have ah:=hid bU;have ai:=hid aP;rw[bU]at ax;rw[aP]at aj;clear bR au c1 bT av cw c8 cx bU aP;go_enter Tryz.func6,Tryz.ntmps6;go_wp2_with (first
  |(go_at_call 13;refine(ax.out _).mono ?_;rintro e du ⟨rfl,aR⟩;replace aR:=aR.symm;subst aR))
 have aJ:=hid ((Gy.new i (.string j.name) (W H j.AA.length G) (W s g.length p) 39).cJ ((Acv _ _).alloc (Acu _) (Adi #[.string ⟨#[]⟩,.int C l] 55)));have az:Hid (OU ((i.alloc (Adi #[.string j.name,W H j.AA.length G,W s g.length p] 39)).alloc (Adi #[.string ⟨#[]⟩,.int C l] 55)) (i.heap.size+1) (.string ⟨#[]⟩) (.int C l)):=by
  have c:=OU.new (i.alloc (Adi #[.string j.name,W H j.AA.length G,W s g.length p] 39)) (.string ⟨#[]⟩) (.int C l) 55;rw[show(i.alloc (Adi #[.string j.name,W H j.AA.length G,W s g.length p] 39)).heap.size=i.heap.size+1 by simp]at c;exact c
 have N:Hid (Below i.heap.size i ((i.alloc (Adi #[.string j.name,W H j.AA.length G,W s g.length p] 39)).alloc (Adi #[.string ⟨#[]⟩,.int C l] 55))):=bA.alloc (by simp) _;generalize (i.alloc (Adi #[.string j.name,W H j.AA.length G,W s g.length p] 39)).alloc (Adi #[.string ⟨#[]⟩,.int C l] 55)=W1 at*;have aK:=hid (Dh ao.out.own N.out);have aG:=hid (aw.out.cJ O6 N.out);have eo:=az.out.lt;have u:Hid (∀b∈vB (W H j.AA.length G),lo<=b/\b<i.heap.size/\b∉AJ AH (W s g.length p) g):=λb d=>by
  have bl:=ao.out.rg b (Acw _ d);exact⟨bl.1,bl.2,al.out b d⟩
 have ab:Hid (∀b∈AJ AH (W s g.length p) g,lo<=b/\b<i.heap.size):=λb d=>aw.out.rg b d;have eC:=aa.out.im;go_loopw [5] (λaT wr=>∃h:Nat,h<=j.AA.length/\aT=.int C (h:Int)/\Hid (wr.ownsRow 0 55 2 (W H j.AA.length G) j.AA.length (part [.string ⟨#[]⟩,.int C l] (j.AA.flatMap VA) h))/\Hid (Cf (vB (W H j.AA.length G)) W1 wr)) (λaT _=>j.AA.length-(intOf aT).toNat)
 case atStart=>exact⟨0,Ac0 _,rfl,by show World.ownsRow _ _ _ _ _ _ _;rw[Gt];exact aK.out,Cf.refl _ _⟩
 case round=>
  obtain⟨h,di,rfl,Y,E⟩:=hrel;rename Q=>wr
  have z:=hid (az.out.off E.out (λf=>by have:=u.out _ f;omega));obtain⟨bb,bc,dr,b0⟩:=id z.out;have K:=hid (aJ.out.off E.out (λf=>by have:=u.out _ f;omega));obtain⟨cE,cF,cG,-,-,-⟩:=id K.out;by_cases a8:h<j.AA.length
  ·obtain⟨bj,bi,bw,-,dh⟩:=World.ownsRow.form Y.out (by omega);simp only[Value.slice.injEq,true_and]at bw;obtain⟨rfl,rfl⟩:=bw;have dj:(0:Int)<=(h:Int):=by omega
   have dk:(h:Int)<(j.AA.length:Int):=by omega
   have fa:=World.ownsRow.frozenAt Y.out (h*2);have fb:=World.ownsRow.frozenAt Y.out (h*2+1);have dq:=ao.out.own.1;have dl:=Y.out.1;have aU:=Aen Y.out (h*2) (by omega);have y1:=Aen Y.out (h*2+1) (by omega);rw[Ad0 (by omega)]at aU y1;generalize (part [.string ⟨#[]⟩,.int C l] (j.AA.flatMap VA) h)[h*2]=cH at*;generalize (part [.string ⟨#[]⟩,.int C l] (j.AA.flatMap VA) h)[h*2+1]=be at*;go_wp2;have bu:=(World.ownsRow.stored (World.ownsRow.stored Y.out (h*2) (.string ⟨#[]⟩)).1 (h*2+1) (.int C l)).1;rw[Jj _ _ _ _ (by omega)]at bu;exact⟨⟨h+1,by omega,by go_num,bu,(E.out.set (Ads (by simp[An])) _).set (Ads (by simp[An])) _⟩,by simp[intOf];omega⟩
  ·obtain rfl:h=j.AA.length:=by omega
   have U:Hid (BP wr 55 [.string ⟨#[]⟩,.int C l] (W H j.AA.length G) j.AA.length):=by
    have c:=Y.out;rw[I2 _ _ _ (by show _=j.AA.length*2;exact ao.out.own.1)]at c;exact c
   have M:Hid (AD wr fp m (W bg B.length bf) (W aC O.length aB) dt va B O bJ b8):=by
    refine(aD.out.fr (w':=W1) λb d=>N.out.block b (by have:=w.out b d;omega)).fr λb d=>E.out.block b (by have:=w.out b d;omega) (λf=>by have:=w.out b d;have:=u.out b f;omega)
   obtain⟨aU,y1,y2,y3,co,x1,x2,x3⟩:=id M.out.box;obtain⟨bL,bC,bp⟩:=Adb.1 Tryz.gZ;simp only[Aeb]at bp;obtain⟨b9,bB,bo⟩:=bp;obtain⟨bM,bI,L⟩:=Adb.1 Tryz.fH;simp only[Aeb]at L;obtain⟨bD,bG,bH⟩:=L;go_wp2;have bn:∀b∈vB (W H j.AA.length G),b<wr.heap.size:=λb d=>by have:=u.out b d;have:=z.out.lt;omega
   have a7:=M.out.i.mem;have aq:∀b∈vB (W H j.AA.length G),b∉fp:=λb d f=>by have:=u.out b d;have:=w.out b f;omega
   have ba:∀b∈fp,b<wr.heap.size:=λb d=>by have:=w.out b d;have:=z.out.lt;omega
   have b7:=z.out.lt;have b6:i.heap.size+1∉vB (W H j.AA.length G):=λf=>by have:=u.out _ f;omega
   have b5:i.heap.size+1∉vB (W bg B.length bf):=λf=>by have:=w.out _ (a7 _ f);omega
   have bq:=M.out.box.lt;refine ED (S:=λw'=>w'.cell? ⟨m,0,none⟩=some (W bg B.length bf)/\w'.cell? ⟨i.heap.size+1,0,none⟩=some (.string ⟨#[]⟩)/\w'.cell? ⟨i.heap.size+1,1,none⟩=some (.int C l)) 27 2 (by rfl) (by rfl) (by kernel_rfl) (by kernel_rfl) (by kernel_rfl) ⟨aU,bb,bc⟩ (λad=>?_);iterate 18
    refine Sq (v:=?_) [0,1,2,3,4,5,6,7,10,11,12,15,16,17,18,19,20,21] rfl rfl rfl (by kernel_rfl) (by kernel_rfl) (by kernel_rfl) (λ_ _ _ c=>c) (Ads ⟨by rfl,?_⟩) (by assumption) ?_;rotate_left
    ·intro i bX;(try dsimp only at bX);(go_simp<;>with_reducible rfl)
    simp only[Act.put,Adn,Ad4,Adz]
   refine HT (w0:=wr.drew) (lo:=wr.heap.size) (V:=vB (W H j.AA.length G)) (A:=vB (W bg B.length bf)) (e:=55) (tt:=56) (te:=36) (mc:=[.string ⟨#[]⟩,.int C l]) (v:=W H j.AA.length G) (va:=W bg B.length bf) (n:=j.AA.length) (r:=B.length) (xs:=B.map Fl)
    (s1:=8) (a1:=9) (s2:=13) (a2:=14) (s3:=22) (a3:=23) (s4:=24) (s5:=25) (a4:=26) (x1:=39) (y1:=40) (x2:=44) (y2:=45) (x3:=53) (y3:=54) (x4:=55) (x5:=56) (y4:=57) (p1:=37) (p2:=41) (p3:=46) (p4:=35) (t:=36) (T:=24)
    (by kernel_rfl) (by decide) (by decide) (by kernel_rfl) ?_ ?_ bL _ 24 Tryz.underlying36 bC b9 bB bo (by rfl) (by simp) ?_ (by omega) (by unfold Aed;omega) bM _ Tryz.underlying24 bI bD bG bH (by rfl) (by omega) rfl rfl rfl ?_ ?_ ?_ ?_ ?_ ?_ 9 _ (by kernel_rfl) (Acb (by kernel_rfl)) (by kernel_rfl) ?_ ?_
   ·intro cZ ca;simp at ca ⊢;omega
   ·refine⟨⟨_,rfl,rfl,rfl,λa i k=>?_⟩,⟨_,rfl,rfl,rfl,λa i k=>?_⟩,⟨_,rfl,rfl,rfl,λa i k=>?_⟩,⟨_,rfl,rfl,rfl,rfl⟩,⟨_,rfl,rfl,rfl,rfl⟩,⟨_,rfl,rfl,rfl,rfl⟩,⟨_,rfl,rfl,rfl,λa i be b0 ch b1 cl ci cn cm cj k aN bN bO=>?_⟩,⟨_,rfl,rfl,rfl,λa i c k aN=>?_⟩,⟨_,rfl,rfl,rfl,rfl⟩,⟨by decide,rfl⟩,⟨by decide,rfl⟩,⟨by decide,rfl⟩,⟨by decide,rfl⟩⟩
    ·show Sem.run Acs (execOp a.eval ⟨some 39,.buildSlice 36 1 #[(0,.tmp 38)],36,_,_,none⟩) i=_;have dK:a.tmps[38]?.getD Aet=.agg #[.string ⟨#[]⟩,.int C l]:=by rw[k.it 38 (by decide)];rfl
     clear aD w ao aw aa al ag ax aj ah ai aJ az N aK aG u ab Y E z K U M ad;go_simp;rfl
    ·show Sem.run Acs (execOp a.eval ⟨some 44,.buildSlice 36 2 #[(0,.tmp 42),(1,.tmp 43)],36,_,_,none⟩) i=_;have dM:a.tmps[42]?.getD Aet=.agg #[.string ⟨#[]⟩,.int C l]:=by rw[k.it 42 (by decide)];rfl
     have dN:a.tmps[43]?.getD Aet=.agg #[.string ⟨#[]⟩,.int C l]:=by rw[k.it 43 (by decide)];rfl
     clear aD w ao aw aa al ag ax aj ah ai aJ az N aK aG u ab Y E z K U M ad;go_simp;rfl
    ·show Sem.run Acs (execOp a.eval ⟨some 53,.buildSlice 36 6 #[(0,.tmp 47),(1,.tmp 48),(2,.tmp 49),(3,.tmp 50),(4,.tmp 51),(5,.tmp 52)],36,_,_,none⟩) i=_;have dP:a.tmps[47]?.getD Aet=.agg #[.string ⟨#[]⟩,.int C l]:=by rw[k.it 47 (by decide)];rfl
     have dQ:a.tmps[48]?.getD Aet=.agg #[.string ⟨#[]⟩,.int C l]:=by rw[k.it 48 (by decide)];rfl
     have dR:a.tmps[49]?.getD Aet=.agg #[.string ⟨#[]⟩,.int C l]:=by rw[k.it 49 (by decide)];rfl
     have dS:a.tmps[50]?.getD Aet=.agg #[.string ⟨#[]⟩,.int C l]:=by rw[k.it 50 (by decide)];rfl
     have dT:a.tmps[51]?.getD Aet=.agg #[.string ⟨#[]⟩,.int C l]:=by rw[k.it 51 (by decide)];rfl
     have dV:a.tmps[52]?.getD Aet=.agg #[.string ⟨#[]⟩,.int C l]:=by rw[k.it 52 (by decide)];rfl
     clear aD w ao aw aa al ag ax aj ah ai aJ az N aK aG u ab Y E z K U M ad;go_simp;rfl
    ·show Sem.run Acs (execOp a.eval ⟨some 55,.buildSlice 56 4 #[(0,.tmp 36),(1,.tmp 40),(2,.tmp 45),(3,.tmp 54)],56,_,_,none⟩) i=_;have dJ:a.tmps[36]?.getD Aet=W H j.AA.length G:=by rw[k.it 36 (by decide)];rfl
     have dL:a.tmps[40]?.getD Aet=W be b0 ch:=by rw[<-Ad2];exact aN
     have dO:a.tmps[45]?.getD Aet=W b1 cl ci:=by rw[<-Ad2];exact bN
     have dX:a.tmps[54]?.getD Aet=W cn cm cj:=by rw[<-Ad2];exact bO
     clear aD w ao aw aa al ag ax aj ah ai aJ az N aK aG u ab Y E z K U M ad;go_simp;rfl
    ·show Sem.run Acs (execOp a.eval ⟨some 56,.buildSlice 24 1 #[(0,.tmp 55)],24,_,_,none⟩) i=_;have dY:a.tmps[55]?.getD Aet=W (some ⟨c,0,none⟩) 4 4:=by rw[<-Ad2];exact aN
     clear aD w ao aw aa al ag ax aj ah ai aJ az N aK aG u ab Y E z K U M ad;go_simp;rfl
   ·intro ds bv;simp at bv;rcases bv with rfl|rfl<;>rfl
   ·exact bn
   ·intro b d;exact ba b (a7 b d)
   ·intro b d f;exact aq b d (a7 b f)
   ·exact BP.cJ U.out (Acv _ _).drew
   ·exact Dh M.out.i.own (Acv _ _).drew
   ·intro w' an;have L:=an.fr m bq (λf=>aq m f M.out.mem) (λf=>by obtain⟨bP,-,a0,-⟩:=M.out.ex;exact a0.bx f);have aQ:=an.fr (i.heap.size+1) b7 b6 b5;exact⟨by rw[Ac1 (a:=⟨m,0,none⟩) L];exact aU,by rw[Ac1 (a:=⟨i.heap.size+1,0,none⟩) aQ];exact bb,by rw[Ac1 (a:=⟨i.heap.size+1,1,none⟩) aQ];exact bc⟩
   ·decide
   ·intro a w' k an av;have bS:=M.out.fr (w':=wr.drew) (λ_ _=>rfl);have aX:=hid (AD.gq (te:=36) (x:=a.eval (.tmp 57)) bS rfl ba aq (by have c:=an;rw[<-ah.out]at c;exact c) (by have c:=av;rw[<-ah.out]at c;exact c));have L:=an.fr m bq (λf=>aq m f M.out.mem) (λf=>by obtain⟨bP,-,a0,-⟩:=M.out.ex;exact a0.bx f);have cB:w'.cell? ⟨m,0,none⟩=some (W bg B.length bf):=by rw[Ac1 (a:=⟨m,0,none⟩) L];exact aU
    have cI:w'.frozen? ⟨m,0,none⟩=false:=by rw[Adm (a:=⟨m,0,none⟩) L];exact co
    obtain⟨bj,bi,n,eg,bt,-⟩:=av;have q:=Ef k;simp only[Ab2,Aho]at q;rw[bt]at aX q;generalize a.eval (.tmp 39)=z39 at q;generalize a.eval (.tmp 44)=z44 at q;generalize a.eval (.tmp 53)=z53 at q;generalize a.eval (.tmp 40)=z40 at q;generalize a.eval (.tmp 45)=z45 at q;generalize a.eval (.tmp 54)=z54 at q;generalize a.eval (.tmp 55)=z55 at q;generalize a.eval (.tmp 56)=z56 at q;simp only[Act.put,Adn,Ad4,Adz]at q;clear k bt;subst q;clear ad;refine Q0 ?_;refine wpOp_step (o:=⟨some 58,.nilCheck (.tmp 31),0,_,_,none⟩) rfl (λcR bV=>?_);go_simp;refine bV _ _ ?_;refine wpOp_step (o:=⟨some 59,.fieldAddr _ (.tmp 58) 0,0,_,_,none⟩) rfl (λcS aP=>?_);go_simp;refine aP _ _ ?_;refine wpOp_step (o:=⟨none,.store _ (.tmp 59) (.tmp 57),0,_,_,none⟩) rfl (λcU bW=>?_);go_simp;refine bW _ _ ?_;obtain⟨a5,ck,aO,br,a6⟩:=aX.out;have aV:=hid aO;have aE:=hid br;have ay:=hid a6;have b2:=hid ((K.out.cJ (Acv _ _).drew).off a6 (λf=>by
     rcases Acz.1 f with c|c
     ·have:=w.out _ c;omega
     ·have:=u.out _ c;omega))
    obtain⟨cH,be,b1,-,-,-⟩:=id b2.out;obtain⟨cp,cq,cr,cs,dv,dw,dx,dy⟩:=id aO.box;have eH:wr.heap.size<=(w'.setCell ⟨m,0,none⟩ (W (some ⟨bj,0,none⟩) (B.length+1) bi)).heap.size:=a6.size;have et:=b2.out.lt;have e0:=aO.box.lt;clear aO br a6 aX cB cI L;generalize w'.setCell ⟨m,0,none⟩ (W (some ⟨bj,0,none⟩) (B.length+1) bi)=W2 at*;go_wp2_with (first
     |(go_at_call 13;refine(aj.out _).mono ?_;rintro e du ⟨rfl,aR⟩;replace aR:=aR.symm;subst aR))
    have aH:=hid (Gf.new W2 (.string ⟨#[]⟩) (.int C y) (.bool false) (W none 0 0) 59);have am:Hid (Below W2.heap.size W2 (W2.alloc (Adi #[.string ⟨#[]⟩,.int C y,.bool false,W none 0 0] 59))):=bA;generalize W2.alloc (Adi #[.string ⟨#[]⟩,.int C y,.bool false,W none 0 0] 59)=W3 at*;have ep:=aH.out.lt;have eG:=b7;have ac:Hid (∀b∈AJ AH (W s g.length p) g,b∉a5/\b<i.heap.size):=λb d=>by
     have bl:=ab.out b d;refine⟨λf=>?_,bl.2⟩;rcases aE.out b f with c|c|c
     ·have:=w.out b c;omega
     ·exact(u.out b c).2.2 d
     ·have cv:wr.drew.heap.size=wr.heap.size:=rfl;omega
    have af:Hid (L8 W3 lo (W s g.length p) g):=aG.out.fr O6 (by have:=E.out.size;have:=am.out.size;omega) λb d=>by
     have bl:=ab.out b d;rw[am.out.block b (by omega),ay.out.block b (by show b<wr.heap.size;omega) (λf=>by
      rcases Acz.1 f with c|c
      ·have:=w.out b c;omega
      ·exact(u.out b c).2.2 d)]
     exact E.out.block b (by omega) (λf=>(u.out b f).2.2 d)
    have ae:Hid (∀b∈a5,b<W2.heap.size/\w0.heap.size<=b/\b≠i.heap.size):=λb d=>by
     have cv:wr.drew.heap.size=wr.heap.size:=rfl;rcases aE.out b d with c|c|c
     ·have:=w.out b c;omega
     ·have:=u.out b c;omega
     ·omega
    have aZ:Hid (Dk W3 a5 m (W (some ⟨bj,0,none⟩) (B.length+1) bi) (W aC O.length aB) (B++[ck]) O bJ b8 (W s g.length p) g [.string ⟨#[]⟩,.int C y,.bool false,W none 0 0] 0 W3):=
     ⟨⟨a5,_,_,bJ,b8,aV.out.fr λb d=>am.out.block b (ae.out b d).1,rfl,by omega,λb d=>⟨by have:=(ae.out b d).1;omega,Ads d⟩⟩,by rw[Gt];exact af.out.own,λeI B _=>af.out.it _ (Ac8 B),Cf.refl _ _⟩
    have aL:Hid (∀b∈AJ AH (W s g.length p) g,b∉a5/\b<W3.heap.size):=λb d=>⟨(ac.out b d).1,by have:=(ac.out b d).2;omega⟩;have eB:g.length<=100000:=by have c:=aa.out.gl;rw[<-ag.out,Adf]at c;exact c
    have aY:=hid (b2.out.cJ am.out);clear ax U Y aK aw aG ao az aJ z K M aD b2 bb bc dr b0 cE cF cG aU y1 y2 y3 co x1 x2 x3 cH be b1 cp cq cr cs dv dw dx dy b9 bB bo bD bG bH bC bI b6 b5 a7 aq bn;go_loopw [8] (λaT ar=>∃h:Nat,h<=g.length/\aT=.int C (h:Int)/\Hid (Dk W3 a5 m (W (some ⟨bj,0,none⟩) (B.length+1) bi) (W aC O.length aB) (B++[ck]) O bJ b8 (W s g.length p) g [.string ⟨#[]⟩,.int C y,.bool false,W none 0 0] h ar)) (λaT _=>g.length-(intOf aT).toNat)
    case atStart=>exact⟨0,Ac0 _,rfl,aZ.out⟩
    case round=>
     obtain⟨h,di,rfl,D⟩:=hrel;rename Q=>ar
     have aI:Hid (∀b,b=i.heap.size\/b=W2.heap.size->b∉a5++AJ AH (W s g.length p) g):=λb d f=>by
      rcases Acz.1 f with f|f
      ·have:=ae.out _ f;omega
      ·have:=(ac.out _ f).2;omega
     have z:=hid (aH.out.off D.out.off (aI.out _ (Ad7 rfl)));have K:=hid (aY.out.off D.out.off (aI.out _ (Ads rfl)));obtain⟨bb,bc,cC,cD,-,-,-,-⟩:=id z.out;obtain⟨cE,cF,cG,-,-,-⟩:=id K.out;obtain⟨b4,eW,eU,e2,ew,au,c6,c5,cd⟩:=D.out.bk;have I:=hid au;have ak:=hid cd;obtain⟨c0,cz⟩:=Dk.dc af.out.nd aL.out cd;have aW:=hid c0;have aM:=hid cz;clear au cd c0 cz;have e1:=I.out.box.lt;have dp:=z.out.lt;by_cases a8:h<g.length
     ·obtain⟨bQ,d4,bw,-,dh⟩:=World.ownsRow.form D.out.row (by omega);simp only[Value.slice.injEq,true_and]at bw;obtain⟨rfl,rfl⟩:=bw;have dj:(0:Int)<=(h:Int):=by omega
      have dk:(h:Int)<(g.length:Int):=by omega
      have dq:=af.out.own.1;have dl:=D.out.row.1;have y3:=Aen D.out.row (h*4+3) (by omega);rw[QR _ _ _ _ (by simp)]at y3;replace y3:=y3.trans (C7 (λx:CH×X×Es=>Value.string x.1.name) (λx=>Value.int C x.1.arity) (λx=>Value.bool x.1.exp) (λx=>x.2.1) g h a8).2.2.2
      have b3:=hid (D.out.it h a8 (Acu _));obtain⟨a0,dz,bY⟩:=b3.out.1.slice;have c3:=aa.out.gf g[h].1 (by rw[<-ag.out];exact Adj.2 ⟨_,Ac8 a8,rfl⟩);have bZ:g[h].2.2.length<=65535:=by have c:=c3.1;rw[<-b3.out.2,Adf]at c;exact c
      have df:∀x∈g[h].2.2,x.1.alts.length<=65535:=λx aS=>by
       have c:=c3.2 x.1 (by rw[<-b3.out.2];exact Adj.2 ⟨x,aS,rfl⟩);omega
      have bK:=hid (OE I.out (λb d=>(ak.out b d).1) b3.out.1 bZ df (by omega) (by omega) (λb d=>aW.out h a8 (Acu _) b d));have ct:Hid (∀a9,Cf (b4++AJ AP g[h].2.1 g[h].2.2) ar a9->Gf a9 W2.heap.size (.string ⟨#[]⟩) (.int C y) (.bool false) (W none 0 0)/\Gy a9 i.heap.size (.string j.name) (W H j.AA.length G) (W (some ⟨bQ,0,none⟩) g.length p)/\a9.ownsRow 0 59 4 (W (some ⟨bQ,0,none⟩) g.length p) g.length (part [.string ⟨#[]⟩,.int C y,.bool false,W none 0 0] (g.flatMap QT) h)):=by
       intro a9 bm;have c9:∀b,b=i.heap.size\/b=W2.heap.size->b∉b4++AJ AP g[h].2.1 g[h].2.2:=λb d f=>by
        rcases Acz.1 f with f|f
        ·rcases(ak.out _ f).2 with c|c|c
         ·have:=ae.out _ c;omega
         ·obtain⟨x,aS,bz⟩:=Ada.1 c;have:=(ac.out _ (Acx _ (Ada.2 ⟨x,Abs aS,bz⟩))).2;omega
         ·omega
        ·have:=(ac.out _ (Acx _ (Ada.2 ⟨_,Ac8 a8,f⟩))).2;omega
       refine⟨z.out.off bm (c9 _ (Ad7 rfl)),K.out.off bm (c9 _ (Ads rfl)),Az D.out.row λb d=>?_⟩;refine bm.block b (Lb D.out.row b (Ah.1 d)) λf=>?_;rcases Acz.1 f with f|f
       ·exact aM.out b d f
       ·exact(Aee.1 af.out.nd).2.2 b d b (Ada.2 ⟨_,Ac8 a8,f⟩) rfl
      have cM:=hid bZ;rw[bY]at y3 bK ct;go_wp2_with (first
       |(go_at_call 14;refine bK.out.mono ?_;rintro e a9 ⟨rfl,ei,eX,eV,cv,bo,aO,ce,br,a6⟩;obtain⟨dd,de,ap⟩:=ct.out a9 a6;have cJ:=hid aO;have cK:=hid br;have cO:=hid a6;have cQ:=hid ap;have cN:=hid ce;obtain⟨eM,eN,eO,eP,-,-,-,-⟩:=dd;obtain⟨eR,eS,eT,-,-,-⟩:=de;have cp:=Aen ap (h*4) (by omega);have cq:=Aen ap (h*4+1) (by omega);have cr:=Aen ap (h*4+2) (by omega);have cs:=Aen ap (h*4+3) (by omega);rw[Ad0 (by omega)]at cp cq cr cs;have fc:=World.ownsRow.frozenAt ap (h*4);have fd:=World.ownsRow.frozenAt ap (h*4+1);have fe:=World.ownsRow.frozenAt ap (h*4+2);have ff:=World.ownsRow.frozenAt ap (h*4+3);clear aO br a6 ap ce bK))
      have bu:=(World.ownsRow.stored (World.ownsRow.stored (World.ownsRow.stored (World.ownsRow.stored cQ.out (h*4) (.string ⟨#[]⟩)).1 (h*4+1) (.int C y)).1 (h*4+2) (.bool false)).1 (h*4+3) (W none 0 0)).1;rw[Pq _ _ _ _ _ _ (by omega)]at bu;refine⟨⟨h+1,by omega,by go_num,?_⟩,by simp[intOf];omega⟩;have ce:=cN.out;have e9:=cM.out;exact Dk.next af.out.nd aL.out a8 D.out c6 c5 (by rw[Adk,Aa6]) (by omega) ak.out cJ.out (by unfold AH;rw[bY];exact cK.out) (by unfold AH;rw[bY];exact cO.out) (((((Cf.refl [bQ] a9).set (Ads (by simp)) _).set (Ads (by simp)) _).set (Ads (by simp)) _).set (Ads (by simp)) _) bu
     ·obtain rfl:h=g.length:=by omega
      have U:Hid (BP ar 59 [.string ⟨#[]⟩,.int C y,.bool false,W none 0 0] (W s g.length p) g.length):=by
       have c:=D.out.row;rw[I2 _ _ _ (by show _=g.length*4;exact af.out.own.1)]at c;exact c
      obtain⟨aU,y1,y2,y3,co,x1,x2,x3⟩:=id I.out.box;obtain⟨bL,bC,bp⟩:=Adb.1 Tryz.fS;simp only[Aeb]at bp;obtain⟨b9,bB,bo⟩:=bp;obtain⟨bM,bI,L⟩:=Adb.1 Tryz.fk;simp only[Aeb]at L;obtain⟨bD,bG,bH⟩:=L;go_wp2;have bn:∀b∈vB (W s g.length p),b<ar.heap.size:=λb d=>by have:=(ac.out b (Acw _ d)).2;omega
      have a7:=I.out.g.mem;have aq:=aM.out;have ba:=λb d=>(ak.out b d).1;have b7:=dp;have b6:W2.heap.size∉vB (W s g.length p):=λf=>by have:=(ac.out _ (Acw _ f)).2;omega
      have b5:W2.heap.size∉vB (W aC O.length aB):=λf=>by
       rcases(ak.out _ (a7 _ f)).2 with c|c|c
       ·have:=ae.out _ c;omega
       ·obtain⟨x,aS,bz⟩:=Ada.1 c;have:=(ac.out _ (Acx _ (Ada.2 ⟨x,Abs aS,bz⟩))).2;omega
       ·omega
      have bq:=I.out.box.lt;refine ED (S:=λw'=>w'.cell? ⟨m,1,none⟩=some (W aC O.length aB)/\w'.cell? ⟨W2.heap.size,0,none⟩=some (.string ⟨#[]⟩)/\w'.cell? ⟨W2.heap.size,1,none⟩=some (.int C y)/\w'.cell? ⟨W2.heap.size,2,none⟩=some (.bool false)/\w'.cell? ⟨W2.heap.size,3,none⟩=some (W none 0 0)) 27 2 (by kernel_rfl) (by rfl) (by kernel_rfl) (by kernel_rfl) (by kernel_rfl) ⟨y1,bb,bc,cC,cD⟩ (λad=>?_);iterate 18
       refine Sq (v:=?_) [0,1,2,3,4,5,6,7,10,11,12,15,16,17,18,19,20,21] rfl rfl rfl (by kernel_rfl) (by kernel_rfl) (by kernel_rfl) (λ_ _ _ c=>c) (Ads ⟨by rfl,?_⟩) (by assumption) ?_;rotate_left
       ·intro i bX;(try dsimp only at bX);(go_simp<;>with_reducible rfl)
       simp only[Act.put,Adn,Ad4,Adz]
      refine HT (w0:=ar.drew) (lo:=ar.heap.size) (V:=vB (W s g.length p)) (A:=vB (W aC O.length aB)) (e:=59) (tt:=61) (te:=37) (mc:=[.string ⟨#[]⟩,.int C y,.bool false,W none 0 0]) (v:=W s g.length p) (va:=W aC O.length aB) (n:=g.length) (r:=O.length) (xs:=O.map Fl)
       (s1:=8) (a1:=9) (s2:=13) (a2:=14) (s3:=22) (a3:=23) (s4:=24) (s5:=25) (a4:=26) (x1:=97) (y1:=98) (x2:=102) (y2:=103) (x3:=111) (y3:=112) (x4:=113) (x5:=114) (y4:=115) (p1:=95) (p2:=99) (p3:=104) (p4:=93) (t:=37) (T:=25)
       (by kernel_rfl) (by decide) (by decide) (by kernel_rfl) ?_ ?_ bL _ 56 Tryz.underlying37 bC b9 bB bo (by rfl) (by simp) ?_ (by omega) (by unfold Aed;omega) bM _ Tryz.underlying25 bI bD bG bH (by rfl) (by omega) rfl rfl rfl ?_ ?_ ?_ ?_ ?_ ?_ 9 _ (by kernel_rfl) (Acb (by kernel_rfl)) (by kernel_rfl) ?_ ?_
      ·intro cZ ca;simp at ca ⊢;omega
      ·refine⟨⟨_,rfl,rfl,rfl,λa i k=>?_⟩,⟨_,rfl,rfl,rfl,λa i k=>?_⟩,⟨_,rfl,rfl,rfl,λa i k=>?_⟩,⟨_,rfl,rfl,rfl,rfl⟩,⟨_,rfl,rfl,rfl,rfl⟩,⟨_,rfl,rfl,rfl,rfl⟩,⟨_,rfl,rfl,rfl,λa i be b0 ch b1 cl ci cn cm cj k aN bN bO=>?_⟩,⟨_,rfl,rfl,rfl,λa i c k aN=>?_⟩,⟨_,rfl,rfl,rfl,rfl⟩,⟨by decide,rfl⟩,⟨by decide,rfl⟩,⟨by decide,rfl⟩,⟨by decide,rfl⟩⟩
       ·show Sem.run Acs (execOp a.eval ⟨some 97,.buildSlice 37 1 #[(0,.tmp 96)],37,_,_,none⟩) i=_;have ea:a.tmps[96]?.getD Aet=.agg #[.string ⟨#[]⟩,.int C y,.bool false,W none 0 0]:=by rw[k.it 96 (by decide)];rfl
        clear w aa al ag aj ah ai N u ab E z K U I D ak aW aM ac aL aZ af ae aY am aV aE ay aH aI ad;go_simp;rfl
       ·show Sem.run Acs (execOp a.eval ⟨some 102,.buildSlice 37 2 #[(0,.tmp 100),(1,.tmp 101)],37,_,_,none⟩) i=_;have d6:a.tmps[100]?.getD Aet=.agg #[.string ⟨#[]⟩,.int C y,.bool false,W none 0 0]:=by rw[k.it 100 (by decide)];rfl
        have d7:a.tmps[101]?.getD Aet=.agg #[.string ⟨#[]⟩,.int C y,.bool false,W none 0 0]:=by rw[k.it 101 (by decide)];rfl
        clear w aa al ag aj ah ai N u ab E z K U I D ak aW aM ac aL aZ af ae aY am aV aE ay aH aI ad;go_simp;rfl
       ·show Sem.run Acs (execOp a.eval ⟨some 111,.buildSlice 37 6 #[(0,.tmp 105),(1,.tmp 106),(2,.tmp 107),(3,.tmp 108),(4,.tmp 109),(5,.tmp 110)],37,_,_,none⟩) i=_;have d9:a.tmps[105]?.getD Aet=.agg #[.string ⟨#[]⟩,.int C y,.bool false,W none 0 0]:=by rw[k.it 105 (by decide)];rfl
        have dA:a.tmps[106]?.getD Aet=.agg #[.string ⟨#[]⟩,.int C y,.bool false,W none 0 0]:=by rw[k.it 106 (by decide)];rfl
        have dC:a.tmps[107]?.getD Aet=.agg #[.string ⟨#[]⟩,.int C y,.bool false,W none 0 0]:=by rw[k.it 107 (by decide)];rfl
        have dD:a.tmps[108]?.getD Aet=.agg #[.string ⟨#[]⟩,.int C y,.bool false,W none 0 0]:=by rw[k.it 108 (by decide)];rfl
        have dE:a.tmps[109]?.getD Aet=.agg #[.string ⟨#[]⟩,.int C y,.bool false,W none 0 0]:=by rw[k.it 109 (by decide)];rfl
        have dG:a.tmps[110]?.getD Aet=.agg #[.string ⟨#[]⟩,.int C y,.bool false,W none 0 0]:=by rw[k.it 110 (by decide)];rfl
        clear w aa al ag aj ah ai N u ab E z K U I D ak aW aM ac aL aZ af ae aY am aV aE ay aH aI ad;go_simp;rfl
       ·show Sem.run Acs (execOp a.eval ⟨some 113,.buildSlice 61 4 #[(0,.tmp 94),(1,.tmp 98),(2,.tmp 103),(3,.tmp 112)],61,_,_,none⟩) i=_;have dZ:a.tmps[94]?.getD Aet=W s g.length p:=by rw[k.it 94 (by decide)];rfl
        have eb:a.tmps[98]?.getD Aet=W be b0 ch:=by rw[<-Ad2];exact aN
        have d8:a.tmps[103]?.getD Aet=W b1 cl ci:=by rw[<-Ad2];exact bN
        have dH:a.tmps[112]?.getD Aet=W cn cm cj:=by rw[<-Ad2];exact bO
        clear w aa al ag aj ah ai N u ab E z K U I D ak aW aM ac aL aZ af ae aY am aV aE ay aH aI ad;go_simp;rfl
       ·show Sem.run Acs (execOp a.eval ⟨some 114,.buildSlice 25 1 #[(0,.tmp 113)],25,_,_,none⟩) i=_;have dI:a.tmps[113]?.getD Aet=W (some ⟨c,0,none⟩) 4 4:=by rw[<-Ad2];exact aN
        clear w aa al ag aj ah ai N u ab E z K U I D ak aW aM ac aL aZ af ae aY am aV aE ay aH aI ad;go_simp;rfl
      ·intro ds bv;simp at bv;rcases bv with rfl|rfl|rfl|rfl<;>rfl
      ·exact bn
      ·intro b d;exact ba b (a7 b d)
      ·intro b d f;exact aq b d (a7 b f)
      ·exact BP.cJ U.out (Acv _ _).drew
      ·exact Dh I.out.g.own (Acv _ _).drew
      ·intro w' an;have L:=an.fr m bq (λf=>aq m f I.out.mem) (λf=>by obtain⟨bP,-,a0,-⟩:=I.out.ex;exact a0.WP f);have aQ:=an.fr W2.heap.size b7 b6 b5;exact⟨by rw[Ac1 (a:=⟨m,1,none⟩) L];exact y1,by rw[Ac1 (a:=⟨W2.heap.size,0,none⟩) aQ];exact bb,by rw[Ac1 (a:=⟨W2.heap.size,1,none⟩) aQ];exact bc,by rw[Ac1 (a:=⟨W2.heap.size,2,none⟩) aQ];exact cC,by rw[Ac1 (a:=⟨W2.heap.size,3,none⟩) aQ];exact cD⟩
      ·decide
      ·intro a w' k an av;have bS:=I.out.fr (w':=ar.drew) (λ_ _=>rfl);have aX:=hid (AD.g0 (te:=37) (x:=a.eval (.tmp 115)) bS rfl ba aq (by have c:=an;rw[<-ai.out]at c;exact c) (by have c:=av;rw[<-ai.out]at c;exact c));have L:=an.fr m bq (λf=>aq m f I.out.mem) (λf=>by obtain⟨bP,-,a0,-⟩:=I.out.ex;exact a0.WP f);have cB:w'.cell? ⟨m,1,none⟩=some (W aC O.length aB):=by rw[Ac1 (a:=⟨m,1,none⟩) L];exact y1
       have cI:w'.frozen? ⟨m,1,none⟩=false:=by rw[Adm (a:=⟨m,1,none⟩) L];exact x1
       obtain⟨ej,d5,eQ,eh,bt,-⟩:=av;have q:=Ef k;simp only[Ab2,Aho]at q;rw[bt]at aX q;generalize a.eval (.tmp 97)=z97 at q;generalize a.eval (.tmp 102)=z102 at q;generalize a.eval (.tmp 111)=z111 at q;generalize a.eval (.tmp 98)=z98 at q;generalize a.eval (.tmp 103)=z103 at q;generalize a.eval (.tmp 112)=z112 at q;generalize a.eval (.tmp 113)=z113 at q;generalize a.eval (.tmp 114)=z114 at q;simp only[Act.put,Adn,Ad4,Adz]at q;clear k bt;subst q;clear ad;refine Q0 ?_;refine wpOp_step (o:=⟨some 116,.nilCheck (.tmp 89),0,_,_,none⟩) rfl (λcR bV=>?_);go_simp;refine bV _ _ ?_;refine wpOp_step (o:=⟨some 117,.fieldAddr _ (.tmp 116) 1,0,_,_,none⟩) rfl (λcS aP=>?_);go_simp;refine aP _ _ ?_;refine wpOp_step (o:=⟨none,.store _ (.tmp 117) (.tmp 115),0,_,_,none⟩) rfl (λcU bW=>?_);go_simp;refine bW _ _ ?_;go_wp2;refine bE ?_;obtain⟨da,ck,dc,dg,cy⟩:=aX.out;have eE:=cy.size;have e3:ar.drew.heap.size=ar.heap.size:=rfl;have e4:wr.drew.heap.size=wr.heap.size:=rfl;have en:=D.out.off.size;have eu:=am.out.size;have es:=ay.out.size;have er:=E.out.size;have ev:=N.out.size;have bZ:=c6;have ey:=c5;have cf:∀b∈AJ AH (W s g.length p) g,w0.heap.size<=b:=λb d=>by have:=ab.out b d;omega
       have c2:∀b∈b4,w0.heap.size<=b:=λb d=>by
        rcases(ak.out b d).2 with c|c|c
        ·exact(ae.out b c).2.1
        ·obtain⟨x,aS,bz⟩:=Ada.1 c;exact cf b (Acx _ (Ada.2 ⟨x,Abs aS,bz⟩))
        ·omega
       refine⟨rfl,⟨⟨da,_,_,_,_,_,_,_,_,dc,λb d=>?_,?_,?_,?_,?_⟩,Acu _⟩,?_⟩
       ·rcases dg b d with c|c|c
        ·exact⟨c2 b c,by have:=ba b c;omega⟩
        ·exact⟨cf b (Acw _ c),by have:=bn b c;omega⟩
        ·exact⟨by omega,c.2⟩
       ·rw[Adk,Aa6];omega
       ·rw[Adk,Aa6];omega
       ·omega
       ·omega
       ·have cV:Cf (fp++(vB (W H j.AA.length G)++(a5++(AJ AH (W s g.length p) g++b4)))) i W1:=Cf.cI N.out;have cW:=cV.then E.out (λb d=>Ads (by simp[d]));have cX:=(cW.trans (Cf.cI (Acv _ _).drew)).then ay.out (λb d=>Ads (by rcases Acz.1 d with c|c<;>simp[c]));have cY:=(cX.then (bs:=[]) (Cf.cI am.out) (λb d=>by cases d)).then D.out.off (λb d=>Ads (by rcases Acz.1 d with c|c<;>simp[c]));have bh:=(cY.trans (Cf.cI (Acv _ _).drew)).then cy (λb d=>Ads (by
         rcases Acz.1 d with c|c
         ·simp[c]
         ·have db:b∈AJ AH (W s g.length p) g:=Acw _ c;simp[db]))
        refine⟨bh.os,bh.tape,bh.output,bh.size,λb d=>bh.block b (by omega) λf=>?_⟩;simp only[Acz]at f;rcases f with c|c|c|c|c
        ·have:=w.out b c;omega
        ·have:=u.out b c;omega
        ·have:=ae.out b c;omega
        ·have:=cf b c;omega
        ·have:=c2 b c;omega
theorem Fe.read{fp:List Nat}(m:Fe n fp M sn sj (W L wg.length w) wg)(a:Nat)(q:a<wg.length)(b:Nat)(I:b<4):
 ∃h l t k u,L=some ⟨h,0,none⟩/\n.cell? ⟨h,a,none⟩=some (W (some ⟨l,0,none⟩) 4 4)/\n.cell? ⟨l,b,none⟩=some (W t k u)/\k<=Aed/\∀f,f<k->∃d,t=some ⟨d,0,none⟩/\∀g,g<(sj a).length->n.cell? ⟨d,f*(sj a).length+g,none⟩=(sj a)[g]?:=by
 rcases FL m.own with⟨i,x⟩|⟨h,G,i,x,y⟩
 ·omega
 ·simp[Value.slice.injEq,true_and]at i;obtain⟨rfl,rfl⟩:=i;have p:=y a (by omega);rw[Aa1,Ad0 q]at p;obtain⟨-,c,K,z,E⟩:=m.it a q;obtain⟨s,-⟩:=E (c[b]) (Ac8 (by omega));refine⟨h,wg[a],c[b].1,c[b].2.1,c[b].2.2,rfl,p,z b (by omega),?_,λf B=>?_⟩
  ·rcases s.2 with⟨e,j⟩|⟨d,v,H,e,-,-,j,o,-⟩
   ·omega
   ·omega
  ·rcases FL s with⟨e,j⟩|⟨d,v,e,j,o⟩
   ·omega
   ·simp[Value.slice.injEq]at e;refine⟨d,e.1,λg D=>?_⟩;have r:f*(sj a).length+g<c[b].2.1*(sj a).length:=by
     have:(f+1)*(sj a).length<=c[b].2.1*(sj a).length:=Aaa _ B;grind
    rw[o _ r,Kq _ _ _ r,Nat.add_comm,Nat.add_mul_mod_self_right,Nat.mod_eq_of_lt D]
theorem R3:Xt:=by
 intro aH e ak a9 aB aj a8;obtain⟨fp,aG,aE,aD,aC,D,B,z,y,v,-,ao,ap,aq,ar⟩:=aj.it;obtain⟨aw,am,rfl⟩:=Ad v.i.own;obtain⟨av,cg,rfl⟩:=Ad v.g.own;obtain⟨au,cc,rfl⟩:=Ad v.c.own;obtain⟨pa,al,rfl⟩:=Ad v.a.own;have a4:D.length<=100000000000:=by omega
 have a3:B.length<=100000000000:=by omega
 have a2:z.length<=100000000000:=by omega
 have a1:y.length<=100000000000:=by omega
 obtain⟨ax,ay,az,a0,-,-,-,-⟩:=id v.box;have I:=hid v;have q:Hid (∀ah,Below e.heap.size e ah->Gf ah ak (W aw D.length am) (W av B.length cg) (W au z.length cc) (W pa y.length al)):=λah an=>v.box.cJ an;clear v aj ao ap aq ar;go_enter Tryz.func7,Tryz.ntmps7;go_wp2;go_loopw [3] (λaf wr=>∃u:Nat,u<=4/\af=V C (u:Int)/\Below e.heap.size e wr) (λaf _=>4-(intOf af).toNat)
 case atStart=>exact⟨0,Ac0 _,rfl,Acv _ _⟩
 case round=>
  obtain⟨u,a5,rfl,b⟩:=hrel;rename Q=>w1
  by_cases K:u<4
  ·have a6:(0:Int)<=(u:Int):=by omega
   have a7:(u:Int)<4:=by omega
   obtain⟨i,j,k,l,-,-,-,-⟩:=q.out _ b;go_wp2;go_loopw [4] (λo wr=>∃c:Nat,c<=D.length/\o=V C (c:Int)/\Below e.heap.size e wr) (λo _=>D.length-(intOf o).toNat)
   case atStart=>exact⟨0,Ac0 _,rfl,b⟩
   case round=>
    clear b i j k l;obtain⟨c,Y,rfl,b⟩:=hrel;rename Q=>w2
    obtain⟨i,j,k,l,-,-,-,-⟩:=q.out _ b;by_cases E:c<D.length
    ·obtain⟨O,L,ag,h,N,rfl,f,g,H,t⟩:=Fe.read I.out.i c E u K;unfold Aed at H;have U:(0:Int)<=(c:Int):=by omega
     have ab:(c:Int)<(D.length:Int):=by omega
     have r:=hid t;have m:=hid f;have n:=hid g;clear t f g;have f:=Aa b m.out;have g:=Aa b n.out;go_wp2;go_loopw [5] (λp wr=>∃d:Nat,d<=h/\p=V C (d:Int)/\Below e.heap.size e wr) (λp _=>h-(intOf p).toNat)
     case atStart=>exact⟨0,Ac0 _,rfl,b⟩
     case round=>
      clear b i j k l f g;obtain⟨d,ad,rfl,b⟩:=hrel;rename Q=>w3
      obtain⟨i,j,k,l,-,-,-,-⟩:=q.out _ b;have f:=Aa b m.out;have g:=Aa b n.out;by_cases G:d<h
      ·obtain⟨x,rfl,s⟩:=r.out d G;have ai:=Aa b (show e.cell? ⟨x,d*2+1,none⟩=some (V C (MQ c)) from s 1 (show 1<2 by omega));have w:=hid (λe=>DH c e (by omega));have ac:(0:Int)<=(d:Int):=by omega
       have ae:(d:Int)<(h:Int):=by omega
       generalize MQ c=M at*;clear s r m n;go_wp2;go_quiet ((go_at_call 13;refine Calls.quiet_of_same (w.out _)));go_wp2;exact⟨⟨d+1,by omega,rfl,Aeu b _⟩,by simp[intOf];omega⟩
      ·go_wp2;exact⟨⟨c+1,by omega,rfl,b⟩,by simp[intOf];omega⟩
    ·have aa:¬(c:Int)<(D.length:Int):=by omega
     obtain⟨i,j,k,l,-,-,-,-⟩:=q.out _ b;go_wp2;go_loopw [6] (λo wr=>∃c:Nat,c<=B.length/\o=V C (c:Int)/\Below e.heap.size e wr) (λo _=>B.length-(intOf o).toNat)
     case atStart=>exact⟨0,Ac0 _,rfl,b⟩
     case round=>
      clear b i j k l;obtain⟨c,Y,rfl,b⟩:=hrel;rename Q=>w2
      obtain⟨i,j,k,l,-,-,-,-⟩:=q.out _ b;by_cases E:c<B.length
      ·obtain⟨O,L,ag,h,N,rfl,f,g,H,t⟩:=Fe.read I.out.g c E u K;unfold Aed at H;have U:(0:Int)<=(c:Int):=by omega
       have ab:(c:Int)<(B.length:Int):=by omega
       have r:=hid t;have m:=hid f;have n:=hid g;clear t f g;have f:=Aa b m.out;have g:=Aa b n.out;go_wp2;go_loopw [7] (λp wr=>∃d:Nat,d<=h/\p=V C (d:Int)/\Below e.heap.size e wr) (λp _=>h-(intOf p).toNat)
       case atStart=>exact⟨0,Ac0 _,rfl,b⟩
       case round=>
        clear b i j k l f g;obtain⟨d,ad,rfl,b⟩:=hrel;rename Q=>w3
        obtain⟨i,j,k,l,-,-,-,-⟩:=q.out _ b;have f:=Aa b m.out;have g:=Aa b n.out;by_cases G:d<h
        ·obtain⟨x,rfl,s⟩:=r.out d G;have ai:=Aa b (show e.cell? ⟨x,d*4+1,none⟩=some (V C (MQ c)) from s 1 (show 1<4 by omega));have w:=hid (λe=>DH c e (by omega));have ac:(0:Int)<=(d:Int):=by omega
         have ae:(d:Int)<(h:Int):=by omega
         generalize MQ c=M at*;clear s r m n;go_wp2;go_quiet ((go_at_call 13;refine Calls.quiet_of_same (w.out _)));go_wp2;exact⟨⟨d+1,by omega,rfl,Aeu b _⟩,by simp[intOf];omega⟩
        ·go_wp2;exact⟨⟨c+1,by omega,rfl,b⟩,by simp[intOf];omega⟩
      ·have aa:¬(c:Int)<(B.length:Int):=by omega
       obtain⟨i,j,k,l,-,-,-,-⟩:=q.out _ b;go_wp2;go_loopw [8] (λo wr=>∃c:Nat,c<=z.length/\o=V C (c:Int)/\Below e.heap.size e wr) (λo _=>z.length-(intOf o).toNat)
       case atStart=>exact⟨0,Ac0 _,rfl,b⟩
       case round=>
        clear b i j k l;obtain⟨c,Y,rfl,b⟩:=hrel;rename Q=>w2
        obtain⟨i,j,k,l,-,-,-,-⟩:=q.out _ b;by_cases E:c<z.length
        ·obtain⟨O,L,ag,h,N,rfl,f,g,H,t⟩:=Fe.read I.out.c c E u K;unfold Aed at H;have U:(0:Int)<=(c:Int):=by omega
         have ab:(c:Int)<(z.length:Int):=by omega
         have r:=hid t;have m:=hid f;have n:=hid g;clear t f g;have f:=Aa b m.out;have g:=Aa b n.out;go_wp2;go_loopw [9] (λp wr=>∃d:Nat,d<=h/\p=V C (d:Int)/\Below e.heap.size e wr) (λp _=>h-(intOf p).toNat)
         case atStart=>exact⟨0,Ac0 _,rfl,b⟩
         case round=>
          clear b i j k l f g;obtain⟨d,ad,rfl,b⟩:=hrel;rename Q=>w3
          obtain⟨i,j,k,l,-,-,-,-⟩:=q.out _ b;have f:=Aa b m.out;have g:=Aa b n.out;by_cases G:d<h
          ·obtain⟨x,rfl,s⟩:=r.out d G;have ai:=Aa b (show e.cell? ⟨x,d*3+1,none⟩=some (V C (MQ c)) from s 1 (show 1<3 by omega));have w:=hid (λe=>DH c e (by omega));have ac:(0:Int)<=(d:Int):=by omega
           have ae:(d:Int)<(h:Int):=by omega
           generalize MQ c=M at*;clear s r m n;go_wp2;go_quiet ((go_at_call 13;refine Calls.quiet_of_same (w.out _)));go_wp2;exact⟨⟨d+1,by omega,rfl,Aeu b _⟩,by simp[intOf];omega⟩
          ·go_wp2;exact⟨⟨c+1,by omega,rfl,b⟩,by simp[intOf];omega⟩
        ·have aa:¬(c:Int)<(z.length:Int):=by omega
         obtain⟨i,j,k,l,-,-,-,-⟩:=q.out _ b;go_wp2;go_loopw [10] (λo wr=>∃c:Nat,c<=y.length/\o=V C (c:Int)/\Below e.heap.size e wr) (λo _=>y.length-(intOf o).toNat)
         case atStart=>exact⟨0,Ac0 _,rfl,b⟩
         case round=>
          clear b i j k l;obtain⟨c,Y,rfl,b⟩:=hrel;rename Q=>w2
          obtain⟨i,j,k,l,-,-,-,-⟩:=q.out _ b;by_cases E:c<y.length
          ·obtain⟨O,L,ag,h,N,rfl,f,g,H,t⟩:=Fe.read I.out.a c E u K;unfold Aed at H;have U:(0:Int)<=(c:Int):=by omega
           have ab:(c:Int)<(y.length:Int):=by omega
           have r:=hid t;have m:=hid f;have n:=hid g;clear t f g;have f:=Aa b m.out;have g:=Aa b n.out;go_wp2;go_loopw [11] (λp wr=>∃d:Nat,d<=h/\p=V C (d:Int)/\Below e.heap.size e wr) (λp _=>h-(intOf p).toNat)
           case atStart=>exact⟨0,Ac0 _,rfl,b⟩
           case round=>
            clear b i j k l f g;obtain⟨d,ad,rfl,b⟩:=hrel;rename Q=>w3
            obtain⟨i,j,k,l,-,-,-,-⟩:=q.out _ b;have f:=Aa b m.out;have g:=Aa b n.out;by_cases G:d<h
            ·obtain⟨x,rfl,s⟩:=r.out d G;have ai:=Aa b (show e.cell? ⟨x,d*2+1,none⟩=some (V C (MQ c)) from s 1 (show 1<2 by omega));have w:=hid (λe=>DH c e (by omega));have ac:(0:Int)<=(d:Int):=by omega
             have ae:(d:Int)<(h:Int):=by omega
             generalize MQ c=M at*;clear s r m n;go_wp2;go_quiet ((go_at_call 13;refine Calls.quiet_of_same (w.out _)));go_wp2;exact⟨⟨d+1,by omega,rfl,Aeu b _⟩,by simp[intOf];omega⟩
            ·go_wp2;exact⟨⟨c+1,by omega,rfl,b⟩,by simp[intOf];omega⟩
          ·have aa:¬(c:Int)<(y.length:Int):=by omega
           go_wp2;exact⟨⟨u+1,by omega,rfl,b⟩,by simp[intOf];omega⟩
  ·go_wp2;go_ret;simp_all
end Go.Proofs.YtnghccjoicmabaaGreatDoor
