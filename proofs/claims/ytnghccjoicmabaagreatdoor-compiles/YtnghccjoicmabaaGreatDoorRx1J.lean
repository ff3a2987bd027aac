import Derived.Test.YtnghccjoicmabaaGreatDoorPx1J
set_option maxRecDepth 100000
set_option maxHeartbeats 4000000
open Except renaming error->P
open Go renaming Calls->Adg,TypeId->Ad5,Value->X,World->Q,maxLen->Aed,wpList_append_lies->Adl
open Go.Ending renaming returned->F
open Go.IntKind renaming i64->C
open Go.Obj renaming cells->Adi
open Go.Proofs.Tryz renaming prog->Acs
open Go.Value renaming agg->T,iface->Z,int->V,pointer->J,slice->W,string->S,tuple->R
open Go.World renaming news_of_block->Adu
open Or renaming inl->Ads,inr->Ad7
namespace Go.Proofs.YtnghccjoicmabaaGreatDoor
open Go.RowKit Go.Sort
variable{s wn:ByteArray}{w v b d x:Nat}{n p h:World}{vs:List (ByteArray×Nat)}{L:Option Addr}{wd ve:Type}{M:TypeId}{m q j f:Value}{nv:Obj}{o:Nat->Addr}{nw:Nat->Pr Ex}{y:List ByteArray}{we w7 nk:Int}{wb:List Value}{N:Ex}
def BM(a:ByteArray)(b:Nat):List (ByteArray×Nat):=if _h:Am a b<a.size then (Ag a b,Am a b)::BM a (AC a b) else [(⟨#[]⟩,a.size)]
termination_by a.size-b
decreasing_by
 have c:=Qb _h;have d:=AX a b;unfold Am at _h;omega
theorem H9{p:Nat}(a:Am s p<s.size):BM s p=(Ag s p,Am s p)::BM s (AC s p):=by rw[BM,dif_pos a]
theorem JD(a:¬Am s w<s.size):BM s w=[(⟨#[]⟩,s.size)]:=by rw[BM,dif_neg a]
theorem Ga(a:ByteArray)(b:Nat):BM a (Bi a b)=BM a b:=by
 rw[BM,DI,Di,DZ];conv=>rhs;rw[BM]
theorem UC(a:w<s.size)(b:CF s[w].toNat=true):BM s (w+1)=BM s w:=by
 rw[<-Ga s (w+1),<-Ga s w,LZ a b]
theorem RJ(a:ByteArray)(c:Nat):BM a c≠[]:=by
 by_cases b:Am a c<a.size
 ·rw[H9 b];simp
 ·rw[JD b];simp
theorem Lx(a:w<=s.size):∃d,BM s w=(Ag s w,Am s w)::d/\(Ag s w≠⟨#[]⟩->d=BM s (AC s w)):=by
 by_cases c:Am s w<s.size
 ·exact⟨_,H9 c,λ_=>rfl⟩
 ·have f:=WW a;have g:=AK a;have h:=Cb a;have b:Ag s w=⟨#[]⟩:=by
   apply Abx;apply Abh;show(Ag s w).size=0;omega
  refine⟨[],?_,λe=>absurd b e⟩;rw[JD c,b,show Am s w=s.size by omega]
theorem ext_get(a:ByteArray)(b c:Nat)(d:c<(a.extract b a.size).size)(e:b+c<a.size):(a.extract b a.size)[c]=a[b+c]:=by
 simp[ByteArray.getElem_extract]
theorem MG(a:ByteArray)(b:Nat)(k:b<=a.size):∀g c,a.size-(b+c)<=g->b+c<=a.size->Gs (a.extract b a.size) c+b=Gs a (b+c)
 |0,c,hn,hk=>by
  rw[CP (by rw[Aac];omega),CP (by omega)];omega
 |g+1,c,hn,hk=>by
  by_cases e:b+c<a.size
  ·have f:c<(a.extract b a.size).size:=by rw[Aac];omega
   have d:=ext_get a b c f e;by_cases j:CF a[b+c].toNat=true\/Dp a[b+c].toNat=true
   ·rw[Df f (by rw[d];exact j),Df e j];omega
   ·have h:CF a[b+c].toNat=false:=by grind
    have i:Dp a[b+c].toNat=false:=by grind
    rw[DQ f (by rw[d];exact h) (by rw[d];exact i),DQ e h i];exact MG a b k g (c+1) (by omega) (by omega)
  ·rw[CP (by rw[Aac];omega),CP (by omega)];omega
theorem UT(f:w<s.size)(c:CF s[w].toNat=true):J7 (s.extract w s.size)=0:=by
 have b:0<(s.extract w s.size).size:=by rw[Aac];omega
 have d:=ext_get s w 0 b (by omega);have a:Dp s[w].toNat=false:=by rw[Tz]at c;cases a:Dp s[w].toNat with|false=>rfl|true=>rw[TW]at a;omega
 have e:(s.extract w s.size)[0].toNat=s[w].toNat:=by rw[d];rfl
 rw[H7 b (by rw[e];exact a)];have:=MG s w (by omega) _ 0 .refl (by omega);have g:Gs s (w+0)=w:=Df f (Ads c);omega
theorem Ns(a:w<s.size)(d:CF s[w].toNat=false):w+J7 (s.extract w s.size)=Eu s w:=by
 have b:0<(s.extract w s.size).size:=by rw[Aac];omega
 have c:(s.extract w s.size)[0].toNat=s[w].toNat:=by rw[ext_get s w 0 b (by omega)];rfl
 cases hb:Dp s[w].toNat with
 |true=>
  rw[OR b (by rw[c];exact hb)];unfold Eu;rw[if_pos ⟨Df a (Ad7 hb),a⟩]
 |false=>
  rw[H7 b (by rw[c];exact hb)];have:=MG s w (by omega) _ 0 .refl (by omega);have e:w<Gs s w:=by
   rw[DQ a d hb];have:=MN s (w+1);omega
  unfold Eu;grind
def wC(a:ByteArray×Nat):List X:=[S a.1,V C (a.2:Int)]
abbrev OY(d:Q)(b:Nat)(c:X)(a:List (ByteArray×Nat)):Prop:=AZ wC (λ_=>[]) (λ_ _=>True) 149 2 d b c a
theorem II:FI (α:=ByteArray×Nat) (λ_=>[]) (λ_ _=>True):=λ_ _ _ _ _ _=>trivial
theorem Tryz.gh:(Acs.info? 149).map (λa=>(a.zero,a.size,a.bytes))=some (some (T #[S ⟨#[]⟩,V C 0]),2,24):=by kernel_rfl
structure Gz (c:ByteArray) (d wr:Q) (b:Nat) (a:List (ByteArray×Nat)) (f:Option Addr) (e:Nat):Prop where
 le:b<=c.size
 row:OY wr d.heap.size (W f a.length e) a
 eq:a++BM c b=BM c 0
 len:a.length<=b
 low:Below d.heap.size d wr
theorem Gz.g3{wr:Q}(a:Gz s n wr w vs L v)(b:w<s.size)(c:CF s[w].toNat=true):Gz s n wr (w+1) vs L v:=
 ⟨by omega,a.row,by rw[UC b c];exact a.eq,by have:=a.len;omega,a.low⟩
theorem AZ.dR{d:wd->List X}{f:Q->wd->Prop}(s:FI (λ_=>[]) f){a g:Q}{j:Nat}{k:X}{b:List wd}{e:Obj}(m:AZ d (λ_=>[]) f M w a j k b)(q:j<=a.heap.size){x:wd}(u:f (a.alloc e) x)(p:(a.alloc e).grownBy g k.ownBlock){c l:Nat}(o:k.ownBlock=some c\/c=(a.alloc e).heap.size)(r:c<g.heap.size)(t:g.ownsRow 0 M w (W (some ⟨c,0,none⟩) (b.length+1) l) (b.length+1) (b.flatMap d++d x)):AZ d (λ_=>[]) f M w g j (W (some ⟨c,0,none⟩) (b.length+1) l) (b++[x]):=by
 have n:Below a.heap.size a (a.alloc e):=bA;exact m.push s q (λh i=>n.block h (m.rg h i).2) n.size u (λh i=>by cases i) Ag6 p rfl o r t
theorem Em(b:Below w n p)(d:w<=p.heap.size)(e:∀a,m.ownBlock=some a->w<=a)(c:(p.alloc nv).grownBy h m.ownBlock):Below w n h:=
 (b.alloc d nv).grown c (by simp;omega) e
theorem Gz.word{s:ByteArray}{wr:Q}(a:Gz s n wr w vs L b)(d:w<s.size)(j:CF s[w].toNat=false)(y:J7 (s.extract w s.size)=v)(k:(wr.alloc nv).grownBy h (W L vs.length b).ownBlock){c e:Nat}(r:(W L vs.length b).ownBlock=some c\/c=(wr.alloc nv).heap.size)(x:c<h.heap.size)(z:h.ownsRow 0 149 2 (W (some ⟨c,0,none⟩) (vs.length+1) e) (vs.length+1) (vs.flatMap wC++[S (s.extract w (w+v)),V C (w:Int)])):
 Gz s n h (w+v) (vs++[(s.extract w (w+v),w)]) (some ⟨c,0,none⟩) e:=by
 subst y;have o:=Ns d j;have f:=HM d j;have g:AC s w=w+J7 (s.extract w s.size):=by unfold AC;rw[f,<-o]
 have i:Am s w=w:=f;have B:=Mh d;have D:=Mg (s:=s) (q:=w) (by omega);have u:(vs++[(s.extract w (w+J7 (s.extract w s.size)),w)]).length=vs.length+1:=by simp
 have l:=a.low.size;refine⟨by omega,?_,?_,by have:=a.len;omega,Em a.low l (λm t=>(a.row.rg m (Acw _ (Ah.2 t))).1) k⟩
 ·rw[u];exact a.row.dR II l trivial k r x z
 ·rw[<-a.eq,H9 (p:=w) (by omega),Aem,g,i];unfold Ag;rw[g,i];rfl
def Uf(a:ByteArray)(b:Q)(f:Ending)(e:Q):Prop:=Below b.heap.size b e/\∃d c,f=F (W (some ⟨d,0,none⟩) (BM a 0).length c)/\OY e b.heap.size (W (some ⟨d,0,none⟩) (BM a 0).length c) (BM a 0)
theorem Gz.fin{wr:Q}(b:Gz s n wr s.size vs L w)(e:(wr.alloc nv).grownBy h (W L vs.length w).ownBlock){a c:Nat}(j:(W L vs.length w).ownBlock=some a\/a=(wr.alloc nv).heap.size)(l:a<h.heap.size)(m:h.ownsRow 0 149 2 (W (some ⟨a,0,none⟩) (vs.length+1) c) (vs.length+1) (vs.flatMap wC++[S ⟨#[]⟩,V C (s.size:Int)])):
 Uf s n (F (W (some ⟨a,0,none⟩) (vs.length+1) c)) h:=by
 have g:=b.low.size;have d:BM s 0=vs++[(⟨#[]⟩,s.size)]:=by
  rw[<-b.eq,JD];have:=AX s s.size;unfold Am;omega
 have f:(vs++[((⟨#[]⟩,s.size):ByteArray×Nat)]).length=vs.length+1:=by simp
 refine⟨Em b.low g (λi k=>(b.row.rg i (Acw _ (Ah.2 k))).1) e,a,c,?_,?_⟩
 ·rw[d,f]
 ·rw[d,f];exact b.row.dR II g trivial e j l m
theorem Wf(s:ByteArray)(e:Q)(ah:s.size<=2000):Adg Acs 26 #[S s] e λt n=>Uf s e t n:=by
 obtain⟨E,B,D⟩:=Adb.1 Tryz.gh;simp only[Aeb]at D;obtain⟨x,y,z⟩:=D;have v:Hid (Gz s e e 0 [] none 0):=⟨Ac0 _,AZ.nil _ _,rfl,Ac0 _,Acv _ _⟩;go_enter Tryz.func26,Tryz.ntmps26;go_wp2;go_loopw [3,4] (λO r wr=>∃(c:List (ByteArray×Nat)) (a:Nat) (g:Option Addr) (f:Nat),O=W g c.length f/\r=V C (a:Int)/\Hid (Gz s e wr a c g f)) (λ_ r _=>s.size-(intOf r).toNat)
 case atStart=>exact⟨[],0,none,0,rfl,rfl,v.out⟩
 case round=>
  clear v;obtain⟨c,a,g,f,rfl,rfl,d⟩:=hrel;rename Q=>wr
  have ad:=d.out.le;have ae:=d.out.len;by_cases j:a<s.size
  ·have aa:(0:Int)<=(a:Int):=by omega
   have ab:(a:Int)<(s.size:Int):=by omega
   have ai:(s.extract a s.size).size=s.size-a:=by rw[Aac];omega
   have w:=hid (λe=>JF (s.extract a s.size) e (by omega) (by omega));cases hg:CF s[a].toNat with
   |true=>
    have H:=hid (d.out.g3 j hg);have o:=hid (UT j hg);clear hg;go_wp2_with (first|(go_at_call 54;refine(w.out _).mono ?_;rintro t n ⟨rfl,rfl⟩;rw[o.out]))
    exact⟨⟨c,a+1,g,f,rfl,by go_num,H.out⟩,by simp[intOf];omega⟩
   |false=>
    obtain⟨b,u⟩:∃b,J7 (s.extract a s.size)=b:=⟨_,rfl⟩;have K:a+b=Eu s a:=by rw[<-u];exact Ns j hg
    have L:=Mh (s:=s) (q:=a) j;have M:=Mg (s:=s) (q:=a) (by omega);have af:0<b:=by omega
    have ag:a+b<=s.size:=by omega
    clear K L M;have G:=hid hg;have o:=hid u;clear hg u;have aj:(0:Int)<(b:Int):=by omega
    have ak:(0:Int)<=(a:Int)+(b:Int):=by omega
    have al:(a:Int)+(b:Int)<=(s.size:Int):=by omega
    have am:(a:Int)<=(a:Int)+(b:Int):=by omega
    go_wp2_with (first
     |(go_at_call 54;refine(w.out _).mono ?_;rintro t n ⟨rfl,rfl⟩;rw[o.out])
     |(at_builtin;refine Adl _ rfl (.tmp 16) (.tmp 25) 97 rfl 0 149 E _ 2 24 Tryz.underlying97 B x y z rfl (by omega) (W g c.length f) c.length (c.flatMap wC) rfl (d.out.row.own.alloc _) ⟨n.heap.size,0,none⟩ 1 1 [S (s.extract a (a+b)),V C (a:Int)] rfl rfl (by simpa using Adu (Adp n (Adi #[S (s.extract a (a+b)),V C (a:Int)] 149))) (by intro U m;simp at m;rcases m with rfl|rfl<;>rfl) (by omega) (by unfold Aed;omega) (by omega) (Ac0 _) _ rfl ?_;intro I N Y l i h k;have p:=hid (d.out.word j G.out o.out i h k l);clear l i h k))
    exact⟨⟨_,a+b,_,_,by rw[Adk];rfl,by go_num,p.out⟩,by simp[intOf];omega⟩
  ·obtain rfl:a=s.size:=by omega
   have ac:¬(s.size:Int)<(s.size:Int):=by omega
   go_wp2_with (first
    |(at_builtin;refine Adl _ rfl (.tmp 31) (.tmp 35) 97 rfl 0 149 E _ 2 24 Tryz.underlying97 B x y z rfl (by omega) (W g c.length f) c.length (c.flatMap wC) rfl (d.out.row.own.alloc _) ⟨wr.heap.size,0,none⟩ 1 1 [S ⟨#[]⟩,V C (s.size:Int)] rfl rfl (by simpa using Adu (Adp wr (Adi #[S ⟨#[]⟩,V C (s.size:Int)] 149))) (by intro U m;simp at m;rcases m with rfl|rfl<;>rfl) (by omega) (by unfold Aed;omega) (by omega) (Ac0 _) _ rfl ?_;intro I N Y l i h k;have p:=hid (d.out.fin i h k l);clear l i h k))
   go_ret;exact p.out
structure SY (a:Q) (b:Nat->Addr):Prop where
 sy:a.cell? ⟨1,0,none⟩=some (Z 366 (J (some (b 12))))
 dp:a.cell? ⟨2,0,none⟩=some (Z 366 (J (some (b 13))))
 tw:a.cell? ⟨4,0,none⟩=some (Z 366 (J (some (b 14))))
 nm:a.cell? ⟨3,0,none⟩=some (Z 366 (J (some (b 5))))
 lg:a.cell? ⟨0,0,none⟩=some (Z 366 (J (some (b 4))))
 es:∃ev,a.cell? ⟨21,0,none⟩=some ev/\(ev=.nilIface\/∃te pe,ev=Z te pe)
 er:∃ev,a.cell? ⟨22,0,none⟩=some ev/\(ev=.nilIface\/∃te pe,ev=Z te pe)
theorem SY.cJ{w:Q}(a:SY w o)(b:Below w.heap.size w n):SY n o:=by
 let ⟨c,e,g⟩:=a.es
 let ⟨d,f,h⟩:=a.er
 exact⟨Aa b a.sy,Aa b a.dp,Aa b a.tw,Aa b a.nm,Aa b a.lg,⟨c,Aa b e,g⟩,⟨d,Aa b f,h⟩⟩
structure PB (a f:Q) (c:Nat) (d:Nat->Addr):Prop where
 s:SY a d
 b:Below a.heap.size a f
 e:a.heap.size<=c
theorem PB.ef{w:Q}{d:Nat}(a:PB n w d o)(c:EF d w p):PB n p d o:=
 ⟨a.s,⟨c.os.trans a.b.os,c.tape.trans a.b.tape,c.output.trans a.b.output,Ac5 a.b.size c.size,λg f=>(c.block g (Ac2 f a.b.size) (by have:=a.e;omega)).trans (a.b.block g f)⟩,a.e⟩
theorem PB.sy(a:PB n p w o):SY p o:=a.s.cJ a.b
theorem WF(e:EF w n p){a c:Nat}{d:X}(b:n.cell? ⟨a,c,none⟩=some d)(f:a≠w):p.cell? ⟨a,c,none⟩=some d:=by
 rw[Ac1 (e.block a (Adt b) f)];exact b
theorem EJ(a:EF w n p)(f:n.heap.size<=v):EF w n (p.setCell ⟨v,b,none⟩ m):=
 ⟨a.os,a.tape,a.output,by have:=a.size;simp;omega,λc e d=>by rw[Ac4 _ _ _ _ (show c≠v by omega)];exact a.block c e d⟩
def Ri(e:Q)(c d:Nat)(b:List (ByteArray×Nat)):Prop:=∀a (f:a<b.length),e.cell? ⟨c,d+a*2,none⟩=some (.string b[a].1)/\e.cell? ⟨c,d+a*2+1,none⟩=some (V C (b[a].2:Int))
structure PS (b:Q) (a d:Nat) (g:ByteArray) (e:Nat) (gv:X) (h:Nat):Prop where
 c0:∃o c,b.cell? ⟨a,0,none⟩=some (W (some ⟨d,o,none⟩) (BM g e).length c)/\(BM g e).length<=c/\c<=9223372036854775807/\d≠a/\Ri b d o (BM g e)
 c1:b.cell? ⟨a,1,none⟩=some gv
 c2:b.cell? ⟨a,2,none⟩=some (V C (h:Int))
 f:∀j,j<3->b.frozen? ⟨a,j,none⟩=false
theorem PS.lt(a:PS n w v s b m d):w<n.heap.size:=Adt a.c1
theorem PS.el(a:PS n w v s b m d):v<n.heap.size:=by
 let ⟨j,e,f,g,h,i,c⟩:=a.c0
 exact Adt (c 0 (Ae7.2 (RJ _ _))).1
theorem PS.dc{l:Nat}(e:PS n w v s l m d){b j:Nat}{u:X}(h:b≠w)(i:b≠v):PS (n.setCell ⟨b,j,none⟩ u) w v s l m d:=by
 have g:∀c a,c≠b->(n.setCell ⟨b,j,none⟩ u).cell? ⟨c,a,none⟩=n.cell? ⟨c,a,none⟩:=λc a k=>Acy _ _ _ _ (by simp);let ⟨x,c,y,o,p,r,t⟩:=e.c0
 refine⟨⟨x,c,?_,o,p,r,λa q=>?_⟩,?_,?_,λj k=>by rw[Ac3];exact e.f j k⟩
 ·grind
 ·rw[g _ _ (Aa7 i),g _ _ (Aa7 i)];exact t a q
 ·rw[g _ _ (Aa7 h)];exact e.c1
 ·rw[g _ _ (Aa7 h)];exact e.c2
theorem PS.below(c:PS n w v s b m d)(a:Below n.heap.size n p):PS p w v s b m d:=by
 let ⟨t,i,j,k,l,q,g⟩:=c.c0
 refine⟨⟨t,i,Aa a j,k,l,q,λh e=>⟨Aa a (g h e).1,Aa a (g h e).2⟩⟩,Aa a c.c1,Aa a c.c2,λr o=>?_⟩;rw[Adm (a.block w c.lt)];exact c.f r o
theorem PS.Bi(a:PS n w v s b m d){c:Nat}(e:BM s c=BM s b):PS n w v s c m d:=⟨by rw[e];exact a.c0,a.c1,a.c2,a.f⟩
theorem PS.turn(h:PS n w v s b m d){j c e:Nat}(p:(BM s e).length<=c)(q:c<=9223372036854775807)(k:v≠w)(t:Ri n v j (BM s e)):
 PS (n.setCell ⟨w,0,none⟩ (W (some ⟨v,j,none⟩) (BM s e).length c)) w v s e m d:=by
 have i:∀g a,(g≠w\/a≠0)->(n.setCell ⟨w,0,none⟩ (W (some ⟨v,j,none⟩) (BM s e).length c)).cell? ⟨g,a,none⟩=n.cell? ⟨g,a,none⟩:=λg a l=>Acy _ _ _ _ (by grind);obtain⟨y,x,o,-⟩:=h.c0;refine⟨⟨j,c,Ac6 _ _ _ o,p,q,k,λu r=>?_⟩,?_,?_,λa l=>by rw[Ac3];exact h.f a l⟩
 ·rw[i _ _ (Ads k),i _ _ (Ads k)];exact t u r
 ·rw[i _ _ (Ad7 (by omega))];exact h.c1
 ·rw[i _ _ (Ad7 (by omega))];exact h.c2
theorem PS.dC(e:PS n w v s b m d)(i:Nat):PS (n.setCell ⟨w,2,none⟩ (V C (i:Int))) w v s b m i:=by
 have h:∀c a,(c≠w\/a≠2)->(n.setCell ⟨w,2,none⟩ (V C i)).cell? ⟨c,a,none⟩=n.cell? ⟨c,a,none⟩:=λc a j=>Acy _ _ _ _ (by grind);let ⟨t,k,u,l,o,g,q⟩:=e.c0
 refine⟨⟨t,k,?_,l,o,g,λr p=>?_⟩,?_,Ac6 _ _ _ e.c2,λa j=>by rw[Ac3];exact e.f a j⟩
 ·grind
 ·rw[h _ _ (Ads g),h _ _ (Ads g)];exact q r p
 ·rw[h _ _ (Ad7 (by omega))];exact e.c1
theorem PS.fT{gv:X}(e:PS n w v s b gv d)(i:X):PS (n.setCell ⟨w,1,none⟩ i) w v s b i d:=by
 have h:∀c a,(c≠w\/a≠1)->(n.setCell ⟨w,1,none⟩ i).cell? ⟨c,a,none⟩=n.cell? ⟨c,a,none⟩:=λc a j=>Acy _ _ _ _ (by grind);let ⟨r,k,t,l,m,g,p⟩:=e.c0
 refine⟨⟨r,k,?_,l,m,g,λq o=>?_⟩,Ac6 _ _ _ e.c1,?_,λa j=>by rw[Ac3];exact e.f a j⟩
 ·grind
 ·rw[h _ _ (Ads g),h _ _ (Ads g)];exact p q o
 ·rw[h _ _ (Ad7 (by omega))];exact e.c2
theorem A1{a:Q}{p:Nat}(j:PS a w p s b m d)(u:b<=s.size):
 Adg Acs 57 #[J (some ⟨w,0,none⟩)] a λq x=>q=F (T #[S (Ag s b),V C (Am s b:Int)])/\Below a.heap.size a x:=by
 let ⟨K,y,r,E,G,H,k⟩:=j.c0
 obtain⟨L,e,-⟩:=Lx u;have t:0<(BM s b).length:=by rw[e];simp
 have l:=k 0 t;have i:(BM s b)[0]=(Ag s b,Am s b):=by simp[e]
 rw[i]at l;let ⟨g,h⟩:=l
 simp[Nat.zero_mul]at g h;clear k e i j;generalize (BM s b).length=n at*;have I:0<n:=by omega
 obtain⟨f,o⟩:∃f,f=a.alloc (.cells #[S ⟨#[]⟩,V C 0] 149):=⟨_,rfl⟩;have c:Below a.heap.size a f:=by rw[o];exact bA
 have D:=Aa c r;have z:=Aa c g;have B:=Aa c h;subst o;go_wp2;refine Adc (v:=T #[S (Ag s b),V C (Am s b:Int)]) (by simp[results,Tryz.results57,go_sem]) rfl ?_;exact⟨rfl,bA⟩
theorem Bv{h:Q}(a:PS h w v s b m d)(B:b<=s.size):
 Adg Acs 58 #[J (some ⟨w,0,none⟩)] h λg q=>g=F (R #[])/\EF w h q/\(Ag s b≠⟨#[]⟩->PS q w v s (AC s b) m d):=by
 have E:=hid a;let ⟨D,j,u,x,H,z,o⟩:=a.c0
 let ⟨e,l,i⟩:=Lx B
 have k:(BM s b).length=e.length+1:=by rw[l];simp
 have r:Hid (Ag s b≠⟨#[]⟩->PS (h.setCell ⟨w,0,none⟩ (W (some ⟨v,D+2,none⟩) e.length (j-1))) w v s (AC s b) m d):=by
  intro c;have g:=i c;rw[g];have K:(BM s (AC s b)).length=e.length:=by rw[g]
  refine a.turn (by omega) (by omega) z λp I=>?_;have y:p+1<(BM s b).length:=by omega
  have N:=o (p+1) y;grind
 have t:Hid (Ag s b≠⟨#[]⟩->0<e.length):=by
  intro c;rw[i c];exact Ae7.2 (RJ _ _)
 have G:=a.f 0 (by omega);rw[k]at u x;clear o l i a k;generalize e.length=n at*;have L:1<=n+1:=by omega
 have M:n+1<=j:=by omega
 go_enter Tryz.func58,Tryz.ntmps58;go_wp2
 ·refine bE ?_;exact⟨rfl,(EF.refl _ _).set _,λc=>by have:=t.out c;omega⟩
 ·refine bE ?_;exact⟨rfl,(EF.refl _ _).set _,r.out⟩
theorem Fy(b c:X)(a:Q):Sem.run Acs (Instr.field 149 (T #[b,c]) 0) a=.ok b a:=by kernel_rfl
theorem Q9(c b:X)(a:Q):Sem.run Acs (Instr.field 149 (T #[c,b]) 1) a=.ok b a:=by kernel_rfl
def Ll(b:Nat->Addr)(c a:Nat):X:=Z 107 (T #[Z 366 (J (some (b c))),V C 0,V C (a:Int)])
theorem QZ(b:Ad5)(d:X)(a:Int)(c:Q):Adg Acs 25 #[Z b d,V C a] c λe f=>e=F (Z 107 (T #[Z b d,V C 0,V C a]))/\f=c:=by
 go_enter Tryz.func25,Tryz.ntmps25;go_wp2;go_ret;simp
theorem CU(c:Nat->Addr)(e:Nat)(g:PS n w v s b m d)(h:b<=s.size):
 Adg Acs 91 #[J (some ⟨w,0,none⟩),Z 366 (J (some (c e)))] n λa i=>a=F (Ll c e (Am s b))/\Below n.heap.size n i:=by
 have f:=hid (A1 g h);have j:=Q9;unfold Ll;go_enter Tryz.func91,Tryz.ntmps91;go_wp2_with (first
  |(refine f.out.mono ?_;rintro a l ⟨rfl,k⟩)
  |(refine(QZ _ _ _ _).mono ?_;rintro a o ⟨rfl,rfl⟩))
 go_ret;simp_all
def NZ{e:Type}(d:Nat->Pr e):Prop:=∀c a b,d c=P (a,b)->a≠0
def Skp{d:Type}(c:ByteArray)(b:Nat->Pr d):Prop:=∀a,b (Bi c a)=b a
theorem Af{c:Pr wd}{f:wd->Nat->Pr ve}(a:pb c f=P (w,v)):c=P (w,v)\/∃d b,c=.ok (d,b)/\f d b=P (w,v):=by
 match c,a with
 |.ok (d,b),a=>exact Ad7 ⟨d,b,rfl,a⟩
 |P e,a=>exact Ads (by cases a;rfl)
theorem A5(b c:ByteArray):NZ (Al b c):=by
 intro f e d a;unfold Al at a;grind
theorem E9(b:ByteArray):NZ (AV b):=by
 intro e d c a;unfold AV at a;grind
theorem FSa(c:ByteArray)(b:Nat):NZ (Bt c b):=by
 intro f e d a;unfold Bt at a;grind
theorem RI(b:ByteArray):NZ (BB b):=by
 intro e d c a;unfold BB at a;grind
theorem Lg(f:ByteArray):∀d g,NZ (AU f d g)
 |0,_=>λi c b a=>by cases a;decide
 |d+1,g=>λi c b a=>by
  rw[AU]at a;split at a
  ·cases a
  ·rcases Af a with h|⟨k,j,h,e⟩
   ·exact E9 f i c b h
   ·split at e
    ·cases e;decide
    ·exact Lg f d _ j c b e
theorem FY(a:ByteArray):NZ (Be a):=by
 intro g c b e;rcases Af e with d|⟨i,h,d,f⟩
 ·exact A5 a _ g c b d
 ·exact Lg a _ _ h c b f
theorem OL(a b:ByteArray):Skp a (Al a b):=by intro c;unfold Al;rw[Di,DZ,DI]
theorem Od(a:ByteArray):Skp a (BB a):=by intro b;unfold BB;rw[Di,DZ,DI]
section
variable {s:ByteArray} {E:Nat->Pr Ex} (hZ:NZ E)
include hZ
theorem RC:∀d e,NZ (BS s E d e)
 |0,_=>λg c b a=>by cases a;decide
 |d+1,e=>λg c b a=>by
  rw[BS]at a;split at a
  ·cases a
  ·rcases Af a with f|⟨j,i,f,h⟩
   ·exact hZ g c b f
   ·exact RC d _ i c b h
theorem Le:∀d e,NZ (A2 s E d e)
 |0,_=>λg c b a=>by cases a;decide
 |d+1,e=>λg c b a=>by
  rw[A2]at a;split at a
  ·cases a
  ·split at a
   ·cases a;decide
   ·rcases Af a with f|⟨j,i,f,h⟩
    ·exact hZ g c b f
    ·exact Le d _ i c b h
theorem NJ:∀e g f,NZ (Ba s E e g f)
 |0,_,_=>λh d c a=>by cases a;decide
 |e+1,g,f=>λh d c a=>by
  rcases Af a with b|⟨m,i,b,a⟩
  ·exact A5 s _ h d c b
  rcases Af a with b|⟨n,j,b,a⟩
  ·exact E9 s i d c b
  split at a
  ·cases a;decide
  rcases Af a with b|⟨o,k,b,a⟩
  ·exact hZ j d c b
  rcases Af a with b|⟨p,l,b,a⟩
  ·exact A5 s _ k d c b
  split at a
  ·cases a
  ·exact NJ e _ _ l d c a
theorem U5:∀e f,NZ (C4 s E e f)
 |0,_=>λg d c a=>by rw[C4]at a;cases a;decide
 |e+1,f=>λg d c a=>by
  rw[C4]at a;rcases Af a with b|⟨m,h,b,a⟩
  ·exact A5 s _ g d c b
  rcases Af a with b|⟨n,i,b,a⟩
  ·exact FSa s _ h d c b
  split at a
  ·cases a;decide
  rcases Af a with b|⟨o,j,b,a⟩
  ·exact FY s i d c b
  rcases Af a with b|⟨p,k,b,a⟩
  ·exact hZ j d c b
  rcases Af a with b|⟨q,l,b,a⟩
  ·exact A5 s _ k d c b
  split at a
  ·cases a
  ·exact U5 e _ l d c a
theorem Rj(i:Bool):NZ (BE s E i):=by
 intro e d c b;rcases Af b with a|⟨k,f,a,b⟩
 ·exact A5 s _ e d c a
 rcases Af b with a|⟨l,g,a,b⟩
 ·exact NJ hZ _ _ _ f d c a
 rcases Af b with a|⟨m,h,a,b⟩
 ·exact A5 s _ g d c a
 rcases Af b with a|⟨n,j,a,b⟩
 ·exact hZ h d c a
 cases b
theorem Yy:NZ (E5 s E):=by
 intro e d c a;rcases Af a with b|⟨h,f,b,a⟩
 ·exact FSa s _ e d c b
 rcases Af a with b|⟨i,g,b,a⟩
 ·exact Le hZ _ _ f d c b
 cases a
theorem WO:NZ (Da s E):=by
 intro e d c a;rcases Af a with b|⟨h,f,b,a⟩
 ·exact hZ e d c b
 rcases Af a with b|⟨i,g,b,a⟩
 ·exact U5 hZ _ _ f d c b
 cases a
theorem XG:NZ (Dc s E):=by
 intro e d c b;rcases Af b with a|⟨i,f,a,b⟩
 ·exact hZ e d c a
 rcases Af b with a|⟨j,g,a,b⟩
 ·exact hZ f d c a
 rcases Af b with a|⟨k,h,a,b⟩
 ·exact RC hZ _ _ g d c a
 cases b
theorem QW:NZ (AY s E):=by
 intro f c b a;unfold AY at a;split at a
 ·rcases Af a with d|⟨h,e,d,a⟩
  ·exact hZ _ c b d
  rcases Af a with d|⟨i,g,d,a⟩
  ·exact hZ e c b d
  cases a
 ·split at a
  ·exact Rj hZ _ _ c b a
  ·split at a
   ·exact Rj hZ _ _ c b a
   ·split at a
    ·exact Yy hZ _ c b a
    ·split at a
     ·exact WO hZ _ c b a
     ·exact XG hZ _ c b a
end
theorem Jr(s:ByteArray):∀e,NZ (pE s e)
 |0=>λf c b a=>by
  rw[pE]at a;split at a
  ·cases a;decide
  ·exact RI s f c b a
 |e+1=>λf c b a=>by
  rw[pE]at a;split at a
  ·rcases Af a with d|⟨i,g,d,a⟩
   ·exact QW (Jr s e) _ c b d
   rcases Af a with d|⟨j,h,d,a⟩
   ·exact A5 s _ g c b d
   cases a
  ·exact RI s f c b a
theorem Rz(a:ByteArray):∀c,Skp a (pE a c)
 |0=>λb=>by rw[pE,pE,Di,DI,Od a b]
 |c+1=>λb=>by rw[pE,pE,Di,DZ,Od a b]
section
variable {s:ByteArray} {E:Nat->Pr Ex} (hK:Skp s E)
include hK
end
theorem SF:∀a d c b,0<a->Ba s nw a d c (Bi s b)=Ba s nw a d c b
 |a+1,d,c,b,_=>by rw[Ba,Ba,OL s _ b]
theorem Wx:∀a c b,0<a->C4 s nw a c (Bi s b)=C4 s nw a c b
 |a+1,c,b,_=>by rw[C4,C4,OL s _ b]
def Pm(h:Q)(e:Nat)(g:X)(c:List ByteArray):Prop:=∃a d f,g=W (some ⟨a,d,none⟩) c.length f/\a≠e/\∀b (i:b<c.length),h.cell? ⟨a,d+b,none⟩=some (.string c[b])
def BA(a:ByteArray):List ByteArray->Nat->Pr Unit
 |[],p=>.ok ((),p)
 |t::r,p=>pb (Al a t p) λ_ b=>BA a r b
def Dm(a:Nat):Nat:=if a=2 then 12 else if a=3 then 13 else if a=5 then 14 else if a=4 then 5 else 4
def Mu(h:Pr Unit)(e:Nat)(i:Q)(g:Nat->Addr)(f:Nat->Q->Prop)(b:Ending)(d:Q):Prop:=EF e i d/\match h with
 |.ok (_,q)=>b=F .nilIface/\f q d
 |P (c,a)=>b=F (Ll g (Dm c) a)
theorem Jb(a:Ag s w=wn):Al s wn w=.ok ((),AC s w):=by unfold Al;rw[if_pos a]
theorem S4(a:¬Ag s w=wn):Al s wn w=P (2,Am s w):=by unfold Al;rw[if_neg a]
structure Yd (e g:Nat) (c:ByteArray) (h:X) (i:Nat) (d:List ByteArray) (f:Pr Unit) (j wr:Q) (a b:Nat):Prop where
 le:a<=d.length
 hq:b<=c.size
 ef:EF e j wr
 ps:(∀t∈d.take a,t≠⟨#[]⟩)->PS wr e g c b h i
 eq:f=BA c (d.drop a) b
theorem Jc(I:PB n p w o)(h:PS p w v s b m d)(U:b<=s.size)(ai:Pm p w q y)(az:y.length<=10)(ak:∀u (al:u+1<y.length),y[u]≠⟨#[]⟩):
 Adg Acs 55 #[J (some ⟨w,0,none⟩),q] p λf z=>Mu (BA s y b) w p o (λe z=>(∀l∈y,l≠⟨#[]⟩)->PS z w v s e m d) f z:=by
 obtain⟨au,a0,ar,rfl,am,M⟩:=ai;have ac:=hid M;have ab:=hid I;have aa:Hid (Yd w v s m d y (BA s y b) p p 0 b):=⟨Ac0 _,U,EF.refl _ _,λ_=>h,rfl⟩;clear M I h U;generalize BA s y b=R at*;go_enter Tryz.func55,Tryz.ntmps55;go_wp2;go_loopw [9] (λx wr=>∃(a e:Nat),a<=y.length/\x=V C (a:Int)/\Hid (Yd w v s m d y R p wr a e)) (λx _=>y.length-(intOf x).toNat)
 case atStart=>grind
 case round=>
  clear aa;obtain⟨a,e,ay,rfl,c⟩:=hrel;rename Q=>wr
  have j:=c.out.hq;by_cases O:a<y.length
  ·have av:(0:Int)<=(a:Int):=by omega
   have aw:(a:Int)<(y.length:Int):=by omega
   have D:Hid (PS wr w v s e m d):=by
    refine c.out.ps λl g=>?_;obtain⟨u,al,rfl⟩:=Aa5 g;grind
   have ah:=WF c.out.ef (ac.out a O) am;have t:a+1<y.length->y[a]≠⟨#[]⟩:=λh=>ak a h;have r:Hid (R=pb (Al s y[a] e) λ_ an=>BA s (y.drop (a+1)) an):=by
    show _=_;rw[c.out.eq,Adv O,BA]
   have H:Hid (y.take (a+1)=y.take a++[y[a]]):=by show _=_;simp
   obtain⟨tk,Y⟩:∃l,y[a]=l:=⟨_,rfl⟩;rw[Y]at ah r H t;have aq:=hid t;clear Y t;have ae:=hid (A1 D.out j);have ag:=hid (ab.out.ef c.out.ef).sy;have ap:=Fy;go_wp2_with (first
    |(go_at_call 57;refine ae.out.mono ?_;rintro f a2 ⟨rfl,i⟩;have G:=hid (D.out.below i);have a1:=(ag.out.cJ i).sy;have B:=hid (EF.cI (E:=w) i);clear i)
    |(go_at_call 91;refine(CU o 12 G.out j).mono ?_;rintro f ao ⟨rfl,aj⟩)
    |(go_at_call 58;refine(Bv G.out j).mono ?_;rintro f ao ⟨rfl,K,L⟩;have ad:=hid K;have af:=hid L;clear K L))
   ·rename_i k
    go_ret;refine⟨(c.out.ef.trans B.out).trans (EF.cI aj),?_⟩;rw[r.out,S4 (λf=>by rw[f]at k;simp at k),AG];rfl
   ·rename_i k
    have N:=Bl (by simpa using k);refine⟨⟨a+1,AC s e,by omega,by go_num,?_⟩,by simp[intOf];omega⟩;refine⟨by omega,AK j,(c.out.ef.trans B.out).trans ad.out,λg=>?_,?_⟩
    ·exact af.out (by rw[N];exact g tk (by rw[H.out];simp))
    ·rw[r.out,Jb N,Ai]
  ·obtain rfl:a=y.length:=by omega
   have ax:¬(y.length:Int)<(y.length:Int):=by omega
   go_wp2;go_ret;refine⟨c.out.ef,?_⟩;rw[c.out.eq,Ab9];exact⟨rfl,λg=>c.out.ps (by rw[Ad9];exact g)⟩
structure XN (b:Q) (a:Nat) (h i:Int) (k:ByteArray) (l:Int) (g e m d:X):Prop where
 c0:b.cell? ⟨a,0,none⟩=some (V C h)
 c1:b.cell? ⟨a,1,none⟩=some (V C i)
 c2:b.cell? ⟨a,2,none⟩=some (S k)
 c3:b.cell? ⟨a,3,none⟩=some (V C l)
 c4:b.cell? ⟨a,4,none⟩=some (g)
 c5:b.cell? ⟨a,5,none⟩=some (e)
 c6:b.cell? ⟨a,6,none⟩=some (m)
 c7:b.cell? ⟨a,7,none⟩=some (d)
 f:∀j,j<8->b.frozen? ⟨a,j,none⟩=false
 ty:∃c,b.heap[a]?=some (.cells c 136 (0,0))
theorem LI(d:∃a,n.heap[w]?=some (.cells a 136 (0,0)))(b:Nat)(c:X):∃a,(n.setCell ⟨w,b,none⟩ c).heap[w]?=some (.cells a 136 (0,0)):=by
 let ⟨a,e⟩:=d
 exact⟨_,heap_setCell_same n w b a _ c e⟩
theorem XN.lt{B:Nat}(a:XN n B we w7 s nk m q j f):B<n.heap.size:=Adt a.c0
theorem XN.cK{g:X}(b:XN n w we w7 s nk m q j g)(d:p.heap[w]?=n.heap[w]?):XN p w we w7 s nk m q j g:=by
 have c:=λe=>Ac1 (a:=⟨w,e,none⟩) d;refine⟨?_,?_,?_,?_,?_,?_,?_,?_,λe h=>?_,by rw[d];exact b.ty⟩
 ·rw[c];exact b.c0
 ·rw[c];exact b.c1
 ·rw[c];exact b.c2
 ·rw[c];exact b.c3
 ·rw[c];exact b.c4
 ·rw[c];exact b.c5
 ·rw[c];exact b.c6
 ·rw[c];exact b.c7
 ·rw[Adm d];exact b.f e h
theorem XN.cJ{w:Q}{a:Nat}{nm:ByteArray}{pl:Int}(b:XN w a we w7 nm pl m q j f)(c:Below w.heap.size w n):XN n a we w7 nm pl m q j f:=b.cK (c.block a b.lt)
theorem XN.ef{w:Q}{a:Nat}(b:XN w a we w7 s nk m q j f)(c:EF v w n)(d:a≠v):XN n a we w7 s nk m q j f:=b.cK (c.block a b.lt d)
theorem XN.dA{g:X}(a:XN n w we w7 s nk m q j g)(e:Int):XN (n.setCell ⟨w,0,none⟩ (V C e)) w e w7 s nk m q j g:=by
 have b:∀c,c≠0->(n.setCell ⟨w,0,none⟩ (V C e)).cell? ⟨w,c,none⟩=n.cell? ⟨w,c,none⟩:=λc d=>Acy _ _ _ _ (Au (Aa7 d));refine⟨Ac6 _ _ _ a.c0,?_,?_,?_,?_,?_,?_,?_,λc d=>by rw[Ac3];exact a.f c d,LI a.ty _ _⟩
 ·rw[b _ (by omega)];exact a.c1
 ·rw[b _ (by omega)];exact a.c2
 ·rw[b _ (by omega)];exact a.c3
 ·rw[b _ (by omega)];exact a.c4
 ·rw[b _ (by omega)];exact a.c5
 ·rw[b _ (by omega)];exact a.c6
 ·rw[b _ (by omega)];exact a.c7
theorem XN.fy{g:X}(a:XN n w we w7 s nk m q j g)(e:Int):XN (n.setCell ⟨w,1,none⟩ (V C e)) w we e s nk m q j g:=by
 have b:∀c,c≠1->(n.setCell ⟨w,1,none⟩ (V C e)).cell? ⟨w,c,none⟩=n.cell? ⟨w,c,none⟩:=λc d=>Acy _ _ _ _ (Au (Aa7 d));refine⟨?_,Ac6 _ _ _ a.c1,?_,?_,?_,?_,?_,?_,λc d=>by rw[Ac3];exact a.f c d,LI a.ty _ _⟩
 ·rw[b _ (by omega)];exact a.c0
 ·rw[b _ (by omega)];exact a.c2
 ·rw[b _ (by omega)];exact a.c3
 ·rw[b _ (by omega)];exact a.c4
 ·rw[b _ (by omega)];exact a.c5
 ·rw[b _ (by omega)];exact a.c6
 ·rw[b _ (by omega)];exact a.c7
theorem XN.ei{g:X}(a:XN n w we w7 s nk m q j g)(e:X):XN (n.setCell ⟨w,4,none⟩ e) w we w7 s nk e q j g:=by
 have b:∀c,c≠4->(n.setCell ⟨w,4,none⟩ e).cell? ⟨w,c,none⟩=n.cell? ⟨w,c,none⟩:=λc d=>Acy _ _ _ _ (Au (Aa7 d));refine⟨?_,?_,?_,?_,Ac6 _ _ _ a.c4,?_,?_,?_,λc d=>by rw[Ac3];exact a.f c d,LI a.ty _ _⟩
 ·rw[b _ (by omega)];exact a.c0
 ·rw[b _ (by omega)];exact a.c1
 ·rw[b _ (by omega)];exact a.c2
 ·rw[b _ (by omega)];exact a.c3
 ·rw[b _ (by omega)];exact a.c5
 ·rw[b _ (by omega)];exact a.c6
 ·rw[b _ (by omega)];exact a.c7
theorem XN.eU{g:X}(a:XN n w we w7 s nk m q j g)(e:X):XN (n.setCell ⟨w,5,none⟩ e) w we w7 s nk m e j g:=by
 have b:∀c,c≠5->(n.setCell ⟨w,5,none⟩ e).cell? ⟨w,c,none⟩=n.cell? ⟨w,c,none⟩:=λc d=>Acy _ _ _ _ (Au (Aa7 d));refine⟨?_,?_,?_,?_,?_,Ac6 _ _ _ a.c5,?_,?_,λc d=>by rw[Ac3];exact a.f c d,LI a.ty _ _⟩
 ·rw[b _ (by omega)];exact a.c0
 ·rw[b _ (by omega)];exact a.c1
 ·rw[b _ (by omega)];exact a.c2
 ·rw[b _ (by omega)];exact a.c3
 ·rw[b _ (by omega)];exact a.c4
 ·rw[b _ (by omega)];exact a.c6
 ·rw[b _ (by omega)];exact a.c7
theorem XN.fM{g:X}(a:XN n w we w7 s nk m q j g)(e:X):XN (n.setCell ⟨w,6,none⟩ e) w we w7 s nk m q e g:=by
 have b:∀c,c≠6->(n.setCell ⟨w,6,none⟩ e).cell? ⟨w,c,none⟩=n.cell? ⟨w,c,none⟩:=λc d=>Acy _ _ _ _ (Au (Aa7 d));refine⟨?_,?_,?_,?_,?_,?_,Ac6 _ _ _ a.c6,?_,λc d=>by rw[Ac3];exact a.f c d,LI a.ty _ _⟩
 ·rw[b _ (by omega)];exact a.c0
 ·rw[b _ (by omega)];exact a.c1
 ·rw[b _ (by omega)];exact a.c2
 ·rw[b _ (by omega)];exact a.c3
 ·rw[b _ (by omega)];exact a.c4
 ·rw[b _ (by omega)];exact a.c5
 ·rw[b _ (by omega)];exact a.c7
theorem XN.fZ{g:X}(a:XN n w we w7 s nk m q j g)(e:X):XN (n.setCell ⟨w,7,none⟩ e) w we w7 s nk m q j e:=by
 have b:∀c,c≠7->(n.setCell ⟨w,7,none⟩ e).cell? ⟨w,c,none⟩=n.cell? ⟨w,c,none⟩:=λc d=>Acy _ _ _ _ (Au (Aa7 d));refine⟨?_,?_,?_,?_,?_,?_,?_,Ac6 _ _ _ a.c7,λc d=>by rw[Ac3];exact a.f c d,LI a.ty _ _⟩
 ·rw[b _ (by omega)];exact a.c0
 ·rw[b _ (by omega)];exact a.c1
 ·rw[b _ (by omega)];exact a.c2
 ·rw[b _ (by omega)];exact a.c3
 ·rw[b _ (by omega)];exact a.c4
 ·rw[b _ (by omega)];exact a.c5
 ·rw[b _ (by omega)];exact a.c6
def Kids{b c:Type}(a:Nat->Nat->b->c->Prop):Nat->Nat->List (b×Nat×Nat)->List c->Prop
 |lo,hi,[],[]=>lo<=hi
 |lo,hi,(v,x,y)::l,e::es=>lo<=x/\x<=y/\a x y v e/\Kids a y hi l es
 |_,_,_,_=>False
theorem Kids.le{f g:Type}{i:Nat->Nat->f->g->Prop}:∀{d b:Nat} {c:List (f×Nat×Nat)} {a:List g},Kids i d b c a->d<=b
 |_,_,[],[],h=>h
 |_,_,(v,x,y)::c,e::a,h=>by
  obtain⟨k,l,-,j⟩:=h;have:=Kids.le j;omega
 |_,_,[],_::_,h=>h.elim
 |_,_,_::_,[],h=>h.elim
theorem Kids.len{c d:Type}{f:Nat->Nat->c->d->Prop}:∀{i g:Nat} {b:List (c×Nat×Nat)} {a:List d},Kids f i g b a->b.length=a.length
 |_,_,[],[],_=>rfl
 |_,_,(v,x,y)::b,e::a,h=>by simp[Kids.len h.2.2.2]
 |_,_,[],_::_,h=>h.elim
 |_,_,_::_,[],h=>h.elim
theorem Kids.mono{o p:Type}{k l:Nat->Nat->o->p->Prop}:∀{j i:Nat} {e:List (o×Nat×Nat)} {g:List p},Kids k j i e g->(∀a b c d,(c,a,b)∈e->j<=a->b<=i->k a b c d->l a b c d)->Kids l j i e g
 |_,_,[],[],h,_=>h
 |_,_,(c,a,b)::e,d::g,h,f=>by
  let ⟨m,r,s,n⟩:=h
  exact⟨m,r,f a b c d Aew m (Kids.le n) s,Kids.mono n λw x v q t y u=>f w x v q (Aei _ t) (by omega) u⟩
 |_,_,[],_::_,h,_=>h.elim
 |_,_,_::_,[],h,_=>h.elim
theorem Kids.up{g i:Type}{a:Nat->Nat->g->i->Prop}:∀{f c d:Nat} {e:List (g×Nat×Nat)} {b:List i},Kids a f c e b->c<=d->Kids a f d e b
 |_,_,_,[],[],h,hh=>Ac5 h hh
 |_,_,_,(_,_,_)::_,_::_,h,hh=>⟨h.1,h.2.1,h.2.2.1,Kids.up h.2.2.2 hh⟩
 |_,_,_,[],_::_,h,_=>h.elim
 |_,_,_,_::_,[],h,_=>h.elim
theorem Kids.snoc{d e:Type}{c:Nat->Nat->d->e->Prop}:∀{l i:Nat} {k:List (d×Nat×Nat)} {g:List e} {a b j:Nat} {m:d} {f:e},Kids c l i k g->i<=a->a<=b->b<=j->c a b m f->Kids c l j (k++[(m,a,b)]) (g++[f])
 |_,_,[],[],_,_,_,_,_,h,h1,h2,h3,h4=>⟨Ac5 h h1,h2,h4,h3⟩
 |_,_,(_,_,_)::_,_::_,_,_,_,_,_,h,h1,h2,h3,h4=>⟨h.1,h.2.1,h.2.2.1,Kids.snoc h.2.2.2 h1 h2 h3 h4⟩
 |_,_,[],_::_,_,_,_,_,_,h,_,_,_,_=>h.elim
 |_,_,_::_,[],_,_,_,_,_,h,_,_,_,_=>h.elim
def xK:Ex->Int
 |.num _=>0
 |.name g _ _=>if g=true then 2 else 1
 |.call _=>3
 |.lets r _ _ _=>if r=true then 5 else 4
 |.Fs _ _=>6
 |.case _ _=>7
 |.op _ _ _=>8
def xN:Ex->Int
 |.num n=>n
 |.Fs b _=>(b:Int)
 |.op a _ _=>9+(a:Int)
 |_=>0
def xNm:Ex->ByteArray
 |.name _ t _=>t
 |_=>⟨#[]⟩
def xPl:Ex->Int
 |.name _ _ a=>(a:Int)
 |_=>0
def GM:Ex->Av
 |.lets _ ns _ _=>ns
 |_=>[]
def Bd:Ex->List Ex
 |.call ps=>ps
 |.lets _ _ es b=>es++[b]
 |.Fs _ fs=>fs
 |.case e _=>[e]
 |.op _ l r=>[l,r]
 |_=>[]
def DJ:Ex->List (Nat×Av×Ex)
 |.case _ brs=>brs
 |_=>[]
def Kh(g:Nat->Nat->X->Ex->Prop)(h:Q)(e f:Nat)(c:X×X×X)(d:Nat×Av×Ex):Prop:=
 Bc h e c.1 c.2.1 d.2.1/\∃b,e<=b/\b<=f/\(∀a,c.1.ownBlock=some a->a<b)/\(∀a,c.2.1.ownBlock=some a->a<b)/\g b f c.2.2 d.2.2
def Ci(c:List ((X×X×X)×Nat×Nat))(b:List (Nat×Av×Ex)):List X:=
 (List.zip c b).flatMap λa=>[V C (a.2.1:Int),a.1.1.1,a.1.1.2.1,a.1.1.2.2]
structure Yr (d:Nat->Nat->X->Ex->Prop) (b:Q) (a l:Nat) (bd:Av) (h:List Ex) (c:List (Nat×Av×Ex)) (k j m i:X) (f:List (X×Nat×Nat)) (e:List ((X×X×X)×Nat×Nat)) (g:Nat):Prop where
 nr:Bc b (a+1) k j bd
 pr:b.ownsRow (a+1) 86 1 m h.length (f.map (·.1))
 pk:Kids d (a+1) g f h
 ar:b.ownsRow (a+1) 139 4 i c.length (Ci e c)
 ak:Kids (Kh d b) g l e c
def RX:Nat->Q->Nat->Nat->X->Ex->Prop
 |0,_,_,_,_,_=>False
 |d+1,w,a,b,v,e=>∃c h g i f l k m,v=J (some ⟨c,0,none⟩)/\a<=c/\b<=w.heap.size/\XN w c (xK e) (xN e) (xNm e) (xPl e) h g i f/\
  (∀n∈[h,g,i,f],∀j,n.ownBlock=some j->j<b)/\Yr (RX d w) w c b (GM e) (Bd e) (DJ e) h g i f l k m
def HS(b c:Nat)(d e:Q):Prop:=∀a,b<=a->a<c->e.heap[a]?=d.heap[a]?
theorem HS.sub(a:HS w v n p)(g:w<=b)(h:d<=v):HS b d n p:=λc e f=>a c (by omega) (by omega)
theorem HB(e:n.ownsRow w M d m x wb)(h:HS v b n p)(i:v<=w)(g:∀c,m.ownBlock=some c->c<b):p.ownsRow w M d m x wb:=
 Az e λa f=>h a (by have:=(e.lt a (Ah.1 f)).1;omega) (g a (Ah.1 f))
theorem Bc.same{g:Q}{d:Av}(c:Bc n w m q d)(f:HS v b n g)(e:v<=w)(h:∀a,m.ownBlock=some a->a<b)(i:∀a,q.ownBlock=some a->a<b):Bc g w m q d:=
 ⟨HB c.l f e h,HB c.p f e i,c.ne⟩
theorem Kh.same{f g:Nat->Nat->X->Ex->Prop}{i j:Q}{e b:Nat}{d:X×X×X}{c:Nat×Av×Ex}(l:Kh f i e b d c)(t:HS e b i j)(r:∀a,e<=a->f a b d.2.2 c.2.2->g a b d.2.2 c.2.2):Kh g j e b d c:=by
 let ⟨m,a,h,n,o,p,q⟩:=l
 exact⟨m.same t .refl (λk s=>by grind) (λk s=>by grind),a,h,n,o,p,r a h q⟩
theorem RX.lt(a:RX w n v b m N):v<b/\b<=n.heap.size:=by
 match w,a with
 |w+1,a=>
  obtain⟨B,f,e,r,d,p,o,q,rfl,g,h,i,j,c⟩:=a;have k:=Kids.le c.pk;have l:=Kids.le c.ak;omega
theorem RX.same:∀{i:Nat} {l g:Q} {f b:Nat} {e:X} {c:Ex},RX i l f b e c->HS f b l g->b<=g.heap.size->RX i g f b e c
 |0,_,_,_,_,_,_,h,_,_=>h
 |i+1,l,g,f,b,e,c,h,hs,hz=>by
  obtain⟨m,p,o,r,n,w,v,x,rfl,q,B,s,d,a⟩:=h;have E:=Kids.le a.pk;have G:=Kids.le a.ak;refine⟨m,p,o,r,n,w,v,x,rfl,q,hz,s.cK (hs m q (by omega)),d,?_,?_,?_,?_,?_⟩
  ·exact a.nr.same hs (by omega) (d p (by simp)) (d o (by simp))
  ·exact HB a.pr hs (by omega) (d r (by simp))
  ·exact Kids.mono a.pk λy z e c _ u k j=>RX.same j (hs.sub (by omega) (by omega)) (by omega)
  ·exact HB a.ar hs (by omega) (d n (by simp))
  ·exact Kids.mono a.ak λy z e c _ u k j=>Kh.same j (hs.sub (by omega) k) λH D t=>RX.same t (hs.sub (by omega) k) (by omega)
theorem RX.wide:∀{g:Nat} {c:Q} {d e f b:Nat} {j:X} {i:Ex},RX g c d f j i->e<=d->f<=b->b<=c.heap.size->RX g c e b j i
 |0,_,_,_,_,_,_,_,h,_,_,_=>h
 |g+1,c,d,e,f,b,j,i,h,ha,hb,hz=>by
  obtain⟨k,n,m,s,l,q,p,r,rfl,u,v,o,w,a⟩:=h;exact⟨k,n,m,s,l,q,p,r,rfl,by omega,hz,o,λz y t x=>by grind,a.nr,a.pr,a.pk,a.ar,a.ak.up hb⟩
end Go.Proofs.YtnghccjoicmabaaGreatDoor
