import Derived.Test.YtcacpmkdfnmhaaaGreatDoorJwJ
set_option linter.unusedSimpArgs false
set_option maxRecDepth 100000
set_option maxHeartbeats 8000000
open And renaming intro->Aq4
open Go renaming Calls->Av,TypeId->AX,Value->X,World->Q,undef->Aq1
open Go.Ending renaming returned->F
open Go.IntKind renaming i64->C
open Go.Proofs.Tryz renaming prog->Aa
open Go.Value renaming agg->T,bool->A,int->V,ownBlock->Bi,pointer->J,slice->W,tuple->R
open List renaming length->L,range->AU
open Option renaming none->N,some->I
open Or renaming inl->Ba,inr->Aq5
namespace Go.Proofs.YtcacpmkdfnmhaaaGreatDoor
open Go.RowKit Go.Sort
variable{c:Bq}{wf:List Int}{w s m j D:Nat}{o wm:Int}{n p:World}{G:Option Addr}{n0:Nat->Int×Option Addr×Nat×Nat}{yh:Array Value}{wx:Program}{x4:Code}{w4:Exit->Act->World->Prop}{wn:Act}{y nk:List Nat}{wj:TypeId}{wi:List Value}{wp:List (List Value)}{b i r M wu:Value}{wh:List Bx}{nc:List (Cg×Value)}{w8:List (Gk×Value)}{yr:Bq->Prop}
structure Wf (d:Nat) (a:Bq):Prop where
 ne:a.stack≠[]
 s:∀r∈a.stack,0<=r/\r<(L a.cells:Int)
 c:∀x∈a.cells,((x.kind=5\/x.kind=2)->0<=x.left/\x.left<(L a.cells:Int))/\(x.kind=4->0<=x.n/\x.n<(d:Int))/\0<=x.kind/\x.kind<=5
 b:0<=a.fr.base/\a.fr.base<(L a.stack:Int)
 sl:(L a.stack)+(a.sm-a.su).toNat<=1000000000
 cl:(L a.cells)<=1000000000
 m:EV a
def ER(a:Bq):Cg:=(a.cells[(a.stack.getLast?.getD 0).toNat]?).getD ⟨0,0,0,0,[]⟩
def IL(a:Bq):Int:=(L a.stack:Int)-1-a.fr.base
def FJ(b c:Int->Bq->Bq):Nat->Bq->Bq
 |0,st=>BR st
 |f+1,st=>
  if DC st then
   let a:=BR st
   if (ER st).kind=5 then FJ b c f (G7 (ER st).left a)
   else if (ER st).kind=2 then FJ b c f (Ff (ER st).left a)
   else if (ER st).kind=0 then CJ 7 a
   else if (ER st).kind=4 then b (ER st).n a
   else if 0<IL st then CJ 5 a
   else c (st.stack.getLast?.getD 0) a
  else BR st
theorem D3(a:DC c=true):BR c={c with su:=c.su+1}:=by unfold BR;rw[if_pos a]
theorem Aeu(c d:Int->Bq->Bq){a:Bq}(e:DC a=false):∀b,FJ c d b a=BR a
 |0=>rfl
 |b+1=>by rw[FJ,e];rfl
theorem Aab(b c:Int->Bq->Bq){a:Bq}(d:DC a=true):FJ b c (a.sm-a.su).toNat a=(if (ER a).kind=5 then FJ b c (a.sm-(a.su+1)).toNat (G7 (ER a).left {a with su:=a.su+1})
 else if (ER a).kind=2 then FJ b c (a.sm-(a.su+1)).toNat (Ff (ER a).left {a with su:=a.su+1})
 else if (ER a).kind=0 then CJ 7 {a with su:=a.su+1}
 else if (ER a).kind=4 then b (ER a).n {a with su:=a.su+1}
 else if 0<IL a then CJ 5 {a with su:=a.su+1}
 else c (a.stack.getLast?.getD 0) {a with su:=a.su+1}):=by
 have h:1<=a.sm-a.su:=by simpa[DC]using d
 obtain⟨e,f⟩:∃e,(a.sm-a.su).toNat=e+1:=⟨(a.sm-a.su).toNat-1,O1⟩;have g:(a.sm-(a.su+1)).toNat=e:=O1;rw[f,g,FJ,if_pos d,D3 d]
theorem Y4(a:c.stack=wf++[(w:Int)])(b:w<L c.cells):ER c=c.cells[w]:=by
 unfold ER;rw[a];simp[b]
theorem Wf.step(h:Wf w c)(j:1<=c.sm-c.su):Wf w {c with su:=c.su+1}:=by
 let ⟨b,d,e,f,i,g,a⟩:=h
 have:=a.su;have:=a.sm;exact⟨b,d,e,f,by grind,g,⟨by simp only;omega,a.sm,a.mu,a.mm⟩⟩
theorem Wf.eo(l:Wf w c)(f:c.stack=wf++[o])(m:0<=wm/\wm<(L c.cells:Int)):Wf w (G7 wm c)/\(G7 wm c).stack=wf++[wm]:=by
 have d:(G7 wm c).stack=wf++[wm]:=by unfold G7;rw[f];simp
 let ⟨p,g,h,i,j,k,b⟩:=l
 have e:(G7 wm c).stack.length=L c.stack:=by rw[d,f];simp
 refine⟨⟨by rw[d];simp,λn a=>?_,h,by rw[e];exact i,by rw[e];exact j,k,⟨b.su,b.sm,b.mu,b.mm⟩⟩,d⟩;rcases Ag.1 a with a|a
 ·exact g n O6
 ·obtain rfl:=Aq.1 a;exact m
theorem Wf.push(g:Wf w c)(l:1<=c.sm-c.su)(h:0<=o/\o<(L c.cells:Int)):Wf w (Ff o {c with su:=c.su+1}):=by
 let ⟨i,d,e,j,k,f,b⟩:=g
 have:=b.su;have:=b.sm;refine⟨by simp[Ff],λx a=>?_,e,by simp[Ff,Ay,AM,Bb];omega,by simp[Ff,Ay,AM,Bb];omega,f,⟨by simp[Ff];omega,b.sm,b.mu,b.mm⟩⟩;rcases Ag.1 a with a|a
 ·exact d x a
 ·obtain rfl:=Aq.1 a;exact h
def PN(l i j m:Nat)(g k:Int->Bq->Bq)(h:Bq->Prop)(b:List Nat)(e:Q)(n:Bq)(f:Q)(a:Bq):Prop:=∃c,MM l f i j a c/\AF b e f/\(∀d∈c,d∈b\/e.heap.size<=d)/\Wf m a/\h a/\n=FJ g k (a.sm-a.su).toNat a
def Ls(a:Nat)(b:Q):Int:=intOf ((b.cell? ⟨a,7,N⟩).getD .nilIface)
structure Pg (h:Nat) (d:Q) (e j:Nat) (f:Option Addr) (k:Nat) (a:Nat->Int×Option Addr×Nat×Nat):Prop where
 lt:e<h
 c:d.cell? ⟨e,0,N⟩=I (W f j k)
 g:∀i,i<j->∃b o,b<h/\f=I ⟨b,o,N⟩/\d.cell? ⟨b,o+i*2,N⟩=I (V C (a i).1)/\d.cell? ⟨b,o+i*2+1,N⟩=I (W (a i).2.1 (a i).2.2.1 (a i).2.2.2)
theorem Pg.low(a:Pg w n s m G j n0)(hb:Below w n p):Pg w p s m G j n0:=⟨a.lt,DA (hb.block _ a.lt) a.c,λk i=>by
 let ⟨d,l,b,e,f,h⟩:=a.g k i
 exact⟨d,l,b,e,DA (hb.block _ b) f,DA (hb.block _ b) h⟩⟩
theorem Apg(c:yh.size=w):∃b,yh=((AU w).map b).toArray:=by
 refine⟨λa=>yh.getD a Aq1,?_⟩;subst c;apply Array.ext';refine Atp O2 λa d e=>?_;simp at d;simp_all
theorem Amj(a:Nat)(c:Act->Q->Prop)(d:Act->Q->Nat)(j:findLabel (.seq (.label a) x4) a=I (.seq .skip x4))(i:c wn n)(f:∀wn n,c wn n->x4.wp wx (Exit.jump a (λe g=>c e g/\d e g<d wn n) w4) wn n):(Code.scope (.seq (.label a) x4)).wp wx w4 wn n:=by
 refine wp_scope_jumps a c d j (wp_seq (wp_label (Code.wp_mono (λh wn n b=>?_) (f wn n i)))) λwn n b=>wp_seq (wp_skip (f wn n b));cases h with
 |goto a=>exact⟨b.1,b.2.1⟩
 |_=>exact b
theorem Ant{u:Q}{g t:Nat}(x E:Int->Bq->Bq)(l:Bq->Prop)(H:MM w u s g c y)(bw:Pg w u g t G D n0)(bz:Wf t c)(br:l c)(bu:∀c,l c->l {c with su:=c.su+1})(bv:∀c aq,l c->l (G7 aq c))(bt:∀c aq,l c->l (Ff aq c))(bq:∀ap,ap<t->∀f h ar,MM w f s g h ar->Below w u f->l h->Wf t h->(0<=h.fr.base/\h.fr.base<(L h.stack:Int)/\L h.stack<=1000000000)->Av Aa 148 #[J (I ⟨s,0,N⟩),T #[V C (n0 ap).1,W (n0 ap).2.1 (n0 ap).2.2.1 (n0 ap).2.2.2]] f λb ba=>BL w s g ar f (x (ap:Int) h) (R #[]) b ba)(bx:∀aq f h ar,MM w f s g h ar->l h->Wf t h->(0<=h.fr.base/\h.fr.base<(L h.stack:Int)/\L h.stack<=1000000000)->Av Aa 150 #[J (I ⟨s,0,N⟩),V .i32 aq] f λb ba=>BL w s g ar f (E aq h) (R #[]) b ba):
 Av Aa 98 #[J (I ⟨s,0,N⟩)] u λb f=>BL w s g y u (FJ x E (c.sm-c.su).toNat c) (R #[]) b f:=by
 have bM:=O0 bq;have bW:=O0 bx;have bR:=O0 bu;have bS:=O0 bv;have bQ:=O0 bt;have bT:=O0 bw;have ch:w<=u.heap.size:=by
  obtain⟨ax,ay,a8,aF,a3,ad,ah,H,rfl⟩:=H;exact H.lz
 have bp:∀i∈y,w<=i:=by
  obtain⟨ax,ay,a8,aF,a3,ad,ah,H,rfl⟩:=H;exact λi hb=>(H.rg i hb).1
 have bL:=O0 bp;obtain⟨q,aV⟩:∃q,FJ x E (c.sm-c.su).toNat c=q:=⟨_,rfl⟩;have be:O9 (PN w s g t x E l y u q u c):=⟨y,H,AF.refl,λi hb=>Ba hb,bz,br,aV.symm⟩;rw[aV];obtain⟨aE,ck⟩:∃aE,c.sm=aE:=⟨_,rfl⟩;obtain⟨aJ,aC⟩:∃aJ:Act->Q->Prop,aJ=λaK f=>∃a:Bq,(aK.tmps.size=68/\aK.tmps.getD 0 Aq1=J (I ⟨s,0,N⟩)/\aK.defers=[])/\a.sm=aE/\O9 (PN w s g t x E l y u q f a):=⟨_,rfl⟩;clear H bz br bq bx bu bv bt aV bw bp;go_enter Tryz.func98,Tryz.ntmps98;refine Amj 0 aJ (λ_ f=>(aE-Ls s f).toNat) rfl (by rw[aC];exact⟨c,⟨rfl,rfl,rfl⟩,ck,be⟩) ?_;rintro⟨cI,c0⟩ cr b5;rw[aC]at b5;obtain⟨a,⟨aW,K,b1⟩,bC,bh⟩:=b5;simp only at aW K b1;subst b1;obtain⟨bZ,rfl⟩:=Apg aW;simp only[AU,List.range.loop,Aqv,Ars]at K ⊢;replace K:bZ 0=J (I ⟨s,0,N⟩):=K
 rw[K];clear aW K be;obtain⟨cv,a1,aN,bm,aO,bs,b9⟩:=bh.o;have cF:=aN.size;have au:=O0 (MH a1 aO.m);have bE:Ls s cr=a.su:=by
  obtain⟨ax,ay,a8,aF,a3,ad,ah,a1,-⟩:=a1;unfold Ls;rw[a1.m.at 7 rfl];rfl
 have bi:=O0 bE;clear bE;have bb:=O0 aN;have aG:=O0 bm;have ab:=O0 aO;have bP:=O0 bs;have bg:=O0 b9;clear bh a1 aN bm aO bs b9;cases hsb:DC a with
 |false=>
  rw[hsb]at au;have bV:O9 (q=BR a):=by show _=_;rw[bg.o,Aeu _ _ hsb]
  clear hsb;go_wp2_with (first
   |(go_at_call 50;refine au.o.mono ?_;intro b e d;obtain⟨rfl,-⟩:=id d;have aa:=O0 d;clear d))
  simp only[Exit.jump];refine AV (Atj rfl _ _ _) rfl ?_;rw[bV.o];exact aa.o.of bb.o aG.o rfl
 |true=>
  rw[hsb,D3 hsb]at au;have aD:=Aab x E hsb;have bD:1<=a.sm-a.su:=by simpa[DC]using hsb
  rw[<-bg.o]at aD;clear hsb;obtain⟨ag,a4,a2⟩:∃ag a4,a.stack=ag++[a4]:=⟨a.stack.dropLast,a.stack.getLast ab.o.ne,(List.dropLast_concat_getLast _).symm⟩;have cj:=ab.o.s a4 (by rw[a2];simp);obtain⟨r,rfl⟩:∃r:Nat,a4=(r:Int):=⟨a4.toNat,O1⟩;have d:r<L a.cells:=O1;rw[Y4 a2 d]at aD;have M:=O0 aD;have aQ:=ab.o.c a.cells[r] (Ao _);have av:=O0 a2;have cC:=ab.o.sl;have c9:=ab.o.cl;have b8:=ab.o.m;have cE:=b8.su;have aP:=ab.o.b;clear aD b8;go_upto_region 1 with(first
   |(go_at_call 50;refine au.o.mono ?_;rintro b e ⟨rfl,bl,cw,⟨ax,ay,a8,aF,a3,ad,ah,an,ca⟩,bn⟩))
  subst ca;have aM:=bb.o.trans bl aG.o;have bo:=λi hb=>(bn i hb).elim (aG.o i) λH=>O1;have cn:=aM.size;obtain⟨ae,aw,cm,-,bB⟩:=IM an.sk O6;obtain⟨cg,cc,fp,c6,c4,ce,k0,bG,bH,co,cp,-⟩:=an.cellAt (r:=r) d;subst cm ce;have Y:=O0 an;have ai:=O0 aM;have z:=O0 bo;have b6:({a with su:=a.su+1}:Bq).stack.length=L a.stack:=rfl;have bj:=O0 (Kr 0 (an.m.at 2 rfl) O1 O1);have bY:e.drew.drew.cell? ⟨ae,L a.stack-1,N⟩=I (V .i32 (r:Int)):=by
   show e.cell? _=_;rw[bB _ O1];show(BX a.stack)[L a.stack-1]?=_;rw[a2];simp[BX]
  have c1:e.drew.drew.cell? ⟨s,1,N⟩=I (W (I ⟨cg,0,N⟩) (L a.cells) cc):=an.m.at 1 rfl;have cK:e.drew.drew.cell? ⟨cg,r*5,N⟩=I (.int .u8 a.cells[r].kind):=k0;have ct:e.drew.drew.cell? ⟨cg,r*5+1,N⟩=I (.int C a.cells[r].n):=bG;have cM:e.drew.drew.cell? ⟨cg,r*5+2,N⟩=I (.int .i32 a.cells[r].left):=bH;have cG:(0:Int)<=(r:Int):=O1;have cH:(r:Int)<(L a.cells:Int):=O1;clear an aM bo bl bn bB k0 bG bH co cp au a2 cj;rw[b6]at bj;clear b6;generalize hkd:a.cells[r].kind=kd at*;generalize hlf:a.cells[r].left=lf at*;generalize hnn:a.cells[r].n=nn at*;go_upto_region 2 with(first
   |(go_at_call 146;refine bj.o.mono ?_;rintro b cJ ⟨rfl,rfl⟩))
  go_region
  have U:=Y.o.drew.drew;have cx:=O0 U;have aj:=ai.o.then (Ae _ _).drew.drew;have bc:=O0 aj;have af:=ab.o.step bD;have p:MM w e.drew.drew s g {a with su:=a.su+1} (mB s (W (I ⟨cg,0,N⟩) (L a.cells) cc) (W (I ⟨ae,0,N⟩) (L a.stack) aw) ad ah):=⟨_,_,_,_,_,_,_,U,rfl⟩;have cy:=O0 p;have O:=bR.o _ bP.o;by_cases a0:kd=5
  ·subst a0;have B:O9 (q=FJ x E (a.sm-(a.su+1)).toNat (G7 lf {a with su:=a.su+1})):=by
    grind
   have aR:=aQ.1 (Ba rfl);have c5:=U.sk.frozenAt (L a.stack-1);have a6:O9 (PN w s g t x E l y u q (e.setCell ⟨ae,L a.stack-1,N⟩ (V .i32 lf)).drew.drew (G7 lf {a with su:=a.su+1})/\Ls s (e.setCell ⟨ae,L a.stack-1,N⟩ (V .i32 lf)).drew.drew=a.su+1):=by
    obtain⟨cd,cB⟩:=af.eo av.o aR;have aS:(L a.stack)-1=L ag:=by rw[av.o];simp
    have cD:=(Y.o.sk.stored (L a.stack-1) (V .i32 lf)).1;obtain⟨bI,cq⟩:=Y.o.eX (AF.FZ (j:=L a.stack-1) (v:=W (I ⟨ae,0,N⟩) (L a.stack) aw) rfl (V .i32 lf)) (s':=ag++[lf]) (by
     have b:(ag++[lf]).length=L a.stack:=by grind
     rw[b,<-An6 ag (r:Int) lf,<-aS];have c2:({a with su:=a.su+1}:Bq).stack=ag++[(r:Int)]:=av.o;grind)
    refine⟨⟨_,⟨ax,ay,_,_,a3,ad,ah,?_,rfl⟩,(ai.o.trans cq z.o).then (Ae _ _).drew.drew,z.o,cd,bS.o _ _ O,B.o⟩,?_⟩
    ·have bX:G7 lf {a with su:=a.su+1}={({a with su:=a.su+1}:Bq) with stack:=ag++[lf]}:=by
      unfold G7;rw[show({a with su:=a.su+1}:Bq).stack=ag++[(r:Int)] from av.o];simp
     rw[bX];exact bI.drew.drew
    ·unfold Ls;rw[bI.drew.drew.m.at 7 rfl];rfl
   clear M af O U aj p Y ai z;go_wp2;go_step3
   refine⟨rfl,?_,?_⟩
   ·rw[aC];exact⟨G7 lf {a with su:=a.su+1},⟨rfl,rfl,rfl⟩,bC,a6.o.1⟩
   ·rw[a6.o.2,bi.o];omega
  ·by_cases az:kd=2
   ·subst az;have B:O9 (q=FJ x E (a.sm-(a.su+1)).toNat (Ff lf {a with su:=a.su+1})):=by
     grind
    have aR:=aQ.1 (Aq5 rfl);have bU:=O0 (Nr lf p (by show L a.stack<=_;omega));have a6:O9 (∀w5 am,AF (mB s (W (I ⟨cg,0,N⟩) (L a.cells) cc) (W (I ⟨ae,0,N⟩) (L a.stack) aw) ad ah) e.drew.drew w5->MM w w5 s g (Ff lf {a with su:=a.su+1}) am->(∀i∈am,i∈mB s (W (I ⟨cg,0,N⟩) (L a.cells) cc) (W (I ⟨ae,0,N⟩) (L a.stack) aw) ad ah\/e.drew.drew.heap.size<=i)->PN w s g t x E l y u q w5 (Ff lf {a with su:=a.su+1})/\Ls s w5=a.su+1):=by
     intro w5 am a9 ak aB;refine⟨⟨am,ak,bc.o.trans a9 z.o,λi hb=>(aB i hb).elim (z.o i) λH=>Aq5 (Aw cn H),ab.o.push bD aR,bQ.o _ _ O,B.o⟩,?_⟩;obtain⟨ax,ay,a8,aF,a3,ad,ah,ak,-⟩:=ak;unfold Ls;rw[ak.m.at 7 rfl];rfl
    clear M af O U aj p Y ai z;go_wp2_with (first
     |(go_at_call 147;refine bU.o.mono ?_;rintro b w5 ⟨rfl,a9,am,ak,aB⟩;have bf:=O0 (a6.o w5 am a9 ak aB);clear a9 ak aB))
    go_step3
    refine⟨rfl,?_,?_⟩
    ·rw[aC];exact⟨Ff lf {a with su:=a.su+1},⟨rfl,rfl,rfl⟩,bC,bf.o.1⟩
    ·rw[bf.o.2,bi.o];omega
   ·have a5:O9 (∀(aZ:Bq) w5 b,BL w s g (mB s (W (I ⟨cg,0,N⟩) (L a.cells) cc) (W (I ⟨ae,0,N⟩) (L a.stack) aw) ad ah) e.drew.drew aZ (R #[]) b w5->BL w s g y u aZ (R #[]) (F (R #[])) w5):=λaZ w5 b d=>d.of bc.o z.o rfl;by_cases K:kd=0
    ·subst K;have B:O9 (q=CJ 7 {a with su:=a.su+1}):=by
      have:=M.o;rw[if_neg a0,if_neg az,if_pos rfl]at this;exact this
     have aH:=O0 (IF 7 p);clear M af O U aj p Y ai z;go_wp2_with (first
      |(go_at_call 101;refine aH.o.mono ?_;intro b w5 d;obtain⟨rfl,-⟩:=id d;have aa:=O0 (a5.o _ _ _ d);clear d))
     simp only[Exit.jump];refine bF ?_ O2 rfl rfl;rw[B.o];exact aa.o
    ·have b0:0<=({a with su:=a.su+1}:Bq).fr.base/\({a with su:=a.su+1}:Bq).fr.base<(({a with su:=a.su+1}:Bq).stack.length:Int)/\({a with su:=a.su+1}:Bq).stack.length<=1000000000:=⟨aP.1,aP.2,by show L a.stack<=_;omega⟩;by_cases aL:kd=4
     ·subst aL;have B:O9 (q=x nn {a with su:=a.su+1}):=by
       have:=M.o;rw[if_neg a0,if_neg az,if_neg K,if_pos rfl]at this;exact this
      obtain⟨ci,aS⟩:=aQ.2.1 rfl;obtain⟨k,rfl⟩:∃k:Nat,nn=(k:Int):=⟨nn.toNat,O1⟩;have b2:k<t:=O1;have b7:=aj.low bL.o ch;have aT:=bT.o.low b7;obtain⟨gb,bk,-,cf,bJ,bK⟩:=aT.g k b2;have bN:=O0 (bM.o k b2 e.drew.drew.drew _ _ (p.bE (Ae _ _).drew) b7.drew O af b0);have cN:e.drew.drew.drew.cell? ⟨s,0,N⟩=I (J (I ⟨g,0,N⟩)):=U.m.at 0 rfl;have cO:e.drew.drew.drew.cell? ⟨g,0,N⟩=I (W G t D):=aT.c;have cP:e.drew.drew.drew.cell? ⟨cg,r*5+1,N⟩=I (V C (k:Int)):=ct;have cQ:e.drew.drew.drew.cell? ⟨gb,bk+k*2,N⟩=I (V C (n0 k).1):=bJ;have cS:e.drew.drew.drew.cell? ⟨gb,bk+k*2+1,N⟩=I (W (n0 k).2.1 (n0 k).2.2.1 (n0 k).2.2.2):=bK;have c7:(0:Int)<=(k:Int):=ci;have c8:(k:Int)<(t:Int):=aS;subst cf;clear M af O U aj p Y ai z aT bJ bK;go_upto_region 14 with fail
      go_region_with (go_at_call 148;refine bN.o.mono ?_;intro b w5 d;obtain⟨rfl,-⟩:=id d;have aa:=O0 (a5.o _ _ _ (d.of (AF.bG (Ae _ _).drew) (λi hb=>Ba hb) (e':=F (R #[])) (r':=R #[]) rfl));clear d)
      all_goals(try go_wp2)
      all_goals
       simp only[Exit.jump];refine bF ?_ O2 rfl rfl;rw[B.o];exact aa.o
     ·have a7:=O0 (Ue p (by show L a.stack<=_;omega) ⟨aP.1,by show a.fr.base<=_;omega⟩);have aY:IL a=(L a.stack:Int)-1-a.fr.base:=rfl;have cz:=O0 aY;by_cases ao:0<IL a
      ·have B:O9 (q=CJ 5 {a with su:=a.su+1}):=by
        have:=M.o;rw[if_neg a0,if_neg az,if_neg K,if_neg aL,if_pos ao]at this;exact this
       have aH:=O0 (IF 5 (p.bE (Ae _ _).drew));have aX:(0:Int)<(L a.stack:Int)-1-a.fr.base:=ao;clear M af O U aj p Y ai z aY ao;obtain⟨ac,al⟩:∃ac,(L a.stack:Int)-1-a.fr.base=ac:=⟨_,rfl⟩;have aI:O9 (Av Aa 149 #[J (I ⟨s,0,N⟩)] e.drew.drew λb f=>b=F (V C ac)/\f=e.drew.drew.drew):=by
        have:=a7.o;rw[show((({a with su:=a.su+1}:Bq).stack.length:Int)-1-({a with su:=a.su+1}:Bq).fr.base)=ac from al]at this;exact this
       rw[al]at aX;clear a7 al;go_wp2_with (first
        |(go_at_call 149;refine aI.o.mono ?_;rintro b cs ⟨rfl,rfl⟩)
        |(go_at_call 101;refine aH.o.mono ?_;intro b w5 d;obtain⟨rfl,-⟩:=id d;have aa:=O0 (a5.o _ _ _ (d.of (AF.bG (Ae _ _).drew) (λi hb=>Ba hb) (e':=F (R #[])) (r':=R #[]) rfl));clear d))
       simp only[Exit.jump];refine bF ?_ O2 rfl rfl;rw[B.o];exact aa.o
      ·have B:O9 (q=E (r:Int) {a with su:=a.su+1}):=by
        have:=M.o;rw[if_neg a0,if_neg az,if_neg K,if_neg aL,if_neg ao,show a.stack.getLast?.getD 0=(r:Int) by rw[av.o];simp]at this;exact this
       have bO:=O0 (bW.o (r:Int) _ _ _ (p.bE (Ae _ _).drew) O af b0);have aX:¬(0:Int)<(L a.stack:Int)-1-a.fr.base:=ao;have c3:e.drew.drew.drew.cell? ⟨ae,L a.stack-1,N⟩=I (V .i32 (r:Int)):=bY;clear M af O U aj p Y ai z aY ao;obtain⟨ac,al⟩:∃ac,(L a.stack:Int)-1-a.fr.base=ac:=⟨_,rfl⟩;have aI:O9 (Av Aa 149 #[J (I ⟨s,0,N⟩)] e.drew.drew λb f=>b=F (V C ac)/\f=e.drew.drew.drew):=by
        have:=a7.o;rw[show((({a with su:=a.su+1}:Bq).stack.length:Int)-1-({a with su:=a.su+1}:Bq).fr.base)=ac from al]at this;exact this
       rw[al]at aX;clear a7 al;go_wp2_with (first
        |(go_at_call 149;refine aI.o.mono ?_;rintro b cs ⟨rfl,rfl⟩)
        |(go_at_call 150;refine bO.o.mono ?_;intro b w5 d;obtain⟨rfl,-⟩:=id d;have aa:=O0 (a5.o _ _ _ (d.of (AF.bG (Ae _ _).drew) (λi hb=>Ba hb) (e':=F (R #[])) (r':=R #[]) rfl));clear d))
       simp only[Exit.jump];refine bF ?_ O2 rfl rfl;rw[B.o];exact aa.o
def K2(a:Nat):Cg:=⟨4,(a:Int),0,0,[]⟩
def Mj(c:Nat)(b a:Int):Bq:=⟨(AU c).map K2,[],⟨0,[],0⟩,[],0,b,0,a,0,0,[]⟩
theorem Als(o:n.ownsRow w wj 5 (W (I ⟨s,0,N⟩) m j) m ((AU (m*5)).map (C5 5 wi wp)))(p:(L wp)=D)(u:D<m)(b c d e f:X):(((((n.setCell ⟨s,D*5,N⟩ b).setCell ⟨s,D*5+1,N⟩ c).setCell ⟨s,D*5+2,N⟩ d).setCell ⟨s,D*5+3,N⟩ e).setCell ⟨s,D*5+4,N⟩ f).ownsRow w wj 5 (W (I ⟨s,0,N⟩) m j) m ((AU (m*5)).map (C5 5 wi (wp++[[b,c,d,e,f]]))):=by
 subst p;have t:=((((((o.stored (L wp*5) b).1.stored (L wp*5+1) c).1.stored (L wp*5+2) d).1.stored (L wp*5+3) e).1.stored (L wp*5+4) f).1);have wj:((((((AU (m*5)).map (C5 5 wi wp)).set (L wp*5) b).set (L wp*5+1) c).set (L wp*5+2) d).set (L wp*5+3) e).set (L wp*5+4) f=(AU (m*5)).map (C5 5 wi (wp++[[b,c,d,e,f]])):=by
  apply Atp
  ·simp
  ·intro a q r;simp[List.getElem_set,AN,List.getElem_range];by_cases l:(L wp)*5+4=a
   ·subst l;rw[if_pos rfl,II O1,show(L wp*5+4) % 5=4 by omega];rfl
   rw[if_neg l];by_cases k:(L wp)*5+3=a
   ·subst k;rw[if_pos rfl,II O1,show(L wp*5+3) % 5=3 by omega];rfl
   rw[if_neg k];by_cases i:(L wp)*5+2=a
   ·subst i;rw[if_pos rfl,II O1,show(L wp*5+2) % 5=2 by omega];rfl
   rw[if_neg i];by_cases h:(L wp)*5+1=a
   ·subst h;rw[if_pos rfl,II O1,show(L wp*5+1) % 5=1 by omega];rfl
   rw[if_neg h];by_cases g:(L wp)*5=a
   ·subst g;rw[if_pos rfl,II O1,show(L wp*5) % 5=0 by omega];rfl
   rw[if_neg g,Rj O1]
 grind
theorem XH(a:List (Cg×X)):(a.flatMap DK).length=L a*5:=Mi (enc:=DK) (λ_=>rfl) a
theorem Aif(b:List (Cg×X))(f:List X):(AU (L b*5)).map (C5 5 f (b.map DK))=b.flatMap DK:=by
 apply At8;intro a;by_cases d:a<L b*5
 ·have e:a / 5<L b:=O1;have c:=MI (size:=5) DK (λ_=>rfl) b (a / 5) e (a % 5) O1;rw[show a / 5*5+a % 5=a by omega]at c;rw[c,Arc,List.getElem?_range d,Ati,LK O6,AN];have:a % 5<(DK b[a / 5]).length:=by simp[DK];omega
  grind
 ·rw[Atc O5,Atc (by rw[XH];omega)]
theorem Ad9(c:Q)(b:Array X)(a:Nat)(d:AX)(f:Nat)(g:f<=c.heap.size)(k:b.size=5)(h:a<=maxLen):(c.alloc (.cells (madeCells b (a*5)) d)).ownsRow f d 5 (W (I ⟨c.heap.size,0,N⟩) a a) a ((AU (a*5)).map (C5 5 b.toList [])):=by
 have j:=World.ownsRow_lit (e:=d) c (madeCells b (a*5)) a g h (by rw[size_madeCells]);have e:(madeCells b (a*5)).toList=(AU (a*5)).map (C5 5 b.toList []):=by
  unfold madeCells;simp only[Array.toList_map,Array.toList_range];refine As6 λi _=>?_;have:i % 5<b.size:=O1;unfold C5;grind
 grind
theorem Akv(a:Nat)(i:a<=1000000)(b:Q):(Instr.makeSlice 86 (V C (a:Int)) (V C (a:Int))).run Aa b=.ok (W (I ⟨b.heap.size,0,N⟩) a a) (b.alloc (.cells (madeCells #[V .u8 0,V C 0,V .i32 0,V .i32 0,W N 0 0] (a*5)) 153)):=by
 let ⟨h,d,c⟩:=AB.1 Tryz.eE
 simp[Aq2]at c;let ⟨e,f,g⟩:=c
 rw[run_make b 86 153 h _ Tryz.underlying86 d e C C a a O1 O1 (by rw[g];omega) O1,f];rfl
def KB(b:Nat):List (List X):=((AU b).map λa=>(K2 a,W N 0 0)).map DK
theorem App(a:Nat):(KB a).length=a:=by simp[KB]
theorem Anz(a:Nat):KB (a+1)=KB a++[[V .u8 4,V C (a:Int),V .i32 0,V .i32 0,W N 0 0]]:=by simp[KB,Ats,DK,K2]
def Oq:List X:=[V .u8 0,V C 0,V .i32 0,V .i32 0,W N 0 0]
structure Ta (b wr:Q) (c a:Nat) (e d:Int) (f:Nat):Prop where
 low:Below b.heap.size b wr
 m:BN wr b.heap.size (mL c (W (I ⟨b.heap.size+1,0,N⟩) a a) (W N 0 0) (W N 0 0) (W N 0 0) (W N 0 0) (Mj a e d))
 r:wr.ownsRow b.heap.size 153 5 (W (I ⟨b.heap.size+1,0,N⟩) a a) a ((AU (a*5)).map (C5 5 Oq (KB f)))
theorem Ahg{z:Nat}(c b:Int)(D:n.cell? ⟨w,0,N⟩=I (W G s z))(Y:s<=1000000):
 Av Aa 24 #[J (I ⟨w,0,N⟩),V C c,V C b] n λy u=>Below n.heap.size n u/\∃q p,y=F (J (I ⟨q,0,N⟩))/\MM n.heap.size u q w (Mj s c b) p/\∀t∈p,n.heap.size<=t:=by
 have U:=Akv s Y;have E:=λab=>alloc_old n ab _ _ _ D;obtain⟨j,l⟩:∃j,j=(n.alloc (.cells #[J (I ⟨w,0,N⟩),W (I ⟨n.heap.size+1,0,N⟩) s s,W N 0 0,V C 0,W N 0 0,V C 0,W N 0 0,V C 0,V C c,V C 0,V C b,V C 0,V C 0,W N 0 0] 97)).alloc (.cells (madeCells #[V .u8 0,V C 0,V .i32 0,V .i32 0,W N 0 0] (s*5)) 153):=⟨_,rfl⟩;have x:O9 (Ta n j w s c b 0):=by
  rw[l];have H:BN (n.alloc (.cells #[J (I ⟨w,0,N⟩),W (I ⟨n.heap.size+1,0,N⟩) s s,W N 0 0,V C 0,W N 0 0,V C 0,W N 0 0,V C 0,V C c,V C 0,V C b,V C 0,V C 0,W N 0 0] 97)) n.heap.size (mL w (W (I ⟨n.heap.size+1,0,N⟩) s s) (W N 0 0) (W N 0 0) (W N 0 0) (W N 0 0) (Mj s c b)):=⟨λh i=>Cb _ _ _ _ _ (by
   have:h<14:=i;simp only[mL,Mj];simp_all),λh=>O2,O2⟩
  refine⟨bA.alloc O2 _,H.bX (Below.heap_alloc _ _ _ O2) O2,?_⟩;have k:=Ad9 (n.alloc (.cells #[J (I ⟨w,0,N⟩),W (I ⟨n.heap.size+1,0,N⟩) s s,W N 0 0,V C 0,W N 0 0,V C 0,W N 0 0,V C 0,V C c,V C 0,V C b,V C 0,V C 0,W N 0 0] 97)) #[V .u8 0,V C 0,V .i32 0,V .i32 0,W N 0 0] s 153 n.heap.size O2 rfl O8;rw[Asz]at k;exact k
 go_enter Tryz.func24,Tryz.ntmps24;go_wp2;rw[<-l];clear l E U;go_loopw [30] (λo wr=>∃a:Nat,a<=s/\o=V C (a:Int)/\O9 (Ta n wr w s c b a)) (λo _=>s-(intOf o).toNat)
 case atStart=>grind
 case round=>
  clear x;obtain⟨a,aq,rfl,g⟩:=hrel;rename Q=>wr
  by_cases O:a<s
  ·have ao:(0:Int)<=(a:Int):=O1;have k:(a:Int)<(s:Int):=O1;have ai:=g.o.m.at 1 rfl;have d:=g.o.r;have e:∀h,h<s*5->wr.cell? ⟨n.heap.size+1,h,N⟩=I (C5 5 Oq (KB a) h):=λh i=>by rw[d.cellAt h i];simp[i]
   have ad:=e (a*5) O1;have ae:=e (a*5+1) O1;have af:=e (a*5+2) O1;have ag:=e (a*5+3) O1;have ah:=e (a*5+4) O1;have aj:=d.frozenAt (a*5);have ak:=d.frozenAt (a*5+1);have al:=d.frozenAt (a*5+2);have am:=d.frozenAt (a*5+3);have an:=d.frozenAt (a*5+4);have v:O9 (Ta n (((((wr.setCell ⟨n.heap.size+1,a*5,N⟩ (V .u8 4)).setCell ⟨n.heap.size+1,a*5+1,N⟩ (V C (a:Int))).setCell ⟨n.heap.size+1,a*5+2,N⟩ (V .i32 0)).setCell ⟨n.heap.size+1,a*5+3,N⟩ (V .i32 0)).setCell ⟨n.heap.size+1,a*5+4,N⟩ (W N 0 0)) w s c b (a+1)):=by
    refine⟨((((g.o.low.setCell O2 _).setCell O2 _).setCell O2 _).setCell O2 _).setCell O2 _,((((FB.set g.o.m O1 _).set O1 _).set O1 _).set O1 _).set O1 _,?_⟩;rw[Anz];exact Als d (App a) O _ _ _ _ _
   clear d e g;go_wp2;exact⟨⟨a+1,O1,rfl,v.o⟩,by simp[intOf];omega⟩
  ·obtain rfl:a=s:=O1;have ap:¬(a:Int)<(a:Int):=O1;go_wp2;go_ret;have d:=g.o.r;have M:((AU a).map λf=>(K2 f,W N 0 0)).length=a:=O2;have aa:(AU (a*5)).map (C5 5 Oq (KB a))=((AU a).map λf=>(K2 f,W N 0 0)).flatMap DK:=by
    have:=Aif ((AU a).map λf=>(K2 f,W N 0 0)) Oq;rw[M]at this;exact this
   rw[aa]at d;have B:MM n.heap.size wr n.heap.size w (Mj a c b) (mB n.heap.size (W (I ⟨n.heap.size+1,0,N⟩) a a) (W N 0 0) (W N 0 0) (W N 0 0)):=by
    refine⟨(AU a).map λf=>(K2 f,W N 0 0),[],_,_,_,_,_,⟨g.o.m,by grind,λac e=>?_,Aq7 _ _ _ _,Aq7 _ _ _ _,λac e=>absurd e nofun,Ba ⟨rfl,rfl⟩,Aq7 _ _ _ _,?_,rfl,?_,Ac _⟩,rfl⟩
    ·obtain⟨f,-,rfl⟩:=AK.1 e;exact⟨N,0,rfl,λf K=>absurd K nofun⟩
    ·rw[Aqz];rfl
    ·simp[mB,vB,Bi]
   exact⟨g.o.low,n.heap.size,rfl,_,B,λt hb=>by
    simp[mB,vB,Bi]at hb;omega⟩
theorem Et.ins(q:Et w n b wh){d:Nat}(v:d<L wh):∃g o m l,g<w/\b=W (I ⟨g,0,N⟩) (L wh) (L wh)/\n.cell? ⟨g,d*3,N⟩=I (.int C wh[d].op)/\n.cell? ⟨g,d*3+1,N⟩=I (.int C wh[d].a)/\n.cell? ⟨g,d*3+2,N⟩=I (W o m l):=by
 rcases q with⟨-,rfl⟩|⟨i,e,hb,y,s,u,r⟩
 ·simp at v
 ·have D:(L e)=L wh:=by grind
  have B:d<L e:=O1;have h:∀f,f<3->n.cell? ⟨i,d*3+f,N⟩=(MG e[d])[f]?:=λf z=>by
   have t:(d*3+f) / 3=d:=O1;have x:(d*3+f) % 3=f:=O1;rw[u.c _ O1,LK O6];simp[t,x,AN];have:f<(MG e[d]).length:=by simp[MG];omega
   grind
  obtain⟨k,-,p,-⟩:=r e[d] (Ao _);have j:wh[d]=e[d].1:=by simp[<-s]
  refine⟨i,I ⟨k,0,N⟩,e[d].1.alts.length,e[d].1.alts.length,hb,y,?_,?_,?_⟩
  ·rw[show d*3=d*3+0 by rfl,h 0 O1,j];rfl
  ·rw[h 1 O1,j];rfl
  ·rw[h 2 .refl];exact congrArg I p
def Cn(a:Bq):Bq:={a with fr:={a.fr with at_:=a.fr.at_+1}}
theorem MM.next{l:Nat}{e:Bq}(d:MM w n s l e y){k:Nat}(q:e.fr.at_=(k:Int))(r:k<L e.fr.code):∃b v c h g f,k<v/\n.cell? ⟨s,4,N⟩=I (W (I ⟨b,0,N⟩) v c)/\n.cell? ⟨s,5,N⟩=I (V C (k:Int))/\n.frozen? ⟨s,5,N⟩=false/\((n.setCell ⟨s,5,N⟩ (V C ((k:Int)+1))).cell? ⟨b,k*3,N⟩=I (.int C e.fr.code[k].op)/\(n.setCell ⟨s,5,N⟩ (V C ((k:Int)+1))).cell? ⟨b,k*3+1,N⟩=I (.int C e.fr.code[k].a)/\(n.setCell ⟨s,5,N⟩ (V C ((k:Int)+1))).cell? ⟨b,k*3+2,N⟩=I (W h g f))/\b∉y/\b<n.heap.size/\MM w (n.setCell ⟨s,5,N⟩ (V C ((k:Int)+1))) s l (Cn e) y/\AF y n (n.setCell ⟨s,5,N⟩ (V C ((k:Int)+1))):=by
 obtain⟨D,G,E,O,t,H,U,d,rfl⟩:=d;let ⟨b,h,g,f,hb,K,x,z,B⟩:=d.cd.ins r
 have Y:=d.ml;have aa:=d.lz;have o:=d.m.at 4 rfl;have p:=d.m.at 5 rfl;rw[K]at o;rw[q]at p;have j:(n.setCell ⟨s,5,N⟩ (V C (k+1))).heap[b]?=n.heap[b]?:=Az _ _ _ _ (show b≠s by omega);refine⟨b,_,_,h,g,f,r,o,p,d.m.fz 5,⟨DA j x,DA j z,DA j B⟩,λM=>?_,O1,⟨D,G,E,O,t,H,U,?_,rfl⟩,AF.refl.set (Ba (Aqu ..)) _⟩
 ·have:=(d.rg b M).1;omega
 ·exact(d.cO (i:=5) (u:=V C ((k:Int)+1)) (st':=Cn e) (kv':=t) (by simp[mL,Cn,q]) O1 rfl rfl rfl rfl d.cd)
def NxF(m c k:Nat)(h:List Nat)(j:Q)(g:Bq)(b:Nat)(e:Q):Prop:=∃d i l:Nat,∃f,(b:Int)<(i:Int)/\e.cell? ⟨c,4,N⟩=I (W (I ⟨d,0,N⟩) i l)/\e.cell? ⟨c,5,N⟩=I (V C (b:Int))/\e.frozen? ⟨c,5,N⟩=false/\(e.setCell ⟨c,5,N⟩ (V C ((b:Int)+1))).cell? ⟨d,b*3,N⟩=I (V C ((g.fr.code[b]?).getD ⟨0,0,[]⟩).op)/\(e.setCell ⟨c,5,N⟩ (V C ((b:Int)+1))).cell? ⟨d,b*3+1,N⟩=I (V C ((g.fr.code[b]?).getD ⟨0,0,[]⟩).a)/\d∉f/\d<(e.setCell ⟨c,5,N⟩ (V C ((b:Int)+1))).drew.heap.size/\MM m (e.setCell ⟨c,5,N⟩ (V C ((b:Int)+1))).drew c k (Cn (BR g)) f/\AF h j (e.setCell ⟨c,5,N⟩ (V C ((b:Int)+1))).drew/\∀d∈f,d∈h\/j.heap.size<=d
theorem Qi(t:MM w n s m c y)(H:EV c)(b:DC c=true){a:Nat}(aa:c.fr.at_=(a:Int))(ab:a<L c.fr.code):
 Av Aa 50 #[J (I ⟨s,0,N⟩)] n λd h=>d=F (A true)/\NxF w s m y n c a h:=by
 refine(MH t H).mono λd h g=>?_;have f:=g.1;obtain⟨-,z,i,v,e⟩:=g;rw[b]at f;have B:(BR c).fr.at_=a:=by rw[D3 b];omega
 have G:(BR c).fr.code=c.fr.code:=by rw[D3 b]
 let ⟨j,K,k,U,O,M,ac,p,q,r,⟨l,o,Y⟩,D,E,x,u⟩:=v.next B O6
 simp[G]at l o;refine⟨f,j,K,k,i,O1,p,q,r,?_,?_,D,by simpa using E,x.bE (Ae _ _).drew,(z.trans u e).then (Ae _ _).drew,e⟩
 ·grind
 grind
def KW(n b j:Nat)(a:List Nat)(h:Q)(o:Bq)(k:List (Cg×X))(l:List (Gk×X))(d m e g:X)(i:Q):Prop:=∃f,BH n i b j o k l d f m e g/\AF a h i/\∀c∈mB b d f e g,c∈a\/h.heap.size<=c
theorem KW.drew{h:Nat}{k:Q}{M b:Nat}{i:Bq}{a:List Nat}{c:List (Cg×X)}{e:List (Gk×X)}{d g f j:X}{l:Q}(m:KW h M b a k i c e d g f j l):KW h M b a k i c e d g f j l.drew:=
 have ⟨q,n,o,p⟩:=m
 ⟨q,n.drew,o.drew,p⟩
theorem BH.begun(a:BH w n s m c nc w8 b i r (W G (L w8) j) M):BH w ((((n.setCell ⟨s,3,N⟩ (V C 0)).setCell ⟨s,4,N⟩ (W N 0 0)).setCell ⟨s,5,N⟩ (V C 0)).setCell ⟨s,6,N⟩ (W G 0 j)) s m {c with fr:=⟨0,[],0⟩,BF:=[]} nc [] b i (W N 0 0) (W G 0 j) M/\AF (mB s b i (W G (L w8) j) M) n ((((n.setCell ⟨s,3,N⟩ (V C 0)).setCell ⟨s,4,N⟩ (W N 0 0)).setCell ⟨s,5,N⟩ (V C 0)).setCell ⟨s,6,N⟩ (W G 0 j))/\∀d∈mB s b i (W G 0 j) M,d∈mB s b i (W G (L w8) j) M\/n.heap.size<=d:=
 a.step (((((a.sp.cI (L1:=[_,_,_]) AF.refl (by simpa using RU a.dp (Ak _)) (Gf _) λg f=>have e:g∈vB (W G (L w8) j):=LJ▸f;⟨.inl e,(Fc a.dp e).2⟩).dt O1).dt O1).dt O1).dt O1) a.fl nofun (.inl ⟨rfl,rfl⟩) a.EI rfl
def Q4(a:Int)(b:Bq):Bq:={b with stack:=[a],fr:=⟨0,[],0⟩,BF:=[],state:=0}
def OO(a:Nat)(c:Q)(b:Nat):Int:=intOf ((c.cell? ⟨a,b,N⟩).getD .nilIface)
def JZ(a:Bq):Nat:=2*(a.sm-a.su).toNat+if a.state=0 then 1 else 0
def Ps(a:Nat)(b:Q):Nat:=2*(OO a b 8-OO a b 7).toNat+if OO a b 11=0 then 1 else 0
theorem MM.mu{b:Nat}(a:MM w n s b c y):Ps s n=JZ c:=by
 obtain⟨d,f,e,i,h,g,j,a,-⟩:=a;unfold Ps JZ OO;rw[a.m.at 7 rfl,a.m.at 8 rfl,a.m.at 11 rfl];rfl
theorem MM.dx(a:MM w n s m c y):w<=n.heap.size/\∀b∈y,w<=b:=by
 obtain⟨d,f,e,i,h,g,j,a,rfl⟩:=a;exact⟨a.lz,λb hb=>(a.rg b hb).1⟩
def HR(a:Bq):X:=if a.state=2 then R #[V .i32 0,A false] else R #[V .i32 (a.stack.headD 0),A true]
def L4(lo M Pb:Nat)(a:List Nat)(e:Q)(f:Bq->Prop)(wr:Q):Prop:=∃d b,MM lo wr M Pb d b/\AF a e wr/\(∀c∈b,c∈a\/e.heap.size<=c)/\f d
theorem L4.of{lo M Pb:Nat}{w':Q}{r:X}{e:Ending}(d:AF y n p)(f:∀a∈nk,a∈y\/n.heap.size<=a)(k:yr c)(b:BL lo M Pb nk p c r e w'):L4 lo M Pb y n yr w':=by
 obtain⟨-,h,g,j,i⟩:=b;exact⟨c,g,j,d.trans h f,λa hb=>by
  rcases i a hb with b|b
  ·exact f a b
  ·have:=d.size;omega,k⟩
theorem Anp{lo:Nat}{M Pb:Nat}{ab:Bq}(c:Int)(o:Bq->Prop)(h:MM lo n M Pb ab y)(az:∀w' D,MM lo w' M Pb (Q4 c ab) D->Below lo n w'->Av Aa 98 #[J (I ⟨M,0,N⟩)] w' λe aj=>∃d,o d/\BL lo M Pb D w' d (R #[]) e aj)(ax:∀w' st' D,o st'->st'.state=0->MM lo w' M Pb st' D->Below lo n w'->Av Aa 99 #[J (I ⟨M,0,N⟩)] w' λe aj=>∃d,o d/\JZ d<JZ st'/\BL lo M Pb D w' d (R #[]) e aj)(ay:∀st',o st'->st'.state≠0->st'.state≠2->st'.stack≠[]):
 Av Aa 49 #[J (I ⟨M,0,N⟩),V .i32 c] n λe w'=>∃ac,o ac/\ac.state≠0/\BL lo M Pb y n ac (HR ac) e w':=by
 have O:=O0 h.dx;have aE:=O0 az;have aB:=O0 ax;have aD:=O0 ay;obtain⟨ap,aV,aq,aO,bm,aX,a6,h,ag⟩:=h;obtain⟨bo,sc,rfl⟩:=BW h.sk;obtain⟨aG,ar,rfl⟩:=BW h.dp;have au:=h.m.at 2 rfl;have av:=h.m.at 6 rfl;have aH:=λai=>alloc_old n ai _ _ _ au;have aI:=λai=>alloc_old n ai _ _ _ av;have ao:=O0 (Ib (h.dN (Ak _)));have af:=O0 λ(aF w2:Q) (v:X) (hb:Below n.heap.size n aF) p=>h.dI (l:=[c]) (w2:=w2) (v:=v) (Ak _) hb p;have bg:(0:Int)<=(sc:Int):=O1;have bh:(0:Int)<=(ar:Int):=O1;have aL:M∈y:=ag▸.head _;rw[<-ag]at af;clear h az ax ay ag;go_enter Tryz.func49,Tryz.ntmps49;go_upto_region 1 with fail
 go_cut [] (λa8=>O9 (KW lo M Pb y n {ab with stack:=[c],fr:=⟨0,[],0⟩,BF:=[]} ap [] aq (W N 0 0) (W aG 0 ar) a6 a8))
 case first=>
  go_region_law
   (first
    |(refine GQ Ov (ao.o.alloc _) (AL n _) (m:=1) (c:=1) (s:=.tmp 13) (x:=.tmp 15) rfl rfl rfl rfl rfl (by intro u a4;simp at a4;subst a4;rfl) O1 O1 ?_;intro aK aQ bs a3;obtain⟨f,a⟩:=af.o _ _ _ (by first|exact bA|exact bA.drew) a3;have aN:=f.at 2 rfl;have bi:=f.at 3 rfl;have bj:=f.at 4 rfl;have bk:=f.at 5 rfl;have bl:=f.at 6 rfl;have aZ:=f.fz 2;have ba:=f.fz 3;have bb:=f.fz 4;have bc:=f.fz 5;have be:=f.fz 6;have ad:O9 (KW lo M Pb y n _ ap [] aq _ _ a6 _):=⟨_,Jz a.2.1 a.2.2 a.1.begun⟩;clear a3 f a))
  all_goals(try go_wp2)
  all_goals
   go_meet
   first|exact ad|exact ad.o.drew|exact ad.o.drew.drew
 case rest=>
  clear af ao au av aH aI;rename Q=>a8
  obtain⟨aO,G,w,aw⟩:=hcut.o;have K:=G.m.at 11 rfl;have aJ:=G.m.fz 11;have k:=w.set (j:=11) (.inl aL) (V C 0);have an:=O0 (aE.o _ _ ⟨_,_,_,_,_,_,_,G.cO (i:=11) (u:=V C 0) (st':=Q4 c ab) rfl O1 rfl rfl rfl rfl G.cd,rfl⟩ (k.low O.o.2 O.o.1));have E:=O0 λe a7 d (g:o d) a=>L4.of (lo:=lo) (M:=M) (Pb:=Pb) (e:=e) (w':=a7) (r:=R #[]) k aw g a;clear hcut G w aw k;go_wp2_with (first
   |(go_at_call 98;refine an.o.mono ?_;rintro e a7 ⟨d,g,a⟩;have t:=O0 (E.o _ _ _ g a);obtain⟨rfl,-⟩:=a;clear an E K aJ g))
  go_loopw [] (λwr=>O9 (L4 lo M Pb y n o wr)) (λwr=>Ps M wr)
  case atStart=>exact t
  case round=>
   clear t;rename Q=>wr
   obtain⟨b,ak,U,k,H,g⟩:=hrel.o;have aM:=U.mu;have t:O9 (BL lo M Pb y n b (HR b) (F (HR b)) wr):=⟨rfl,k,ak,U,H⟩;have am:=O0 g;have al:=O0 λq=>aB.o wr b ak g q U (k.low O.o.2 O.o.1);have aC:=O0 λe w2 d (Y:o d) a=>L4.of (lo:=lo) (M:=M) (Pb:=Pb) (e:=e) (w':=w2) (r:=R #[]) k H Y a;obtain⟨aS,aW,aT,bp,bn,aY,br,B,-⟩:=U;have K:=B.m.at 11 rfl;by_cases q:b.state=0
   ·rw[q]at K;clear hrel k H g B;go_wp2_with (first
     |(go_at_call 99;refine(al.o q).mono ?_;rintro e w2 ⟨d,Y,a2,a⟩;obtain⟨rfl,-,aP,a0,-⟩:=id a;have E:O9 (L4 lo M Pb y n o w2/\Ps M w2<JZ b):=⟨aC.o _ _ _ Y a,a0.mu▸a2⟩;clear Y a2 a a0 al K))
    exact⟨E.o.1,by rw[aM];exact E.o.2⟩
   ·by_cases w:b.state=2
    ·have z:HR b=R #[V .i32 0,A false]:=if_pos w;rw[w]at K;rw[z]at t;have ae:=O0 z;have a9:=O0 q;clear hrel k H g B q z;go_wp2;go_ret2
     exact⟨b,am.o,a9.o,ae.o▸t.o⟩
    ·obtain⟨x,bq,aa⟩:=List.exists_cons_of_ne_nil (aD.o b g q w);have ah:0<L b.stack:=by rw[aa];simp
     obtain⟨aK,aR,rfl,-,a1⟩:=IM B.sk ah;have aN:=B.m.at 2 rfl;have a5:=a1 0 ah;have z:HR b=R #[V .i32 x,A true]:=by rw[HR,if_neg w,aa];rfl
     rw[aa]at a5;simp only[BX,Aqv,List.getElem?_cons_zero]at a5;rw[z]at t;have ae:=O0 z;have bf:(0:Int)<(L b.stack:Int):=O1;clear hrel k H g B z a1 aa ah;go_wp2;go_ret2
     exact⟨b,am.o,q,ae.o▸t.o⟩
theorem WI:∀(a:List (Cg×X)) r (_:r<L a) y,((((((a.flatMap DK).set (r*5) (V .u8 y.1.kind)).set (r*5+1) (V C y.1.n)).set (r*5+2) (V .i32 y.1.left)).set (r*5+3) (V .i32 y.1.right)).set (r*5+4) y.2)=(a.set r y).flatMap DK
 |x::a,0,_,y=>rfl
 |x::a,r+1,hr,y=>by
  rw[AC,Arl,AC,<-WI a r (by simpa using hr) y];have e:∀b d c,(DK x++b).set ((r+1)*5+d) c=DK x++b.set (r*5+d) c:=λb d c=>by
   rw[Atb _ _ (by simp[DK];omega)];congr 2
   simp[DK];omega
  have f:=λb c=>e b 0 c;grind
theorem Uv(b:Q)(a:Addr):b.drew.cell? a=b.cell? a:=rfl
theorem BH.cI{p:X}(d:BH w n s m c nc w8 b i p M wu){r:Nat}(U:r<L c.cells)(g:Int):∃a q h,r<q/\b=W (I ⟨a,0,N⟩) q h/\(∀f,f<5->(∃z,n.cell? ⟨a,r*5+f,N⟩=I z)/\n.frozen? ⟨a,r*5+f,N⟩=false)/\∀l,l=((((n.setCell ⟨a,r*5,N⟩ (V .u8 5)).setCell ⟨a,r*5+1,N⟩ (V C 0)).setCell ⟨a,r*5+2,N⟩ (V .i32 g)).setCell ⟨a,r*5+3,N⟩ (V .i32 0)).setCell ⟨a,r*5+4,N⟩ (W N 0 0)->BH w l s m {c with cells:=c.cells.set r ⟨5,0,g,0,[]⟩} (nc.set r (⟨5,0,g,0,[]⟩,W N 0 0)) w8 b i p M wu/\AF (mB s b i M wu) n l:=by
 have O:(L nc)=L c.cells:=by rw[<-d.EI,Ax]
 rcases id d.cl.2 with⟨-,E⟩|⟨a,h,D,x,G⟩
 ·omega
 have j:=d.cl;subst x;have H:=XH nc;have o:=((((((j.stored (r*5) (V .u8 5)).1.stored (r*5+1) (V C 0)).1.stored (r*5+2) (V .i32 g)).1.stored (r*5+3) (V .i32 0)).1.stored (r*5+4) (W N 0 0)).1);rw[WI nc r O1 (⟨5,0,g,0,[]⟩,W N 0 0)]at o;have e:a∈vB (W (I ⟨a,0,N⟩) (L nc) h):=by rw[DV];simp
 obtain⟨t,y⟩:=d.fZ (((((AF.refl.set (.inl e) _).set (.inl e) _).set (.inl e) _).set (.inl e) _).set (.inl e) _) (by rw[Ar1];exact o) (λB k=>by
  rcases Atg k with k|rfl
  ·exact d.fl B k
  ·exact⟨N,0,rfl,λY v=>absurd v nofun⟩)
 rw[List.map_set,d.EI]at t;refine⟨a,L nc,h,O1,rfl,λf K=>⟨⟨_,(j.cellAt (r*5+f) ?_).trans (AA ?_)⟩,j.frozenAt _⟩,λ_ u=>u▸⟨t,y⟩⟩<;>omega
def Ra(b:Nat)(c:Int)(a:Bq):Bq:={a with cells:=a.cells.set b ⟨5,0,c,0,[]⟩}
theorem Ajg{O:Nat}{w:Q}{M z:Nat}{b:Bq}(d:MM O w M z b y)(t:EV b)(k:DC b=true){h:Nat}(ah:b.fr.at_=(h:Int))(al:h<L b.fr.code)(aG:h<=1000000000)(a0:b.fr.code[h].op=5)(aI:(L b.stack)<=1000000000){s:List Int}{x:Int}(K:b.stack=s++[x]){j r:Nat}(ay:b.fr.code[h].a=(j:Int))(az:j<L s)(am:s[L s-1-j]?=I (r:Int))(aJ:r<L b.cells):
 Av Aa 99 #[J (I ⟨M,0,N⟩)] w λp l=>BL O M z y w (Ra r x (BQ 1 (Cn (BR b)))) (R #[]) p l:=by
 have ac:=O0 (Qi d t k ah al);have i:(BQ 1 (Cn (BR b))).stack=s:=by rw[D3 k];simp[BQ,Cn,K]
 have aF:(BQ 1 (Cn (BR b))).cells=b.cells:=by rw[D3 k];rfl
 have a1:(Cn (BR b)).stack=s++[x]:=by rw[D3 k];exact K
 have aL:(L s)+1<=1000000000:=by grind
 generalize hs1:Cn (BR b)=s1 at*;clear d k t ah K;go_enter Tryz.func99,Tryz.ntmps99;go_wp2_with (first
  |(go_at_call 50;refine ac.o.mono ?_;rintro p bb ⟨rfl,e,n,c,a5,aH,aC,aD,aE,ae,B,ai,aj,H,af,ag⟩;rw[AA al,Arn]at ae B;rw[a0]at ae;rw[ay]at B;rw[hs1]at H;have ar:=O0 H;have aa:=O0 af;have ab:=O0 ag;clear ac H af ag))
 go_region
 go_wp2_with (first
  |(go_at_call 152;refine(OK ar.o a1 O6).mono ?_;rintro p Y ⟨rfl,q,a6,⟨a7,a9,a8,aP,aO,aB,aQ,d,rfl⟩,G⟩))
 have ap:=DA (q.block e aj ai) B;obtain⟨g,aq,aw,aK,rfl,f,an⟩:=d.cI (r:=r) O6 x;obtain⟨D,ax,rfl,-,ak⟩:=IM d.sk (by rw[i];omega);obtain⟨⟨u0,aW⟩,be⟩:(∃a4,Y.cell? ⟨g,r*5,N⟩=I a4)/\Y.frozen? ⟨g,r*5,N⟩=false:=f 0 O1;obtain⟨⟨aR,aX⟩,bf⟩:=f 1 O1;obtain⟨⟨aS,aY⟩,bg⟩:=f 2 O1;obtain⟨⟨aT,aZ⟩,bh⟩:=f 3 O1;obtain⟨⟨aV,ba⟩,bi⟩:=f 4 .refl;have a2:=d.m.at 1 rfl;have ao:=d.m.at 2 rfl;simp only[i]at ao;have a3:Y.cell? ⟨D,L s-1-j,N⟩=I (V .i32 (r:Int)):=(ak _ (by rw[i];omega)).trans (by simp[BX,i,am]);obtain⟨u,U⟩:=an _ rfl;have E:=u.sk.cellAt (L s-1-j) O6;simp only[BX,i,Arc,am,Ati]at E;have ad:=O0 (Aq4 (u.m.at 1 rfl) (Aq4 (DA (U.block e (Aj aj q.size) λt=>(G e t).elim ai λd=>O1) ap) E));have v:O9 (BL O M z y w (Ra r x (BQ 1 s1)) (R #[]) (F (R #[])) _):=H3 (Jz (aa.o.trans q ab.o) (λe hb=>(G e hb).elim (ab.o e) λd=>.inr (Aw aa.o.size d)) ⟨u,U,λ_ hb=>.inl hb⟩);have au:=O0 λ(av:Q) h2=>Kr (w:=av) (M:=M) (g:=D) (c:=ax) (n:=L s) j h2 az O1;have aM:(0:Int)<=(r:Int):=O1;have aN:(r:Int)<(aq:Int):=O1;clear d f an ak u U E q G;go_region_held_law (λl=>l.cell? ⟨M,1,N⟩=I (W (I ⟨g,0,N⟩) aq aw)/\l.cell? ⟨e,h*3+1,N⟩=I (V C (j:Int))/\l.cell? ⟨D,L s-1-j,N⟩=I (V .i32 (r:Int))) (first|(with_reducible exact ad.o)|((try simp only[Uv]);with_reducible first|exact⟨a2,ap,a3⟩|exact ad.o))
  (first
   |(go_at_call 146;refine(au.o _ (by exact ao)).mono ?_;rintro p bc ⟨rfl,rfl⟩))
 all_goals(try go_wp2)
 all_goals
  refine bF ?_ O2 rfl rfl;first|(with_reducible exact v.o)|(with_reducible exact v.o.drew)|(with_reducible exact v.o.drew.drew)
def GP(a b c:Int):Cg:=⟨if PI a then 3 else 1,Lm a b c,0,0,[]⟩
structure JQ where
 s:List Int
 g:Int
 at_:Int
structure Br where
 cells:List Cg
 now:JQ
 BF:List JQ
 fuel:Int
 spare:Int
 kind:Int
 steps:Int
 used:Int
 ended:Bool
def BE(b:Int)(a:Br):Br:=if a.ended then a else {a with ended:=true,kind:=b}
def Cw(a:List Int)(b:Br):Br:={b with now:={b.now with s:=a}}
def Ce(a:Br):Bool:=!a.ended && decide (a.steps≠a.fuel)
def CP(a:Br):Br:=if a.steps=a.fuel then BE 1 a else if a.ended then a else {a with steps:=a.steps+1}
def Ch(b:Int)(a:Br):Bool:=decide (a.used+b<=a.spare)
def Cp(b:Int)(a:Br):Br:=if Ch b a then {a with used:=a.used+b} else BE 2 a
def Aix(b:Cg)(a:Br):Br:={a with cells:=a.cells++[b]}
def E3(b:Cg)(a:Br):Br:=Cw (a.now.s++[(L a.cells:Int)]) (Aix b a)
def JB(d:Int)(e:List Int)(c b:Cg)(a:Br):Br:=
 if c.kind≠1\/b.kind≠1 then BE 3 a else if NC d b.n=false then BE 6 a else if Ch 1 a=false then BE 2 a else E3 (GP d c.n b.n) (Cw e (Cp 1 a))
end Go.Proofs.YtcacpmkdfnmhaaaGreatDoor
