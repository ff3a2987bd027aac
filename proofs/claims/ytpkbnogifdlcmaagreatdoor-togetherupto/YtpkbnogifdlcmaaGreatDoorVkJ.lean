import Derived.Test.YtpkbnogifdlcmaaGreatDoorXbJ
import Derived.RegionTactic
import Derived.ChangeAlike
import Derived.Deep.LoopGhost
set_option linter.unusedSimpArgs false
set_option maxRecDepth 100000
set_option maxHeartbeats 8000000
open Except renaming error->P
open Go renaming Calls->Az,TypeId->A0,Value->X,World->Q,undef->Aw7
open Go.Ending renaming returned->F
open Go.IntKind renaming i64->C
open Go.Obj renaming cells->AW
open Go.Proofs.Tryz renaming prog->Aa
open Go.RowKit renaming wrap64->Bf
open Go.Value renaming agg->T,bool->A,iface->Z,int->V,pointer->J,slice->W,string->S,tuple->R
open Go.World renaming news_of_block->A5
open List renaming length->L
open Option renaming none->N,some->I
open Or renaming inl->Be,inr->Axf
namespace Go.Proofs.YtpkbnogifdlcmaaGreatDoor
open Go.RowKit Go.Sort Go.Lib Go.Proofs.Tryz
variable{w s b j wf:Nat}{wo:Ex}{n q Y n4:World}{M:Nat->Addr}{p y e G:Value}{w4:Bool}{m w0:Oy}{U:Option Addr}{vd h:Bs}{vj:FP}{we:List IT}{wc:List DT}{x7:DD}{sb:Oy×List IT×List DD}{xl:Nat×Nat}{v9:Obj}{v0:List DD}{wa:Type}{w6:Program}
theorem Ajw(a:Ew (w+1) wo):(Ch wo).length<=10000:=by
 obtain⟨⟨b,c,-⟩,-⟩:=a;cases wo<;>simp[Ch,BK,CA]at b c ⊢<;>omega
theorem Aoq{Gn:Bs}(r:Hx n q w M p Gn vj)(aj:C1 q w (W U j wf) vd)(ao:(L vd)<=100000)(am:(L Gn)<=100000):
 Az Aa 89 #[J (I ⟨w,0,N⟩),Z 131 (T #[.string m,V C (b:Int)]),W U j wf] q λd t=>Ot w p M q (Ei vj (gE (HQ Gn) (s+1) (vd.map (·.1)) (.Bo w4 m b))) d t:=by
 obtain⟨D,B,rfl,-⟩:=r.g.cap;have aq:=Agt;have ap:=V9;have a0:=r.ls.lt;have l:Ow q (q.alloc (AW #[.string m,V C (b:Int)] 131)).drew:=GW bA;have k:=r.bG l;have ah:(q.alloc (AW #[.string m,V C (b:Int)] 131)).drew.cell? ⟨q.heap.size,0,N⟩=I (.string m):=O2;have an:(q.alloc (AW #[.string m,V C (b:Int)] 131)).drew.cell? ⟨q.heap.size,1,N⟩=I (V C (b:Int)):=O2;have ag:=k.ls.c0;have al:=O0 (Pm vd _ m _ ao (aj.bG l).nm);have ak:=O0 (λad (hb:Below (q.alloc (AW #[.string m,V C (b:Int)] 131)).drew.heap.size (q.alloc (AW #[.string m,V C (b:Int)] 131)).drew ad)=>Pm Gn _ m ad am (k.bG hb).g.nm);have h:=O0 l;have ai:gE (HQ Gn) (s+1) (vd.map (·.1)) (.Bo w4 m b)=if CV m (vd.map (·.1)) 0=true then [] else if CV m (Gn.map (·.1)) 0=true then [] else [(4,b)]:=by
  rw[gE];simp only[fN,Ch,Axl,A6,HQ];rfl
 rw[ai];obtain⟨Y,K⟩:∃ay,Ei vj (if CV m (vd.map (·.1)) 0=true then [] else if CV m (Gn.map (·.1)) 0=true then [] else [(4,b)])=ay:=⟨_,rfl⟩;rw[K];have x:=O0 K;clear r aj ai l K;go_enter func89,ntmps89;go_upto_region 1 with(fail)
 refine wp_region_held_drew (S:=(λt=>t.cell? ⟨q.heap.size,0,N⟩=I (.string m)/\t.cell? ⟨w,0,N⟩=I (W D (L Gn) B))) (by rfl) ⟨ah,ag⟩ (λG=>?_);iterate 5
  refine Ld (v:=?_) [0,1,2,3,4] rfl rfl rfl O3 O3 O3 (λ_ _ _ a=>a) (Be ⟨by rfl,?_⟩) O7 ?_;rotate_left
  ·intro q ⟨hs1,hs2⟩;(go_simp<;>with_reducible rfl)
  simp only[Act.put,Axh,Axp,Axn]
 refine wpAnyH_ready (rs:=[5]) O3 O2 ?_;refine AllReadyH.cons rfl (λz e=>?_) AllReadyH.nil;go_simp;go_wp2_with (first
  |(go_at_call 85;refine al.o.mono ?_;rintro d aw ⟨rfl,f⟩;have k0:=Bu f ah;have au:=Bu f ag;have av:=Bu f an;have c:=O0 f;clear f))
 refine e.out _ _ ?_ (λG=>?_)
 ·grind
 clear e z;cases h1:CV m (vd.map (·.1)) 0;case' true=>
  iterate 3
   refine Ld (v:=?_) [6,7,8] rfl rfl rfl O3 O3 O3 (λ_ _ _ a=>a) (Be ⟨by rfl,?_⟩) O7 ?_;rotate_left
   ·intro q ⟨hs1,hs2⟩;(go_simp<;>with_reducible rfl)
   simp only[Act.put,Axh,Axp,Axn]
  iterate 8
   refine Ld (v:=Aw7) [9,10,11,12,13,14,15,16] rfl rfl rfl O3 O3 O3 (λ_ _ _ a=>a) (Axf ⟨by rfl,rfl⟩) O7 ?_;simp only[Act.put,Axh,Axp,Axn]
  iterate 1
   refine Ld (v:=?_) [17] rfl rfl rfl O3 (by rfl) O3 (λ_ _ _ a=>a) (Be ⟨by rfl,?_⟩) G ?_;rotate_left
   ·intro q ⟨hs1,hs2⟩;(go_simp<;>with_reducible rfl)
   simp only[Act.put,Axh,Axp,Axn]
  have i:=O0 (EF.bW (E:=w) (h.o.trans (c.o.mono h.o.size)));have u:O9 (LS aw w (W D (L Gn) B) M Y):=by
   rw[<-x.o,if_pos h1];exact(k.bG c.o).ls
  clear h1
 case' false=>
  iterate 9
   refine Ld (v:=?_) [6,7,8,9,10,11,12,13,14] rfl rfl rfl O3 O3 O3 (λ_ _ _ a=>a) (Be ⟨by rfl,?_⟩) O7 ?_;rotate_left
   ·intro q ⟨hs1,hs2⟩;(go_simp<;>with_reducible rfl)
   simp only[Act.put,Axh,Axp,Axn]
  refine wpAnyH_ready (rs:=[15]) O3 O2 ?_;refine AllReadyH.cons rfl (λz e=>?_) AllReadyH.nil;go_simp;go_wp2_with (first
   |(go_at_call 85;refine(ak.o _ c.o).mono ?_;rintro d ax ⟨rfl,g⟩;have a1:=Bu g k0;have a2:=Bu g au;have a3:=Bu g av;have aa:=c.o.trans (g.mono c.o.size);clear g))
  refine e.out _ _ ?_ (λG=>?_)
  ·grind
  clear e z;have i:=O0 (EF.bW (E:=w) (h.o.trans (aa.mono h.o.size)));have y:=O0 (k.bG aa);cases h2:CV m (Gn.map (·.1)) 0;all_goals
   iterate 2
    refine Ld (v:=?_) [16,17] rfl rfl rfl O3 O3 O3 (λ_ _ _ a=>a) (Be ⟨by rfl,?_⟩) O7 ?_;rotate_left
    ·intro q ⟨hs1,hs2⟩;(go_simp<;>with_reducible rfl)
    simp only[Act.put,Axh,Axp,Axn]
  all_goals
   first
   |have u:O9 (LS ax w (W D (L Gn) B) M Y):=(by rw[<-x.o,if_neg (by simp[h1]),if_pos h2];exact y.o.ls)
    clear h1 h2
   |have ab:=O0 (XY 5 b y.o.ls)
    have az:=y.o.pb.sy.nm;rw[show KF vj 5 b=Y by rw[<-x.o,if_neg (by simp[h1]),if_neg (by simp[h2])];rfl]at ab;clear h1 h2
 all_goals
  refine wpAnyH_done O3 ?_ _;go_wp2_with (first
   |(go_at_call 88;refine ab.o.mono ?_;rintro d a6 ⟨rfl,ae,af⟩;replace i:=O0 (i.o.trans ae);have u:=O0 af;clear ae af)
   |(go_at_call 322;refine(Abw m (b:Int) _).mono ?_;intro d w5 H;have ac:=O0 H;obtain⟨a5,a4,rfl⟩:=H.slice;clear H))
  clear aq ap;go_loopw [41] (λar wr=>ar=V C 0/\wr=w5) (λ_ _=>0)
  ·exact⟨rfl,rfl⟩
  ·obtain⟨rfl,O⟩:=hrel;replace O:=O.symm
   subst O;go_wp2;refine bE ?_;exact⟨rfl,i.o.trans (EF.bW ac.o.1),u.o.below ac.o.1⟩
theorem Av1{Gn:Bs}(f:(L Gn)<=100000)(h:OE n w M p Gn s):SN n w M p Gn (s+1):=by
 intro H G t r z x D c d b j m e a k;obtain⟨y,v,rfl,-⟩:=a.cap;rcases Ab7 d b m e with⟨u,E,B,rfl,rfl⟩|⟨l,q,K,o,rfl,g,i⟩
 ·exact Aoq c a O1 f
 ·exact Ahv h c d b j l g i a k (Ajw e)
theorem Amm{Gn:Bs}:SN n w M p Gn 0:=λ_ _ _ _ _ _ _ _ a=>a.elim
theorem Zv{c:Q}{d:Nat}{e:Nat->Addr}{f:X}{Gn:Bs}(b:(L Gn)<=100000):∀a,OE c d e f Gn a
 |0=>Ab5 Amm
 |a+1=>Ab5 (Av1 b (Zv b a))
theorem Mr(a:Below w n q)(hb:w<=s)(e:X):Below w n (q.setCell ⟨s,b,N⟩ e):=
 ⟨a.os,a.tape,a.output,by simpa using a.size,λc d=>by rw[AA _ _ _ _ (show c≠s by omega)];exact a.block c d⟩
structure H0 (a:Q) (c:Nat->Addr) (f e d:X) (wr:Q) (b:X) (Gn:Bs):Prop where
 ls:LS wr (a.heap.size+1) b c N
 g:Dy wr (a.heap.size+2) b Gn
 m:V3 wr a.heap.size f e d
 low:Ow a wr
theorem LS.eY(b:LS n w p M vj)(c:X):LS (n.setCell ⟨w,0,N⟩ c) w c M vj:=by
 have d:∀a,a≠0->(n.setCell ⟨w,0,N⟩ c).cell? ⟨w,a,N⟩=n.cell? ⟨w,a,N⟩:=λa e=>Ah _ _ _ _ (Cv (Aym e));exact⟨Au _ _ _ b.c0,by rw[d _ O1];exact b.c1,by rw[d _ O1];exact b.c2,λa=>by rw[Aq];exact b.f a⟩
theorem H0.next{wr X w2:Q}{Gn:Bs}(b:H0 n M p y e wr G Gn)(g:Ow wr X){ob:Obj}(h:(X.alloc ob).grownBy w2 G.ownBlock){f c:Nat}(r:G.ownBlock=I f\/f=(X.alloc ob).heap.size)(t:f<w2.heap.size){x:Oy×Nat}(u:w2.ownsRow 0 131 2 (W (I ⟨f,0,N⟩) (L Gn+1) c) (L Gn+1) (Gn.flatMap wC++[S x.1,V C (x.2:Int)])):H0 n M p y e (w2.setCell ⟨n.heap.size+1,0,N⟩ (W (I ⟨f,0,N⟩) (L Gn+1) c)) (W (I ⟨f,0,N⟩) (L Gn+1) c) (Gn++[x]):=by
 have q:=b.ls.lt;have z:=g.size;have w:=h.size;have B:(X.alloc ob).heap.size=X.heap.size+1:=O2;have v:=λa d=>(b.g.rg a (Ad _ (Ca.2 d))).1;have i:∀a,a<wr.heap.size->G.ownBlock≠I a->w2.heap[a]?=wr.heap[a]?:=λa l o=>by
  rw[h.block a O1 (λd=>o d.symm),Axo _ _ O1];exact g.block a l
 have j:=(b.g.bG EK g).cW EK O1 trivial h r t u;refine⟨(b.ls.bX (i _ q (λd=>O6))).eY _,?_,(b.m.bX (i _ O1 (λd=>O6))).bX (AA _ _ _ _ (show n.heap.size≠n.heap.size+1 by omega)),?_⟩
 ·refine Cm.fr EK j O2 λa hb=>AA _ _ _ _ ?_;have:=(j.rg a hb).1;grind
 ·refine Mr ?_ O1 _;exact⟨h.os.trans (g.os.trans b.low.os),h.tape.trans (g.tape.trans b.low.tape),h.output.trans (g.output.trans b.low.output),O1,λk s=>by
   rw[i k O1 (λd=>O6)];exact b.low.block k s⟩
theorem H0.kept{wr:Q}{Gn:Bs}(a:H0 n M p y e wr G Gn)(b:Ow wr Y){c:Obj}(h:(Y.alloc c).grownBy n4 G.ownBlock):LS n4 (n.heap.size+1) G M none:=by
 have f:=a.ls.lt;have i:=b.size;have j:(Y.alloc c).heap.size=Y.heap.size+1:=O2;apply a.ls.bX;rw[h.block _ O1 (λd=>by have:=(a.g.rg _ (Ad _ (Ca.2 d.symm))).1;omega),Axo _ _ O1];exact b.block _ f
def luV(b:Nat->Addr):FP->X
 |none=>.nilIface
 |some (k,a)=>Fu b k a
def dF(Gn:Bs)(a:(Oy×Nat)×Bs×Ex):List (Nat×Nat):=fK 0 a.2.1++gE (HQ Gn) 31 (a.2.1.map (·.1)) a.2.2
def KW(b:List IT)(a:List DD):Bs:=b.map (·.1)++a.map (·.1)
theorem Alc(g:I0 n w (W U s b) we){a:Nat}(h:a<L we):∃c,U=I ⟨c,0,N⟩/\n.cell? ⟨c,a*3,N⟩=I (.string we[a].1.1)/\n.cell? ⟨c,a*3+1,N⟩=I (V C (we[a].1.2:Int))/\n.cell? ⟨c,a*3+2,N⟩=I (V C (we[a].2:Int)):=by
 obtain⟨c,j,i,-,-⟩:=g.own.form O1;have f:=g.own;cases i;have e:=Pk (λd:IT=>(S d.1.1)) (λd=>V C d.1.2) (λd=>V C d.2) we a h;refine⟨c,rfl,?_,?_,?_⟩
 ·rw[f.cellAt (a*3) O1];exact e.1
 ·rw[f.cellAt (a*3+1) O1];exact e.2.1
 ·rw[f.cellAt (a*3+2) O1];exact e.2.2
theorem Acl(g:Ie n w (W U s b) wc){a:Nat}(h:a<L wc):∃c,U=I ⟨c,0,N⟩/\n.cell? ⟨c,a*4,N⟩=I (.string wc[a].1.1)/\n.cell? ⟨c,a*4+1,N⟩=I (V C (wc[a].1.2:Int))/\n.cell? ⟨c,a*4+2,N⟩=I wc[a].2.1/\n.cell? ⟨c,a*4+3,N⟩=I wc[a].2.2.2.1:=by
 obtain⟨c,j,i,-,-⟩:=g.own.form O1;have f:=g.own;cases i;have e:=U4 (λd:DT=>(S d.1.1)) (λd=>V C d.1.2) (λd=>d.2.1) (λd=>d.2.2.2.1) wc a h;refine⟨c,rfl,?_,?_,?_,?_⟩
 ·rw[f.cellAt (a*4) O1];exact e.1
 ·rw[f.cellAt (a*4+1) O1];exact e.2.1
 ·rw[f.cellAt (a*4+2) O1];exact e.2.2.1
 ·rw[f.cellAt (a*4+3) O1];exact e.2.2.2
theorem W4(e:Ie n w p wc){a:Nat}(f:a<L wc):∃i h g c d,wc[a].2.1=W i h g/\wc[a].2.2.2.1=Z c d:=by
 have b:=e.it _ (Ao f);let ⟨m,j,k⟩:=b.1.slice
 let ⟨o,q,l⟩:=PX.ch b.2
 grind
structure OP (a:Q) (b:Nat->Addr) (f e c:X) (wr:Q) (d:X) (Gn:Bs) (g:FP):Prop where
 lk:Hx a wr (a.heap.size+1) b d Gn g
 m:V3 wr a.heap.size f e c
theorem H0.df{wr:Q}{Gn:Bs}(a:H0 n M p y e wr G Gn)(c:SY n M):OP n M p y e wr G Gn none:=
 ⟨⟨⟨c,a.low,O1⟩,a.ls,C1.ce a.g λb=>by have:=(a.g.rg _ (Ad _ (Ca.2 b))).1;omega⟩,a.m⟩
theorem OP.step{wr:Q}{Gn:Bs}(a:OP n M p y e wr G Gn vj)(u:(L Gn)<=100000)(h:Ie n w e wc)(k:s<L wc)(q:Ds 31 wc[s].2.2.2.2.1/\Ew 31 wc[s].2.2.2.2.1/\wc[s].2.2.1.length<=2000)(f:Obj):
 Az Aa 49 #[J (I ⟨n.heap.size+1,0,N⟩),T #[wc[s].2.2.2.1,wc[s].2.1],W N 0 0] (wr.alloc f) λg r=>g=F (R #[])/\OP n M p y e r G Gn (Ei vj (dF Gn (wc[s].1,wc[s].2.2.1,wc[s].2.2.2.2.1))):=by
 have hb:Ow wr (wr.alloc f):=bA;have l:=a.lk.pb.b;have j:=l.trans (hb.mono l.size);have o:=(h.bG Hc j).it _ (Ao k);have d:=λb x=>(h.rg b (Aj _ (AU.2 ⟨_,Ao k,x⟩))).2;have z:=j.size;apply (Zv u 31 (wr.alloc f) wc[s].2.2.2.1 wc[s].2.2.2.2.1 wc[s].2.2.2.2.2 wc[s].2.1 wc[s].2.2.1 (W N 0 0) [] vj (a.lk.bG hb) o.2 (λc=>by have:=d _ (Aj _ c);omega) (λb c=>by have:=d b (Aj _ c);omega) q.1 q.2.1 (C1.ce o.1 λt=>by have:=d _ (Ad _ (Ca.2 t));omega) (C1.nil _ _) O6).mono;rintro g r ⟨rfl,i,v⟩;exact⟨rfl,(a.lk.bG hb).ef i v,(a.m.bG hb).ef i O1⟩
theorem Am9{t:Oy}(aT:SY n M)(aS:I0 n w p we)(ab:Ie n w y wc)(b1:(L we)<=2000)(b0:(L wc)<=2000)(bo:∀x∈wc,Ds 31 x.2.2.2.2.1/\Ew 31 x.2.2.2.2.1/\L x.2.2.1<=2000):
 Az Aa 28 #[T #[S t,p,y]] n λaP bu=>aP=F (luV M (Ei N ((wc.map Df).flatMap (dF (KW we (wc.map Df))))))/\Ow n bu:=by
 obtain⟨B,r,rfl⟩:=aS.slice;obtain⟨z,l,rfl⟩:=ab.slice;have bi:=O0 aT;clear aT;obtain⟨ba,a5,aW⟩:=AB.1 L4;simp only[Aw0]at aW;obtain⟨a2,a3,a4⟩:=aW;obtain⟨ax,bn⟩:∃ax,ax=W B (L we) r:=⟨_,rfl⟩;obtain⟨aw,bm⟩:∃aw,aw=W z (L wc) l:=⟨_,rfl⟩;have bh:O9 (H0 n M (S t) (W B (L we) r) (W z (L wc) l) ((n.alloc (.cells #[S t,W B (L we) r,W z (L wc) l] 45)).alloc (.cells #[W N 0 0,.nilIface,V C 0] 138)) (W N 0 0) []):=by
  refine⟨⟨?_,?_,?_,λbq=>?_⟩,Cm.nil _ _,⟨?_,?_,?_,λbq=>?_⟩,bA.alloc O2 _⟩<;>simp[M2,NL]
 clear bn bm ax aw;go_enter func28,ntmps28;go_wp2;go_loopw [13] (λk wr=>∃(a:Nat) (f:Option Addr) (e:Nat),a<=L we/\k=V C (a:Int)/\O9 (H0 n M (S t) (W B (L we) r) (W z (L wc) l) wr (W f a e) ((we.take a).map (·.1)))) (λk _=>L we-(intOf k).toNat)
 ·grind
 ·clear bh;obtain⟨a,f,e,aX,rfl,d⟩:=hrel;rename Q=>wr
  by_cases i:a<L we
  ·have aQ:(0:Int)<=(a:Int):=O1;have aR:(a:Int)<(L we:Int):=O1;obtain⟨av,rfl,c0,Y,aa⟩:=Alc (aS.bG JB d.o.low) i;obtain⟨ao,H,K,ap⟩:=d.o.ls;have D:((we.take a).map (·.1)).length=a:=by simp;omega
   have ar:O9 (wr.ownsRow 0 131 2 (W f a e) a (((we.take a).map (·.1)).flatMap wC)):=by
    have:=d.o.g.own;rw[D]at this;exact this
   have v:O9 (∀(g:Q) (u O:Obj) (h j:Nat),((wr.alloc u).alloc O).grownBy g (W f a e).ownBlock->((W f a e).ownBlock=I h\/h=((wr.alloc u).alloc O).heap.size)->h<g.heap.size->g.ownsRow 0 131 2 (W (I ⟨h,0,N⟩) (a+1) j) (a+1) (((we.take a).map (·.1)).flatMap wC++[.string we[a].1.1,V C (we[a].1.2:Int)])->LS g (n.heap.size+1) (W f a e) M N/\H0 n M (S t) (W (I ⟨av,0,N⟩) (L we) r) (W z (L wc) l) (g.setCell ⟨n.heap.size+1,0,N⟩ (W (I ⟨h,0,N⟩) (a+1) j)) (W (I ⟨h,0,N⟩) (a+1) j) ((we.take (a+1)).map (·.1))):=by
    intro g u O h j ai q a6 G;have ah:Ow wr (wr.alloc u):=bA;refine⟨d.o.kept ah ai,?_⟩;have:=d.o.next ah ai q a6 (x:=we[a].1) (c:=j) O6;rw[D]at this;rwa[Av i,AC]
   obtain⟨aG,am⟩:∃aG,we[a]=aG:=⟨_,rfl⟩;obtain⟨⟨s,ia⟩,bp⟩:=aG;rw[am]at c0 Y aa v;simp only at c0 Y aa v;have bb:=λaF=>BM wr aF _ _ _ ao;clear am D H K ap;generalize ((we.take a).map (·.1)).flatMap wC=XS at*;go_wp2_with (first
    |(at_builtin;refine wpList_append_lies _ rfl (.tmp 18) (.tmp 21) 78 rfl 0 131 ba _ 2 24 underlying78 a5 a2 a3 a4 rfl O1 (W f a e) a XS rfl ((ar.o.alloc _).alloc _) ⟨wr.heap.size+1,0,N⟩ 1 1 [S s,V C (ia:Int)] rfl rfl (by simpa using A5 (AM (wr.alloc (AW #[S s,V C (ia:Int),V C (bp:Int)] 140)) (AW #[S s,V C (ia:Int)] 131))) (by intro bt al;simp at al;rcases al with rfl|rfl<;>rfl) O1 O8 O1 (Ai _) _ rfl ?_;intro az a9 g G aj q ak;have E:=v.o g _ _ az a9 aj q ak G;obtain⟨⟨br,a7,a8,an⟩,E⟩:=E;have bs:=an 0;clear G aj q ak an a7 a8))
   exact⟨⟨a+1,_,_,O1,by go_num,E⟩,by simp[intOf];omega⟩
  ·obtain rfl:a=L we:=O1;have aV:¬(L we:Int)<(L we:Int):=O1;obtain⟨aB,aC,aD,aE⟩:=d.o.m;clear aE;have aL:O9 (H0 n M (S t) (W B (L we) r) (W z (L wc) l) wr (W f (L we+0) e) (we.map (·.1)++(wc.take 0).map (·.1))):=by
    grind
   clear d;go_wp2;clear aB aC aD;go_loopw [28] (λk wr=>∃(a:Nat) (f:Option Addr) (e:Nat),a<=L wc/\k=V C (a:Int)/\O9 (H0 n M (S t) (W B (L we) r) (W z (L wc) l) wr (W f (L we+a) e) (we.map (·.1)++(wc.take a).map (·.1)))) (λk _=>L wc-(intOf k).toNat)
   ·exact⟨0,f,e,Ai _,rfl,aL.o⟩
   ·clear aL;obtain⟨a,f,e,aX,rfl,d⟩:=hrel;rename Q=>wr
    by_cases i:a<L wc
    ·have aQ:(0:Int)<=(a:Int):=O1;have aR:(a:Int)<(L wc:Int):=O1;obtain⟨av,rfl,c0,Y,aa,ay⟩:=Acl (ab.bG Hc d.o.low) i;obtain⟨be,bd,bc,aN,aO,ae,af⟩:=W4 ab i;rw[ae]at aa;rw[af]at ay;obtain⟨ao,H,K,ap⟩:=d.o.ls;have D:(we.map (·.1)++(wc.take a).map (·.1)).length=L we+a:=by simp;omega
     have ar:O9 (wr.ownsRow 0 131 2 (W f (L we+a) e) (L we+a) ((we.map (·.1)++(wc.take a).map (·.1)).flatMap wC)):=by
      have:=d.o.g.own;rw[D]at this;exact this
     have v:O9 (∀(g:Q) (u O:Obj) (h j:Nat),((wr.alloc u).alloc O).grownBy g (W f (L we+a) e).ownBlock->((W f (L we+a) e).ownBlock=I h\/h=((wr.alloc u).alloc O).heap.size)->h<g.heap.size->g.ownsRow 0 131 2 (W (I ⟨h,0,N⟩) (L we+a+1) j) (L we+a+1) ((we.map (·.1)++(wc.take a).map (·.1)).flatMap wC++[.string wc[a].1.1,V C (wc[a].1.2:Int)])->LS g (n.heap.size+1) (W f (L we+a) e) M N/\H0 n M (S t) (W B (L we) r) (W (I ⟨av,0,N⟩) (L wc) l) (g.setCell ⟨n.heap.size+1,0,N⟩ (W (I ⟨h,0,N⟩) (L we+a+1) j)) (W (I ⟨h,0,N⟩) (L we+a+1) j) (we.map (·.1)++(wc.take (a+1)).map (·.1))):=by
      intro g u O h j ai q a6 G;have ah:Ow wr (wr.alloc u):=bA;refine⟨d.o.kept ah ai,?_⟩;have:=d.o.next ah ai q a6 (x:=wc[a].1) (c:=j) O6;rw[D]at this;rwa[Av i,AC,<-AG]
     obtain⟨s,ia,am⟩:∃s ia,wc[a].1=(s,ia):=⟨_,_,rfl⟩;rw[am]at c0 Y v;simp only at c0 Y v;have bb:=λaF=>BM wr aF _ _ _ ao;clear am D H K ap ae af;generalize (we.map (·.1)++(wc.take a).map (·.1)).flatMap wC=XS at*;obtain⟨ad,ag⟩:∃ad,ad=L we+a:=⟨_,rfl⟩;rw[<-ag]at ao bb ar v;have bz:ad<=4000:=O1;have bg:=O0 ag;clear ag;go_wp2_with (first
      |(at_builtin;refine wpList_append_lies _ rfl (.tmp 33) (.tmp 36) 78 rfl 0 131 ba _ 2 24 underlying78 a5 a2 a3 a4 rfl O1 (W f ad e) ad XS rfl ((ar.o.alloc _).alloc _) ⟨wr.heap.size+1,0,N⟩ 1 1 [S s,V C (ia:Int)] rfl rfl (by simpa using A5 (AM (wr.alloc (AW #[S s,V C (ia:Int),W be bd bc,Z aN aO] 144)) (AW #[S s,V C (ia:Int)] 131))) (by intro bt al;simp at al;rcases al with rfl|rfl<;>rfl) O1 O8 O1 (Ai _) _ rfl ?_;intro az a9 g G aj q ak;have E:=v.o g _ _ az a9 aj q ak G;obtain⟨⟨br,a7,a8,an⟩,E⟩:=E;have bs:=an 0;clear G aj q ak an a7 a8))
     have ag:=bg.o;subst ag;exact⟨⟨a+1,_,_,O1,by go_num,E⟩,by simp[intOf];omega⟩
    ·obtain rfl:a=L wc:=O1;have aV:¬(L wc:Int)<(L wc:Int):=O1;obtain⟨aB,aC,aD,aE⟩:=d.o.m;clear aE;have aY:we.map (·.1)++(wc.take (L wc)).map (·.1)=KW we (wc.map Df):=by
      unfold KW;rw[AP,A4];rfl
     have aI:O9 ((KW we (wc.map Df)).length<=100000):=by show _<=_;unfold KW;simp;omega
     have ac:=O0 (d.o.df bi.o);rw[aY]at ac;clear aY d a5 a2 a3 a4;obtain⟨U,a0⟩:∃bf,KW we (wc.map Df)=bf:=⟨_,rfl⟩;rw[a0]at aI ac;have aJ:=O0 a0;clear a0;go_wp2;clear aB aC aD;generalize W f (L we+L wc) e=GV at ac;go_loopw [43] (λk wr=>∃a:Nat,a<=L wc/\k=V C (a:Int)/\O9 (OP n M (S t) (W B (L we) r) (W z (L wc) l) wr GV U (Ei N (((wc.map Df).take a).flatMap (dF U))))) (λk _=>L wc-(intOf k).toNat)
     ·exact⟨0,Ai _,rfl,ac.o⟩
     ·clear ac;obtain⟨a,aX,rfl,d⟩:=hrel;rename Q=>wr
      by_cases i:a<L wc
      ·have aQ:(0:Int)<=(a:Int):=O1;have aR:(a:Int)<(L wc:Int):=O1;obtain⟨av,rfl,c0,Y,aa,ay⟩:=Acl (ab.bG Hc d.o.lk.pb.b) i;obtain⟨be,bd,bc,aN,aO,ae,af⟩:=W4 ab i;have au:=O0 (d.o.step aI.o ab i (bo _ (Ao i)));rw[ae]at aa au;rw[af]at ay au;have aK:O9 (Ei (Ei N (((wc.map Df).take a).flatMap (dF U))) (dF U (wc[a].1,wc[a].2.2.1,wc[a].2.2.2.2.1))=Ei N (((wc.map Df).take (a+1)).flatMap (dF U))):=by
        show _=_;rw[<-R9,Av (by simpa using i),AH,AD,Axl,A6,AN]
       rw[aK.o]at au;clear ae af aK;go_wp2_with (first
        |(go_at_call 49;refine(au.o _).mono ?_;rintro bx g ⟨rfl,aZ⟩;have bj:=O0 aZ;clear aZ))
       exact⟨⟨a+1,O1,by go_num,bj.o⟩,by simp[intOf];omega⟩
      ·obtain rfl:a=L wc:=O1;have aV:¬(L wc:Int)<(L wc:Int):=O1;have aq:=d.o;rw[show(wc.map Df).take (L wc)=wc.map Df by rw[Aw5 O2]]at aq;have aH:=O0 aq.lk.pb.b;obtain⟨ao,H,K,ap⟩:=aq.lk.ls;clear aq d ap;obtain⟨bl,a1⟩:∃bk,Ei N ((wc.map Df).flatMap (dF U))=bk:=⟨_,rfl⟩;rw[a1]at H K;have aM:=O0 a1;clear a1;rcases bl with _|⟨c,bw⟩
       ·simp only[M2,NL]at H K;go_wp2;go_ret;rw[aJ.o,aM.o];exact⟨rfl,aH.o⟩
       ·simp only[M2,NL]at H K;go_wp2_with (first
         |(go_at_call 25;refine(R0 _ _ _ _).mono ?_;rintro aP b2 ⟨rfl,rfl⟩))
        go_ret;rw[aJ.o,aM.o];exact⟨rfl,aH.o⟩
def OkD(a:DD):Prop:=Ds 31 a.2.2/\Ew 31 a.2.2/\L a.2.1<=2000
def dB(a:DD):List Nat:=a.2.1.map (·.2)++fB 31 a.2.2
def dU(a:DD):List Nat:=fU 31 a.2.2
structure U3 (b:Nat) (c:List IT) (a:List DD):Prop where
 len:(L c)+L a<=b
 ok:∀x∈a,OkD x
 ap:Ap (a.flatMap dB) (a.flatMap dU) 0 b
theorem Aqh(i:m.size<=2000)(o:w<=m.size)(a:Hf m h w=.ok (x7,s)):OkD x7/\Ap (dB x7) (dU x7) w s:=by
 let ⟨u,k,l,a⟩:=Bp a
 have j:=Rk w o u k l;let ⟨q,b,g,a⟩:=Bp a
 have f:=LJ k j.2 q b g;let ⟨d,c,e,a⟩:=Bp a
 have p:=I9 m 30 b f.2 d c e;let ⟨t,r,n,a⟩:=Bp a
 have v:=Cl O4 c p.2 t r n;cases a;refine⟨⟨We i 30 b d c f.2 e,YG i 30 b d c f.2 e,Abm i j.2 g⟩,?_⟩;exact((Xp j.2 g).b1 (Yd m 30 b d c f.2 e) O1 O1).sub (λ_ a=>a) (λ_ a=>Aj _ a) O1 O1
theorem UR{c:Oy}(q:c.size<=2000):∀(h:Nat) (m:Bs) (r:List IT) (n:List DD) (g:Nat) (e:List IT×List DD) (j:Nat),g<=c.size->U3 g r n->DN c h m r n g=.ok (e,j)->U3 c.size e.1 e.2
 |0,_,_,_,_,_,_,_,_,a=>by rw[DN]at a;cases a
 |h+1,m,r,n,g,e,j,hp,hi,a=>by
  rw[DN]at a;split at a
  ·rename_i t
   have k0:=H7 hp (by rw[t];decide);let ⟨D,k,b,a⟩:=Bp a
   have u:=Zh k0.2 b;match D,b,a with
   |.inl z,b,a=>
    refine UR q h _ _ _ k e j u.2 ⟨?_,hi.ok,hi.ap.sub (λ_ a=>a) (λ_ a=>a) .refl O1⟩ a;have:=hi.len;simp;omega
   |.inr d,b,a=>
    have p:∃i,i<=c.size/\BC c g<=i/\Hf c m i=.ok (d,k):=by
     unfold pG at b;split at b
     ·let ⟨z,v,_,o⟩:=Bp b
      cases o
     ·let ⟨w,v,o,x⟩:=Bp b
      have H:=Cl O4 _ k0.2 w v o;let ⟨l,M,E,G⟩:=Bp x
      grind
    let ⟨i,B,K,p⟩:=p
    let ⟨t,y⟩:=Aqh q B p
    refine UR q h _ _ _ k e j u.2 ⟨?_,λl f=>?_,?_⟩ a
    ·have:=hi.len;simp;omega
    ·rcases Ag.1 f with s|s
     ·exact hi.ok l s
     grind
    ·rw[AH,AH];refine(hi.ap.b1 (y.sub (λ_ a=>a) (λ_ a=>a) O1 (Ac _)) (Ai _) O1).sub (λl f=>?_) (λl f=>?_) .refl .refl
     ·simpa using f
     ·simpa using f
  ·let ⟨w,k,b,a⟩:=Bp a
   cases a;exact⟨Ay hi.len hp,hi.ok,hi.ap.sub (λ_ a=>a) (λ_ a=>a) .refl hp⟩
theorem Ak8(p:m.size<=2000)(o:w<=m.size)(a:EU m w=.ok (sb,s)):U3 m.size sb.2.1 sb.2.2:=by
 let ⟨z,d,k,a⟩:=Bp a
 have b:d<=m.size:=by
  let ⟨u,f,g,h⟩:=Bp k
  have b:=Cl O4 w o u f g;let ⟨v,t,i,j⟩:=Bp h
  have c:=Cl O4 f b.2 v t i;cases j;omega
 let ⟨x,e,l,a⟩:=Bp a
 have c:=Rk d b x e l;let ⟨y,r,n,a⟩:=Bp a
 have:=UR p (m.size+1) [] [] [] e y r c.2 ⟨Ai _,λsb q=>(by cases q),Ap.nil _ _⟩ n;grind
def JV(b:List IT)(a:List DD):List (Nat×Nat):=a.flatMap (dF (KW b a))
theorem Abv:∀c b,Ei (b.map λa=>(Cq a.1,a.2)) c=(IP b c).map λa=>(Cq a.1,a.2)
 |[],_=>rfl
 |a::r,b=>by
  show Ei (KF (b.map λa=>(Cq a.1,a.2)) (Cq a.1) a.2) r=(IP (Jx b a) r).map _;rw[<-Abv r];match b with
  |none=>rfl
  |some y=>
   simp[Azb,KF,Jx];split<;>rfl
def Dd(a:Oy):Except (Nat×Nat) (Oy×List IT×List DD):=
 if 2000<a.size then P (1,0) else
  match EU a 0 with
  |P e=>P e
  |.ok (x,_)=>match IP N (JV x.2.1 x.2.2) with
   |none=>.ok x
   |some e=>P e
def T3:X:=T #[S ⟨#[]⟩,W N 0 0,W N 0 0]
def WC(n:Oy)(m:Nat->Addr)(b:Q)(i:Ending)(d:Q):Prop:=Ow b d/\match Dd n with
 |P (c,a)=>i=F (R #[T3,Fu m (Cq c) a])
 |.ok (nm,im,df)=>∃j k e h l f g,i=F (R #[T #[S nm,W j k e,W h l f],.nilIface])/\I0 d b.heap.size (W j k e) im/\Ie d b.heap.size (W h l f) g/\g.map Df=df
theorem Akr(f:Se n b (W (I ⟨w,0,N⟩) (CH m 0).length s) (CH m 0)):PS (n.alloc (.cells #[W (I ⟨w,0,N⟩) (CH m 0).length s,W N 0 0,V C 0] 80)) n.heap.size w m 0 (W N 0 0) 0:=by
 have hb:Ow n (n.alloc (.cells #[W (I ⟨w,0,N⟩) (CH m 0).length s,W N 0 0,V C 0] 80)):=bA;have q:=f.rg w (Ad _ (Ca.2 rfl));have c:=f.own;have g:(CH m 0).length<=s/\s<=9223372036854775807:=by
  rcases c.2 with⟨a,-⟩|⟨o,k,l,a,-,-,p,i,-⟩
  ·cases a
  ·cases a;unfold maxLen at i;omega
 refine⟨⟨0,s,O2,g.1,g.2,O1,λd j=>?_⟩,O2,O2,λr _=>O2⟩;have h:=K2 (λe:Oy×Nat=>(S e.1)) (λe=>V C e.2) (CH m 0) d j;rw[Bg];refine⟨Bu hb ?_,Bu hb ?_⟩
 ·rw[c.cellAt (d*2) O1];exact h.1
 ·rw[c.cellAt (d*2+1) O1];exact h.2
theorem Agy(a:¬2000<m.size)(b:EU m 0=P xl):Dd m=P xl:=by unfold Dd;rw[if_neg a,b]
theorem Alv(a:¬2000<m.size)(b:EU m 0=.ok (sb,w))(c:IP N (JV sb.2.1 sb.2.2)=N):Dd m=.ok sb:=by unfold Dd;grind
theorem Ame(a:¬2000<m.size)(b:EU m 0=.ok (sb,w))(c:IP N (JV sb.2.1 sb.2.2)=I xl):Dd m=P xl:=by unfold Dd;grind
theorem Asn(a:2000<m.size):Dd m=P (1,0):=by unfold Dd;rw[if_pos a]
theorem Ave(c:Ow n q)(e:Ow q Y)(a:EF Y.heap.size (Y.alloc v9) n4):Ow n n4:=by
 have b:=c.trans (e.mono c.size);have g:=b.size;refine⟨a.os.trans b.os,a.tape.trans b.tape,a.output.trans b.output,by have:=a.size;simp at this;omega,λd f=>?_⟩;rw[a.block d O5 O1,Axo _ _ O1];exact b.block d f
theorem Afx(l:m.size<=2000)(f:EU m 0=.ok ((w0,we,v0),s))(i:SY n M)(h:I0 n w p we)(g:Ie n w y wc)(j:wc.map Df=v0)(b:Obj):Az Aa 28 #[T #[S w0,p,y]] (n.alloc b) λe q=>e=F (luV M (Ei N (JV we v0)))/\O9 (Ow (n.alloc b) q):=by
 have a:Ow n (n.alloc b):=bA;subst j;have c:=Ak8 l (Ai _) f;have k:=c.len;simp[An]at k;refine Am9 (i.bG a) (h.bG JB a) (g.bG Hc a) ?_ ?_ λd o=>c.ok (Df d) (AE.2 ⟨d,o,rfl⟩)<;>omega
theorem Ace{s:Oy}(aE:s.size<=2000->∀B aB aC,LA B aB aC M s)(aa:SY n M):Az Aa 15 #[S s] n λa E=>WC s M n a E:=by
 obtain⟨l,f⟩:∃l,l=n.alloc (.cells #[S ⟨#[]⟩,W N 0 0,W N 0 0] 45):=⟨_,rfl⟩;have z:Ow n l:=by rw[f];exact bA
 have aK:l.heap.size=n.heap.size+1:=by rw[f];simp
 have ah:V3 l n.heap.size (S ⟨#[]⟩) (W N 0 0) (W N 0 0):=by
  subst f;exact⟨O2,O2,O2,λbb=>O2⟩
 have aw:=O0 (aa.bG z);by_cases ab:2000<s.size
 ·have p:Dd s=P (1,0):=Asn ab;have aL:(2000:Int)<(s.size:Int):=O1;have aM:=aw.o.lg;obtain⟨aQ,aR,aS,ae⟩:=id ah;have aj:=ae 0;have ak:=ae 1;have al:=ae 2;rw[f]at aM aQ aR aS aj ak al;clear aa ae;go_enter func15,ntmps15;go_wp2_with (first
   |(go_at_call 25;refine(R0 _ _ _ _).mono ?_;rintro a bg ⟨rfl,rfl⟩))
  refine AZ (v:=R #[T3,Fu M 4 0]) (by simp[results,results15,go_sem,T3,Fu]) rfl ?_;rw[<-f];refine⟨z,?_⟩;rw[p];rfl
 ·have aL:¬(2000:Int)<(s.size:Int):=O1;have ac:s.size<=2000:=O1;have ag:O9 (Az Aa 26 #[S s] l λa h=>∃r ad b,a=F (W (I ⟨r,0,N⟩) ad b)/\O9 (Ow l h)/\O9 (Az Aa 27 #[J (I ⟨h.heap.size,0,N⟩)] (h.alloc (.cells #[W (I ⟨r,0,N⟩) ad b,W N 0 0,V C 0] 80)) λa E=>UA h.heap.size M (h.alloc (.cells #[W (I ⟨r,0,N⟩) ad b,W N 0 0,V C 0] 80)) (EU s 0) a E)):=by
   refine(Alb s l ac).mono ?_;rintro a h ⟨a1,r,b,rfl,aH⟩;refine⟨r,_,b,rfl,a1,?_⟩;have aI:Ow h (h.alloc (.cells #[W (I ⟨r,0,N⟩) (CH s 0).length b,W N 0 0,V C 0] 80)):=bA;have an:Ow n h:=z.trans (a1.mono z.size);exact Auc (B:=n) ac (aE ac _ _ _) ⟨aa,an.trans (aI.mono an.size),an.size⟩ (Akr aH) (Ai _)
  have a6:O9 (Ow n (n.alloc (.cells #[S ⟨#[]⟩,W N 0 0,W N 0 0] 45))):=by rw[<-f];exact z
  have a9:O9 (V3 (n.alloc (.cells #[S ⟨#[]⟩,W N 0 0,W N 0 0] 45)) n.heap.size (S ⟨#[]⟩) (W N 0 0) (W N 0 0)):=by rw[<-f];exact ah
  have ay:(n.alloc (.cells #[S ⟨#[]⟩,W N 0 0,W N 0 0] 45)).heap.size=n.heap.size+1:=by rwa[<-f]
  rw[f]at ag;clear z ah aw aK f l;have au:∀{K:Act} {ai:Q} {aT aV aW:X} {b u:Nat},K.defers=[]->K.tmps[2]?.getD Aw7=J (I ⟨n.heap.size,0,N⟩)->K.tmps[3]?.getD Aw7=Z 85 (He M (Cq b) u)->V3 ai n.heap.size aT aV aW->Ow n ai->Dd s=P (b,u)->bodyPost Aa Tryz.f15 (λa E=>WC s M n a E) .ret K (((ai.setCell ⟨n.heap.size,0,N⟩ (S ⟨#[]⟩)).setCell ⟨n.heap.size,1,N⟩ (W N 0 0)).setCell ⟨n.heap.size,2,N⟩ (W N 0 0)):=λaJ t aD aG hb aF=>AZ (P8 rfl t aD (aG.put _ _ _)) aJ ⟨Mr (Mr (Mr hb (Ac _) _) (Ac _) _) (Ac _) _,by rw[aF];rfl⟩;go_enter func15,ntmps15;go_wp2_with (first
   |(go_at_call 26;refine ag.o.mono ?_;rintro a h ⟨r,ad,cc,rfl,G,av⟩;clear ag)
   |(go_at_call 27;refine av.o.mono ?_;rintro a d ⟨az,ap⟩;have m:=O0 (Ave a6.o G.o az);have ax:=O0 (((a9.o.bG G.o).bG bA).ef az (by have:=G.o.size;have:=ay;omega));clear av;rcases h1:EU s 0 with⟨b,u⟩|⟨⟨k,g,O⟩,bf⟩<;>rw[h1]at ap;(·obtain⟨k,j,a2,a3,i,a4,a5,c⟩:=ap;replace c:a=F (R #[T #[S k,W j a2 a3,W i a4 a5],Z 85 (He M (Cq b) u)]):=c;subst c;have ar:Ow d (d.alloc (.cells #[S k,W j a2 a3,W i a4 a5] 45)):=bA;have w:=O0 (ax.o.bG ar);obtain⟨⟨aN,aO,aP⟩,aj,ak,al⟩:=w.o.a;have p:=O0 (Agy ab h1);clear h1;go_wp2;exact au rfl rfl rfl w.o (m.o.trans (ar.mono m.o.size)) p.o);obtain⟨ba,aX,q,c,Y,U,ao⟩:=ap;obtain⟨j,x,rfl⟩:=Y.slice;obtain⟨i,y,rfl⟩:=U.slice;subst c;have a7:=O0 ao;have a8:=O0 (Afx ac h1 (aa.bG m.o) Y U ao);clear ao)
   |(go_at_call 28;refine(a8.o _).mono ?_;rintro a aq ⟨c,H⟩;have af:Ow d aq:=((Ae d.heap.size d).alloc (Ac _) _).trans (H.o.mono O2);have w:=O0 (ax.o.bG af);obtain⟨⟨aN,aO,aP⟩,aj,ak,al⟩:=w.o.a;have D:=Abv (JV g O) N;rcases t:IP N (JV g O) with _|⟨b,u⟩<;>rw[t]at D;rotate_left;(·rw[show Ei N (JV g O)=I (Cq b,u) from D]at c;replace c:a=F (Z 85 (He M (Cq b) u)):=c;subst c;have p:=O0 (Ame ab h1 t);clear t D;go_wp2;exact au rfl rfl rfl w.o (m.o.trans (af.mono m.o.size)) p.o);rw[show Ei N (JV g O)=N from D]at c;replace c:a=F .nilIface:=c;subst c;have p:=O0 (Alv ab h1 t);clear t D;have bc:=Bu H.o (show(d.alloc (.cells #[S k,W j (L g) x,W i (L q) y] 45)).cell? ⟨d.heap.size,0,N⟩=I (S k) by simp);have bd:=Bu H.o (show(d.alloc (.cells #[S k,W j (L g) x,W i (L q) y] 45)).cell? ⟨d.heap.size,1,N⟩=I (W j (L g) x) by simp);have be:=Bu H.o (show(d.alloc (.cells #[S k,W j (L g) x,W i (L q) y] 45)).cell? ⟨d.heap.size,2,N⟩=I (W i (L q) y) by simp)))
  refine AZ (P8 rfl rfl rfl (w.o.put (S k) (W j (L g) x) (W i (L q) y))) rfl ?_;have am:=af;refine⟨Mr (Mr (Mr (m.o.trans (am.mono m.o.size)) (Ac _) _) (Ac _) _) (Ac _) _,?_⟩;rw[p.o];have aY:=G.o.size;have aZ:=ay;have a0:∀e,e≠n.heap.size->(((aq.setCell ⟨n.heap.size,0,N⟩ (S k)).setCell ⟨n.heap.size,1,N⟩ (W j (L g) x)).setCell ⟨n.heap.size,2,N⟩ (W i (L q) y)).heap[e]?=aq.heap[e]?:=λe hb=>by rw[AA _ _ _ _ hb,AA _ _ _ _ hb,AA _ _ _ _ hb]
  refine⟨_,_,_,_,_,_,q,rfl,?_,?_,a7.o⟩
  ·refine((Y.bG JB am).fr JB O2 λe hb=>a0 e ?_).low O5;have:=(Y.rg e hb).1;simp at this;omega
  ·refine((U.bG Hc am).fr Hc O2 λe hb=>a0 e ?_).low O5;have:=(U.rg e hb).1;simp at this;omega
def CD{e:Type}(d:Nat->Pr e):Prop:=∀c a b,d c=P (a,b)->a=2\/a=3\/a=5
theorem II(b c:Oy):CD (BS b c):=by
 intro f e d a;unfold BS at a;grind
theorem Tc(b:Oy):CD (Em b):=by
 intro e d c a;unfold Em at a;grind
theorem Ty(c:Oy)(b:Nat):CD (D8 c b):=by
 intro f e d a;unfold D8 at a;grind
theorem Zk(b:Oy):CD (DF b):=by
 intro e d c a;unfold DF at a;grind
theorem Xs(f:Oy):∀d g,CD (DP f d g)
 |0,_=>λi c b a=>by cases a;decide
 |d+1,g=>λi c b a=>by
  rw[DP]at a;split at a
  ·cases a
  ·rcases CC a with h|⟨k,j,h,e⟩
   ·exact Tc f i c b h
   ·split at e
    ·cases e;decide
    ·exact Xs f d _ j c b e
theorem Abk(a:Oy):CD (FN a):=by
 intro g c b e;rcases CC e with d|⟨i,h,d,f⟩
 ·exact II a _ g c b d
 ·exact Xs a _ _ h c b f
section
variable {s:Oy} {E:Nat->Pr Ex} (hZ:CD E)
include hZ
theorem Xt:∀d e,CD (Eo s E d e)
 |0,_=>λg c b a=>by cases a;decide
 |d+1,e=>λg c b a=>by
  rw[Eo]at a;split at a
  ·cases a
  ·rcases CC a with f|⟨j,i,f,h⟩
   ·exact hZ g c b f
   ·exact Xt d _ i c b h
theorem ZJ:∀d e,CD (EZ s E d e)
 |0,_=>λg c b a=>by cases a;decide
 |d+1,e=>λg c b a=>by
  rw[EZ]at a;split at a
  ·cases a
  ·split at a
   ·cases a;decide
   ·rcases CC a with f|⟨j,i,f,h⟩
    ·exact hZ g c b f
    ·exact ZJ d _ i c b h
theorem Z4:∀e g f,CD (Fs s E e g f)
 |0,_,_=>λh d c a=>by cases a;decide
 |e+1,g,f=>λh d c a=>by
  rcases CC a with b|⟨m,i,b,a⟩
  ·exact II s _ h d c b
  rcases CC a with b|⟨n,j,b,a⟩
  ·exact Tc s i d c b
  split at a
  ·cases a;decide
  rcases CC a with b|⟨o,k,b,a⟩
  ·exact hZ j d c b
  rcases CC a with b|⟨p,l,b,a⟩
  ·exact II s _ k d c b
  split at a
  ·cases a
  ·exact Z4 e _ _ l d c a
theorem Ady:∀e f,CD (Fm s E e f)
 |0,_=>λg d c a=>by rw[Fm]at a;cases a;decide
 |e+1,f=>λg d c a=>by
  rw[Fm]at a;rcases CC a with b|⟨m,h,b,a⟩
  ·exact II s _ g d c b
  rcases CC a with b|⟨n,i,b,a⟩
  ·exact Ty s _ h d c b
  split at a
  ·cases a;decide
  rcases CC a with b|⟨o,j,b,a⟩
  ·exact Abk s i d c b
  rcases CC a with b|⟨p,k,b,a⟩
  ·exact hZ j d c b
  rcases CC a with b|⟨q,l,b,a⟩
  ·exact II s _ k d c b
  split at a
  ·cases a
  ·exact Ady e _ l d c a
theorem Adw(i:Bool):CD (EN s E i):=by
 intro e d c b;rcases CC b with a|⟨k,f,a,b⟩
 ·exact II s _ e d c a
 rcases CC b with a|⟨l,g,a,b⟩
 ·exact Z4 hZ _ _ _ f d c a
 rcases CC b with a|⟨m,h,a,b⟩
 ·exact II s _ g d c a
 rcases CC b with a|⟨n,j,a,b⟩
 ·exact hZ h d c a
 cases b
theorem Avh:CD (Gy s E):=by
 intro e d c a;rcases CC a with b|⟨h,f,b,a⟩
 ·exact Ty s _ e d c b
 rcases CC a with b|⟨i,g,b,a⟩
 ·exact ZJ hZ _ _ f d c b
 cases a
theorem Aua:CD (G3 s E):=by
 intro e d c a;rcases CC a with b|⟨h,f,b,a⟩
 ·exact hZ e d c b
 rcases CC a with b|⟨i,g,b,a⟩
 ·exact Ady hZ _ _ f d c b
 cases a
theorem Afk:CD (Hg s E):=by
 intro e d c b;rcases CC b with a|⟨i,f,a,b⟩
 ·exact hZ e d c a
 rcases CC b with a|⟨j,g,a,b⟩
 ·exact hZ f d c a
 rcases CC b with a|⟨k,h,a,b⟩
 ·exact Xt hZ _ _ g d c a
 cases b
theorem Ahu:CD (Dw s E):=by
 intro f c b a;unfold Dw at a;split at a
 ·rcases CC a with d|⟨h,e,d,a⟩
  ·exact hZ _ c b d
  rcases CC a with d|⟨i,g,d,a⟩
  ·exact hZ e c b d
  cases a
 ·split at a
  ·exact Adw hZ _ _ c b a
  ·split at a
   ·exact Adw hZ _ _ c b a
   ·split at a
    ·exact Avh hZ _ c b a
    ·split at a
     ·exact Aua hZ _ c b a
     ·exact Afk hZ _ c b a
end
theorem Aac(e:Oy):∀f,CD (pE e f)
 |0=>λg c b a=>by
  rw[pE]at a;split at a
  ·cases a;decide
  ·exact Zk e g c b a
 |f+1=>λg c b a=>by
  rw[pE]at a;split at a
  ·rcases CC a with d|⟨j,h,d,a⟩
   ·exact Ahu (Aac e f) _ c b d
   rcases CC a with d|⟨k,i,d,a⟩
   ·exact II e _ h c b d
   cases a
  ·exact Zk e g c b a
theorem Uj(d:Oy):∀g,CD (GB d g)
 |[]=>λf c b a=>by cases a
 |t::r=>λf c b a=>by
  rcases CC a with e|⟨i,h,e,a⟩
  ·exact II d _ f c b e
  ·exact Uj d r h c b a
theorem SQ(c:Oy)(f:List Oy):CD (Dg c f):=by
 intro g e d a;rcases CC a with b|⟨i,h,b,a⟩
 ·exact Tc c g e d b
 grind
theorem Ags(c:Oy)(f:Bs):CD (Hf c f):=by
 intro g e d b;rcases CC b with a|⟨l,h,a,b⟩
 ·exact SQ c _ g e d a
 rcases CC b with a|⟨m,i,a,b⟩
 ·exact Abk c h e d a
 rcases CC b with a|⟨n,j,a,b⟩
 ·exact Aac c 30 i e d a
 rcases CC b with a|⟨o,k,a,b⟩
 ·exact II c _ j e d a
 cases b
theorem Ap2(c:Oy)(g:Bs)(j:Bool):CD (pG c g j):=by
 intro l e d b;unfold pG at b;split at b
 ·rcases CC b with a|⟨i,f,a,b⟩
  ·rcases CC a with a|⟨i,f,a,b⟩
   ·exact SQ c _ _ e d a
   rcases CC b with a|⟨k,h,a,b⟩
   ·exact Ty c _ f e d a
   rcases CC b with a|⟨n,m,a,b⟩
   ·exact II c _ h e d a
   cases b
  ·cases b
 ·rcases CC b with a|⟨i,f,a,b⟩
  ·exact II c _ _ e d a
  rcases CC b with a|⟨k,h,a,b⟩
  ·exact Ags c g f e d a
  cases b
theorem S2(f:Oy):∀g h l (k:List DD),CD (DN f g h l k)
 |0,_,_,_=>λm c b a=>by cases a;decide
 |g+1,h,l,k=>λm c b a=>by
  rw[DN]at a;split at a
  ·rcases CC a with e|⟨n,j,e,a⟩
   ·exact Ap2 f h _ _ c b e
   match n,a with
   |.inl i,a=>exact S2 f g _ _ _ j c b a
   |.inr d,a=>exact S2 f g _ _ _ j c b a
  ·rcases CC a with e|⟨n,j,e,a⟩
   ·exact Uj f _ m c b e
   cases a
theorem Aj1(c:Oy):CD (EU c):=by
 intro f e d b;rcases CC b with a|⟨j,g,a,b⟩
 ·exact Uj c _ f e d a
 rcases CC b with a|⟨k,h,a,b⟩
 ·exact SQ c _ g e d a
 rcases CC b with a|⟨l,i,a,b⟩
 ·exact S2 c _ _ _ _ h e d a
 cases b
def JY(a:BJ)(c:Nat):List Nat:=if a.op=19\/a.op=20 then [] else if a.op=18 then [a.a.toNat] else if a.op=17 then a.alts.map λb=>b.BU.toNat else [c+1]
def rk(a:Int):Nat:=if a=-1 then 0 else if a=-2 then 2 else 1
def GJ(b:Nat)(c a:Int):Bool:=decide (a<DC b c)||((b==19) && (a !=1))||decide (1000<a+C8 b c)
theorem Ar7(a:Nat)(b:Int)(g:a<21)(d:a≠0->0<=b/\b<=65535):-65536<=C8 a b/\C8 a b<=65536:=by
 by_cases c:a=0
 ·subst c;simp[C8]
 ·let ⟨e,f⟩:=d c
  unfold C8;omega
theorem Ab4(a:Nat)(g:a<21)(c:Int)(d:List Co)(b:ED a c d=true):(a≠0->0<=c/\c<=65535)/\((a=2\/a=4\/a=5\/a=6\/a=7)->c<=1000)/\(a=7->1<=c)/\(a=16->c<=255)/\(a≠17->d=[])/\(a=17->Hl d=true):=by
 simp only[ED]at b;rw[if_pos O1]at b;have h:((a:Int)).toNat=a:=rfl;rw[h]at b;rcases Nd a g with rfl|rfl|rfl|rfl|rfl|rfl|rfl|rfl|rfl|rfl|rfl|rfl|rfl|rfl|rfl|rfl|rfl|rfl|rfl|rfl|rfl;all_goals
  simp[BP,FO]at b;first
   |(simp[b];done)
   |(let ⟨e,f⟩:=b;simp[e,f];done)
   |(let ⟨⟨e,f⟩,i⟩:=b;refine⟨λ_=>⟨O1,O1⟩,O1,O1,O1,λ_=>e,O1⟩)
theorem Aur(a:Nat)(d:a<21)(b c:Int)(g:List Co)(h:ED a b g=true)(o:0<=c)(p:c<=100000):
 Lf a b c=!GJ a b c/\(GJ a b c=false->Fp a b c=c+C8 a b/\0<=c+C8 a b/\c+C8 a b<=1000):=by
 obtain⟨f,k,l,m,-,-⟩:=Ab4 a d b g h;clear h;by_cases e:a=0
 ·subst e;refine⟨?_,?_⟩
  ·rw[Ayw];simp[Lf,Ox,Fp,GJ,DC,C8,BP,FO,Gt,Bf];omega
  ·simp[Fp,GJ,DC,C8,BP,FO,Gt,Bf];omega
 ·let ⟨j,n⟩:=f e
  clear f;have i:b.tmod 256=b % 256:=Int.tmod_eq_emod_of_nonneg j;rcases Nd a d with rfl|rfl|rfl|rfl|rfl|rfl|rfl|rfl|rfl|rfl|rfl|rfl|rfl|rfl|rfl|rfl|rfl|rfl|rfl|rfl|rfl
  ·omega
  all_goals
   clear d e;refine⟨?_,?_⟩
   ·rw[Ayw];simp[Lf,Ox,Fp,GJ,DC,C8,BP,FO,Gt,Bf];try(first|omega|(rw[i];omega))
   ·simp[Fp,GJ,DC,C8,BP,FO,Gt,Bf];try(first|omega|(rw[i];omega))
def Lj(a:Nat):Array X:=madeCells #[V C 0] a
theorem Atz(b a:Nat)(c:a<b):(Lj b)[a]?=I (V C 0):=by
 have:(Lj b).toList[a]?=I (V C 0):=by rw[Lj,toList_madeCells_one];simp[c]
 simpa using this
theorem Akn(a:Nat)(i:a<=65535)(b:Q):(Instr.makeSlice 263 (V C (a:Int)) (V C (a:Int))).run Aa b=.ok (W (I ⟨b.heap.size,0,N⟩) a a) (b.alloc (.cells (Lj a) 3)):=by
 let ⟨h,d,c⟩:=AB.1 Aiw
 simp[Aw0]at c;let ⟨e,f,g⟩:=c
 rw[run_make b 263 3 h (V C 0) underlying263 d e C C a a O1 O1 (by rw[g];omega) O1,f];simp[Lj,Value.cells]
def Lt(c:Int)(b:List Co):Bool:=b.any λa=>decide (c<=a.BU)
def KM(c:Int)(b:BJ)(_:Nat):Bool:=if b.op=18 then decide (c<=b.a) else Lt c b.alts
theorem Amb(c:Int)(a:List Co)(b:Nat)(d:b<L a)(e:c<=a[b].BU):Lt c a=true:=by
 simp[Lt,List.any_eq_true];grind
theorem Ad0(c:Int)(a:List Co)(f:∀b (e:b<L a),a[b].BU<c):Lt c a=false:=by
 simp[Lt,Ax9];intro i d;obtain⟨h,g,rfl⟩:=Azt.1 d;grind
theorem Aqs(b:BJ)(j:Option Addr)(n m:Nat)(d:Int)(h:Q)(p:GC h (W j n m) b.alts)(c:Nat):
 Az Aa 162 #[T #[V C b.op,V C b.a,W j n m],V C d] h λg l=>g=F (A (KM d b c))/\Ow h l:=by
 obtain⟨y,w,g,H,r⟩:=p.open;obtain⟨rfl,rfl,rfl⟩:j=y/\n=L b.alts/\m=w:=by simpa using g
 have t:∀l,Ow h l->Nc l j b.alts:=r;clear r p g;have z:KM d b c=if b.op=18 then decide (d<=b.a) else Lt d b.alts:=rfl
 by_cases k:b.op=18
 ·have hb:(b.op==18)=true:=by simp[k]
  have i:KM d b c=decide (d<=b.a):=by simp_all
  clear k;go_enter func162,ntmps162;go_wp2;go_ret;exact⟨En i.symm,bA⟩
 ·have hb:(b.op==18)=false:=by simp[k]
  have i:KM d b c=Lt d b.alts:=O6;clear k;go_enter func162,ntmps162;go_wp2;go_loopw [17] (λo wr=>∃e:Nat,e<=L b.alts/\o=V C e/\O9 (∀c (f:c<L b.alts),c<e->b.alts[c].BU<d)/\Ow h wr) (λo _=>L b.alts-(intOf o).toNat)
  ·exact⟨0,Ai _,rfl,λ_ _ f=>absurd f nofun,bA⟩
  ·obtain⟨e,G,rfl,q,hb⟩:=hrel;by_cases s:e<L b.alts
   ·obtain⟨B,K,rfl,c0,D⟩:=t _ hb e s;have v:d<=b.alts[e].BU->Lt d b.alts=true:=Amb d b.alts e s;have u:b.alts[e].BU<d->∀c (f:c<L b.alts),c<e+1->b.alts[c].BU<d:=by
     intro x c f E;by_cases g:c=e
     ·subst g;exact x
     ·exact q.o c f O1
    generalize b.alts[e].tag=tg at*;generalize b.alts[e].BU=tto at*;go_wp2;any_goals
     go_ret;exact⟨En (by rw[i,v O1]),hb.alloc hb.size _⟩
    all_goals exact⟨⟨e+1,O1,rfl,u O1,hb.alloc hb.size _⟩,by simp[intOf];omega⟩
   ·go_wp2;go_ret;exact⟨En (by rw[i,Ad0 _ _ (λc f=>q.o c f O1)]),hb⟩
def Mx(a:List BJ):X:=
 if L a=0 then R #[V C 0,A true] else
 match Kn (KM (L a)) a with
 |some b=>R #[V C (b:Int),A true]
 |none=>R #[V C ((L a:Int)-1),A (!(match a[L a-1]? with|some x=>Ms x.op|none=>false))]
theorem Am4(v:X)(a:List BJ)(f:Q)(s:Fy f v a):
 Az Aa 119 #[v] f λl d=>l=F (Mx a)/\Ow f d:=by
 obtain⟨G,H,rfl,U,t⟩:=s.open;have p:∀d,Ow f d->MZ d G a:=t;clear t s;by_cases e:(L a)=0
 ·have hb:((L a:Int)==0)=true:=by simp[e]
  have g:Mx a=R #[V C 0,A true]:=by show _=_;simp[Mx,e]
  clear e;go_enter func119,ntmps119;go_wp2;go_ret2
  exact⟨by rw[g];rfl,Ae _ _⟩
 ·have O:0<L a:=O1;have hb:((L a:Int)==0)=false:=O6;have g:Mx a=match Kn (KM (L a)) a with
   |some b=>R #[V C (b:Int),A true]
   |none=>R #[V C ((L a:Int)-1),A (!(match a[L a-1]? with|some x=>Ms x.op|none=>false))]:=by show _=_;simp[Mx,e]
  clear e;go_enter func119,ntmps119;go_wp2;go_loopw [12] (λo wr=>∃b:Nat,b<=L a/\o=V C b/\O9 (∀c (h:c<L a),c<b->KM (L a) a[c] c=false)/\Ow f wr) (λo _=>L a-(intOf o).toNat)
  ·exact⟨0,Ai _,rfl,λ_ _ h=>absurd h O1,Ae _ _⟩
  ·obtain⟨b,M,rfl,m,hb⟩:=hrel;by_cases n:b<L a
   ·obtain⟨z,E,k,j,i,rfl,c0,B,D,q⟩:=p _ hb b n;have w:GC wr (W k j i) a[b].alts:=q;clear q;go_wp2_with (first|(go_at_call 162;refine(Aqs a[b] k j i _ _ ?_ b).mono ?_;exact(w).bG bA;rintro l d ⟨rfl,r⟩))
    any_goals
     go_ret2
     exact⟨by rw[g,Aa7 _ _ b n O1 m.o];rfl,(hb.alloc hb.size _).trans (r.mono (by have:=hb.size;simp;omega))⟩
    all_goals exact⟨⟨b+1,O1,by go_num,Abo _ _ b n m.o O1,(hb.alloc hb.size _).trans (r.mono (by have:=hb.size;simp;omega))⟩,by simp[intOf];omega⟩
   ·obtain⟨z,E,k,j,i,rfl,c0,B,D,_⟩:=p _ hb (L a-1) O1;have u:a[L a-1]?=I (a[L a-1]'(by omega)):=Af O1;have y:a[L a-1]?=I (a[L a-1]'(by omega)):=u;clear u;have K:((L a:Int)-1).toNat=L a-1:=O1;go_wp2_with (first|(go_at_call 163;refine(Aos _ _).mono ?_;rintro l d ⟨rfl,rfl⟩))
    go_ret2
    exact⟨by rw[g,Qy _ _ (λc h=>m.o c h O1),y];rfl,hb⟩
def P2(b:Q)(a:Nat):Prop:=b.cell? ⟨a,0,N⟩=I (V C 0)/\b.cell? ⟨a,1,N⟩=I (V C 0)/\b.frozen? ⟨a,0,N⟩=false/\b.frozen? ⟨a,1,N⟩=false
theorem P2.bG{w:Q}{b:Nat}(a:P2 w b)(hb:Ow w n):P2 n b:=by
 have c:=AL a.1;exact⟨Bu hb a.1,Bu hb a.2.1,by rw[(E3 hb).2 _ _ c];exact a.2.2.1,by rw[(E3 hb).2 _ _ c];exact a.2.2.2⟩
theorem P2.put(b:P2 n w)(a c:X):(n.setCell ⟨w,0,N⟩ a).cell? ⟨w,0,N⟩=I a/\((n.setCell ⟨w,0,N⟩ a).setCell ⟨w,1,N⟩ c).cell? ⟨w,1,N⟩=I c:=by
 refine⟨Au _ _ _ b.1,Au _ _ _ (u:=V C 0) ?_⟩;rw[Ah _ _ _ _ (by intro d;have:=congrArg Addr.off d;simp at this)];exact b.2.1
theorem Zl(b:Q):Az Aa 17 #[.nilIface] b λa c=>a=F (T #[V C 0,V C 0])/\Ow b c:=by
 go_enter func17,ntmps17;go_wp2_with (first|(refine(Aty _ _).mono ?_;rintro a d ⟨rfl,rfl⟩))
 refine AZ (v:=T #[V C 0,V C 0]) (by simp[results,results17,go_sem]) rfl ?_;exact⟨rfl,bA.alloc O2 _⟩
theorem Aut(m:EJ n M)(c:Addr):Az Aa 17 #[Di c] n λd q=>d=F (T #[V C 0,V C 0])/\Ow n q:=by
 have b:∀g a,Ow n ((n.alloc g).alloc a):=λg a=>bA.alloc O2 _;have k:∀a,P2 ((n.alloc (.cells #[V C 0,V C 0] 52)).alloc a) n.heap.size:=λa=>⟨O2,O2,O2,O2⟩;have j:n.cell? ⟨18,0,N⟩=I (Z 216 (T #[J (I ⟨27,47,N⟩)])):=m.et;go_enter func17,ntmps17;go_wp2_with (first|(apply (Aif c _ _ (Bu (b _ _) j)).mono;rintro d h ⟨rfl,e⟩;have f:=(k _).bG e;let ⟨r,s,t,u⟩:=id f;have l:P2 h n.heap.size:=f;have i:Ow n h:=(b _ _).trans (e.mono O5)))
 let ⟨o,p⟩:=l.put (V C 0) (V C 0)
 apply AZ (v:=T #[V C 0,V C 0]) (by simp[results,results17,go_sem,o,p]) rfl;exact⟨rfl,(i.setCell .refl _).setCell .refl _⟩
structure Hit (a c:Q) (tb:Nat) (d e:Int):Prop where
 c1:c.cell? ⟨tb,1,N⟩=I (V C d)
 c2:c.cell? ⟨tb,2,N⟩=I (V C e)
 old:∀b o,b<a.heap.size->b≠tb->c.cell? ⟨b,o,N⟩=a.cell? ⟨b,o,N⟩/\c.frozen? ⟨b,o,N⟩=a.frozen? ⟨b,o,N⟩
 below:∀B,B<=tb->B<=a.heap.size->Below B a c
theorem Aq5(j:X)(g h:Int)(tb:Nat)(o p q:X)(a:Q)(z:a.cell? ⟨18,0,N⟩=I (Z 216 (T #[J (I ⟨27,47,N⟩)])))(D:a.cell? ⟨tb,0,N⟩=I o)(r:a.cell? ⟨tb,1,N⟩=I p)(s:a.cell? ⟨tb,2,N⟩=I q)(v:a.frozen? ⟨tb,0,N⟩=false)(w:a.frozen? ⟨tb,1,N⟩=false)(x:a.frozen? ⟨tb,2,N⟩=false)(B:j.oneCell'=true):
 Az Aa 30 #[Z 85 (T #[j,V C g,V C h]),Z 87 (J (I ⟨tb,0,N⟩))] a λu t=>u=F (A true)/\Hit a t tb g h:=by
 refine(Ahc j g h tb o p q a z D r s v w x B).mono ?_;rintro f t ⟨rfl,rfl⟩;refine⟨rfl,?_⟩;have n:Ow a (H9 a ⟨tb,0,N⟩):=(bA.alloc O2 _).alloc O5 _;have d:Ow a ((H9 a ⟨tb,0,N⟩).alloc (.cells #[j,V C g,V C h] 85)):=n.alloc n.size _;have i:∀{b c e:Nat},c≠e->(⟨b,c,N⟩:Addr)≠⟨b,e,N⟩:=λk f=>k (congrArg Addr.off f);have nb:∀{b c e:Nat},b≠tb->(⟨tb,e,N⟩:Addr)≠⟨b,c,N⟩:=λk f=>k (congrArg Addr.block f).symm;refine⟨?_,?_,λb c hb m=>⟨?_,?_⟩,λE l y=>?_⟩
 ·rw[Ah _ _ _ _ (i O4)];exact Au _ _ _ (by rw[Ah _ _ _ _ (i O4)];exact Bu d r)
 ·exact Au _ _ _ (by rw[Ah _ _ _ _ (i O4),Ah _ _ _ _ (i O4)];exact Bu d s)
 ·rw[Ah _ _ _ _ (nb m),Ah _ _ _ _ (nb m),Ah _ _ _ _ (nb m)];exact(E3 d).1 b c hb
 ·simp;exact(E3 d).2 b c hb
 ·exact(((d.mono y).setCell l _).setCell l _).setCell l _
theorem Vg(i:EJ n M)(o:Addr)(b c:Int):Az Aa 17 #[Hv o b c] n λh r=>h=F (T #[V C b,V C c])/\Ow n r:=by
 have g:∀j d,Ow n ((n.alloc j).alloc d):=λj d=>bA.alloc O2 _;have s:∀d,P2 ((n.alloc (.cells #[V C 0,V C 0] 52)).alloc d) n.heap.size:=λd=>⟨O2,O2,O2,O2⟩;have l:n.cell? ⟨18,0,N⟩=I (Z 216 (T #[J (I ⟨27,47,N⟩)])):=i.et;clear i;unfold Hv;go_enter func17,ntmps17;go_wp2_with (first|(go_at_call 30;refine(Aq5 _ b c _ .nilIface (V C 0) (V C 0) _ (Bu (g _ _) l) O2 O2 O2 O2 O2 O2 rfl).mono ?_;rintro h f ⟨rfl,a⟩;have t:=a.c1;have u:=a.c2;have e:P2 f n.heap.size:=⟨by rw[(a.old _ 0 O5 O1).1];simp,by rw[(a.old _ 1 O5 O1).1];simp,by rw[(a.old _ 0 O5 O1).2];simp,by rw[(a.old _ 1 O5 O1).2];simp⟩;let ⟨w,x,y,z⟩:=id e;have m:P2 f n.heap.size:=e;have k:Ow n f:=(g _ _).trans (a.below _ O1 O5);clear e a))
 let ⟨p,q⟩:=m.put (V C b) (V C c)
 refine AZ (v:=T #[V C b,V C c]) (by simp[results,results17,go_sem,p,q]) rfl ?_;exact⟨rfl,(k.setCell .refl _).setCell .refl _⟩
def Hw(a:Oy):Nat×Nat:=match Dd a with
 |P e=>e
 |.ok _=>(0,0)
theorem Q7(a:Dd m=P (w,s)):w=1\/w=2\/w=3\/w=4\/w=5:=by
 unfold Dd at a;split at a
 ·grind
 ·match h1:EU m 0,a with
  |P (c',a'),a=>
   cases a;have:=Aj1 m 0 w s h1;omega
  |.ok (x,q),a=>
   simp at a;match h2:IP N (JV x.2.1 x.2.2),a with
   |some e,a=>
    cases a;have b:=((TQ _ N).1 _ h2).1;rcases b with b|b
    ·let ⟨f,g,d⟩:=AU.1 b
     rcases Ag.1 d with c|c
     ·have:=(Qk _ _ _ c).1;omega
     ·have:=XQ _ 31 _ _ _ ((Yo _ 31 _ _ _).2 c);omega
    ·cases b
theorem Xo(a:w=1\/w=2\/w=3\/w=4\/w=5):IQ (Cq w)=(w:Int):=by
 rcases a with rfl|rfl|rfl|rfl|rfl<;>rfl
theorem Ad1(a:w=1\/w=2\/w=3\/w=4\/w=5):1<=Cq w/\Cq w<19:=by
 rcases a with rfl|rfl|rfl|rfl|rfl<;>decide
theorem Vn(c b:X)(a:Q):Sem.run Aa (Instr.field 52 (T #[c,b]) 1) a=.ok b a:=O3
theorem Aa2{s:Oy}(U:s.size<=2000->∀E H K,LA E H K M s)(z:EJ n M)(B:SY n M):Az Aa 8 #[S s] n λa Y=>Ow n Y/\a=F (R #[V C ((Hw s).1:Int),V C ((Hw s).2:Int)]):=by
 have i:=Ace (s:=s) U B;have ac:=Vn;clear B;match h:Dd s with
 |P (d,e)=>
  have x:=Q7 h;have G:O9 (IQ (Cq d)=(d:Int)):=Xo x;have y:1<=Cq d/\Cq d<19:=Ad1 x;have w:Hw s=(d,e):=by show _=_;unfold Hw;rw[h]
  have j:O9 (Az Aa 15 #[S s] n λa b=>a=F (R #[T #[S ⟨#[]⟩,W N 0 0,W N 0 0],Hv (M (Cq d)) 0 (e:Int)])/\O9 (Ow n b)):=by
   refine i.mono ?_;rintro a b ⟨hb,f⟩;rw[h]at f;exact⟨f,hb⟩
  unfold Hv at j;clear h i x;go_enter func8,ntmps8;go_wp2_with (first
   |(go_at_call 15;refine j.o.mono ?_;rintro a b ⟨rfl,c⟩)
   |(go_at_call 16;refine(Tf (z.bG (c.o.trans (((Ae b.heap.size b).alloc (Ac _) _).mono c.o.size))) (Cq d) ⟨by have:=y;omega,y.2⟩ 0 (e:Int)).mono ?_;rintro a aa ⟨rfl,D⟩;have t:=(c.o.trans (((Ae b.heap.size b).alloc (Ac _) _).mono c.o.size)).trans (D.mono (Ay c.o.size O2));clear D)
   |(go_at_call 17;refine(Vg (z.bG t) (M (Cq d)) 0 (e:Int)).mono ?_;rintro a ab ⟨rfl,g⟩;have u:=O0 (t.trans (g.mono t.size));clear g))
  refine AZ (v:=R #[V C (IQ (Cq d)),V C (e:Int)]) (by simp[results,results8,go_sem]) rfl ?_;refine⟨u.o,?_⟩;rw[w,G.o]
 |.ok (nm,im,df)=>
  have w:Hw s=(0,0):=by show _=_;unfold Hw;rw[h]
  have j:Az Aa 15 #[S s] n λa b=>∃p q k m r l,a=F (R #[T #[S nm,W p q k,W m r l],.nilIface])/\O9 (Ow n b):=by
   refine i.mono ?_;rintro a b ⟨hb,f⟩;rw[h]at f;obtain⟨p,q,k,m,r,l,ad,O,-⟩:=f;exact⟨p,q,k,m,r,l,O,hb⟩
  clear h i;go_enter func8,ntmps8;go_wp2_with (first
   |(go_at_call 15;refine j.mono ?_;rintro a b ⟨p,q,k,m,r,l,rfl,c⟩)
   |(go_at_call 16;refine(T8 _).mono ?_;rintro a aa ⟨rfl,rfl⟩)
   |(go_at_call 17;refine(Zl _).mono ?_;rintro a ab ⟨rfl,g⟩;have u:=(c.o.trans (((Ae b.heap.size b).alloc (Ac _) _).mono c.o.size)).trans (g.mono (Ay c.o.size O2));clear g))
  refine AZ (v:=R #[V C 0,V C 0]) (by simp[results,results8,go_sem]) rfl ?_;refine⟨u,?_⟩;rw[w];rfl
structure Sg (b:List BJ) (d:Int) (c:List Int):Prop where
 p:0<L b
 m:(L b)<=65535
 a:0<=d/\d<=20
 s:c.getD 0 0=d+1
 i:∀k (hk:k<L b),∃m:Nat,b[k].op=m/\m<21/\(m≠0->0<=b[k].a/\b[k].a<=65535)/\b[k].alts.length<=256/\0<=c.getD k 0/\c.getD k 0<=1000/\GJ m b[k].a (c.getD k 0)=false/\(FH m b[k].a b[k].alts k).length<=256/\∀s∈FH m b[k].a b[k].alts k,∃t:Nat,s=t/\t<L b/\c.getD t 0=c.getD k 0+C8 m b[k].a/\-70000<=C8 m b[k].a/\C8 m b[k].a<=70000
def J1(a:Nat):Int:=if a=7 then 1 else if BP a 0=2 then 0 else 1
def JE(a:Nat):Int:=if BP a 0=2 then BP a 2 else 0
structure Fg (e:BJ) (d:Nat):Prop where
 o:e.op=d
 l:d<21
 n:d≠17->e.alts=[]
 a:(L e.alts)<=256
 b:J1 d<=e.a/\e.a<=JE d\/JE d<J1 d/\(d=0\/d≠0/\e.a=0/\(d=17->0<L e.alts))
 t:e.alts.Pairwise λa b=>a.tag≠b.tag
 c:∀b∈e.alts,0<=b.tag/\b.tag<=255/\0<=b.BU/\b.BU<=65535
def IC(b:List Oy)(a:Nat):Oy:=(⟨#[]⟩::b).getD a ⟨#[]⟩
theorem NJ{f:wa->Oy}{a:List wa}(b:w<L a):f a[w]=IC (a.map f) (w+1):=by simp[IC,b]
structure Gd (b:BD):Prop where
 n:CO b.Bo=true
 i:∀x∈b.BG,CO x.Bo=true/\0<=x.BH/\x.BH<=20
 il:∀k (h:k<L b.BG),Fc b.BG[k].Bo (IC (b.BG.map (·.Bo)) k)=true
 g:∀x∈b.Bv,CO x.Bo=true/\0<=x.BH/\x.BH<=20/\(∀y∈b.BG,y.Bo≠x.Bo)/\(∀i∈x.Bj,∃m,Fg i m)/\(∃d,Sg x.Bj x.BH d)/\∀i∈x.Bj,i.op=1->i.a<(L b.BG:Int)+(L b.Bv:Int)
 gl:∀k (h:k<L b.Bv),Fc b.Bv[k].Bo (IC (b.Bv.map (·.Bo)) k)=true
abbrev cu(b:List UInt8):List X:=b.map λa=>Value.int .u8 (a.toNat:Int)
theorem Zf:(Aa.info? 5).map (λa=>(a.zero,a.size,a.bytes))=I (I (V .u8 0),1,1):=rfl
theorem ZB:ET 116 5 1 1:=.of underlying116 Zf rfl .refl O1
theorem TB(a b:List UInt8):cu (a++b)=cu a++cu b:=AC
theorem Aee{x:Int}(a:0<=x)(b:x<256):[Value.int .u8 x]=cu [UInt8.ofNat x.toNat]:=by
 simp;omega
theorem Aex(c:Q)(m:Nat)(i j p d:A0)(e:TypeInfo)(s:w6.underlying i=I (.slice d))(t:w6.underlying j=I .string)(q:w6.info? d=I e)(x:e.zero=I (V .u8 0))(w:e.size=1)(v:e.bytes=1)(f a h:Nat)(l:List X)(r:c.ownsRow m d 1 (W (I ⟨f,0,N⟩) a h) a l)(b:Oy)(G:0<a+b.size)(E:a+b.size<=140737488355328)(B:m<=c.heap.size):
 ∃g n k,(Builtin.append_ #[i,j] p #[W (I ⟨f,0,N⟩) a h,S b]).run w6 c=.ok (W (I ⟨g,0,N⟩) (a+b.size) n) k/\k.ownsRow m d 1 (W (I ⟨g,0,N⟩) (a+b.size) n) (a+b.size) (l++strCells b)/\
  c.grownBy k (I f)/\(g=f\/g=c.heap.size):=by
 obtain⟨af,k,H,u,z,-⟩:=run_append_own_string c m i j p d e s t q x w v _ a l r b O8 E B;obtain⟨g,n,rfl,-,-⟩:=u.form G;refine⟨g,n,k,H,u,z,?_⟩;rcases r.2 with⟨o,-⟩|⟨U,O,y,o,Y,D,ac,aa,ab,ad⟩
 ·cases o
 ·simp[Value.slice.injEq,Addr.mk.injEq,and_true,true_and]at o;obtain⟨rfl,rfl⟩:=o;by_cases M:a+b.size<=h
  ·have K:=run_append_room_string c i j p d e s t q w f a h y D b M O1;grind
  ·have ae:(L l)=a:=O6;have K:=run_append_grow_string c i j p d e (V .u8 0) s t q x ⟨f,0,N⟩ a h l O6 (r.cells rfl) b O1 O1 (by rw[v];exact growslice_fits O1 O1);grind
def iz(b:BJ)(a:Nat):Nat:=if a=0 then 11 else if a=17 then 3+5*L b.alts else if J1 a<=JE a then 4 else 1
theorem Si(a:CO m=true):m.size<=16:=by
 simp[CO,decide_eq_true_eq]at a;omega
def zz(a:BJ):Nat:=iz a a.op.toNat
def gz(g:Bx):Nat:=22+(g.Bj.map zz).sum
def fz(a:BD):Nat:=25+18*L a.BG+(a.Bv.map gz).sum
end Go.Proofs.YtpkbnogifdlcmaaGreatDoor
