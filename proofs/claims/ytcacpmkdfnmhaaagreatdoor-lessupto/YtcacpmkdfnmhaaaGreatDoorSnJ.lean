import Derived.Test.YtcacpmkdfnmhaaaGreatDoorTdJ
set_option linter.unusedSimpArgs false
set_option maxRecDepth 100000
set_option maxHeartbeats 4000000
open And renaming intro->Aq4
open Go renaming Calls->Av,Value->X,World->Q
open Go.Ending renaming returned->F
open Go.IntKind renaming i64->C
open Go.Proofs.Tryz renaming prog->Aa
open Go.Value renaming agg->T,int->V,pointer->J,slice->W,tuple->R
open List renaming length->L
open Option renaming none->N,some->I
open Or renaming inl->Ba,inr->Aq5
namespace Go.Proofs.YtcacpmkdfnmhaaaGreatDoor
open Go.RowKit Go.Sort
variable{w s m j:Nat}{n p H:World}{c:Bq}{y:List Nat}{d:List Bt}{G:Option Addr}{n0:Nat->Int×Option Addr×Nat×Nat}{b i r M wu ny:Value}{wz:List B0}{wh:List Bx}{nc:List (Cg×Value)}{w8:List (Gk×Value)}{K:List UInt8}{q nr:Br}{o:Int}{wo:Nat->Nat->Int}{wq:Bx}{np:Prop}{vm:AR}
theorem Ap0(b:List Int)(a:Nat)(c:Int):(BX b).set a (V .i32 c)=BX (b.set a c):=by simp[BX,List.map_set]
structure L5 (j:Nat) (o wr:Q) (c d:Nat) (b:List Nat) (k:Bq) (e:List (Cg×X)) (g:List (Gk×X)) (f l i h n:X):Prop where
 m:BH j wr c d k e g f l i h n
 a:AF b o wr
theorem L5.bE{k:Nat}{q wr p:Q}{c d:Nat}{b:List Nat}{l:Bq}{e:List (Cg×X)}{g:List (Gk×X)}{f n j h o:X}(i:L5 k q wr c d b l e g f n j h o)(hb:Below wr.heap.size wr p):L5 k q p c d b l e g f n j h o:=⟨i.m.bE hb,i.a.then hb⟩
theorem Agq{K:Nat}{w:Q}{M U:Nat}{st:Bq}{aD:List Nat}(Y:Int->Bq->Bq)(e:Nat)(D:List Bx)(ae:Option Addr)(ad ac:Nat)(o:Et K w (W ae ad ac) D)(t:MM K w M U st aD)(bH:(L st.stack)<=1000000000)(hb:0<=st.fr.base/\st.fr.base<L st.stack)(a4:∀r∈st.stack,0<=r/\r<(L st.cells:Int))(bD:e<=1000000)(a1:∀bm f aE,MM K f M U st aE->Av Aa 150 #[J (I ⟨M,0,N⟩),V .i32 bm] f λl b8=>BL K M U aE f (Y bm st) (R #[]) l b8):
 Av Aa 148 #[J (I ⟨M,0,N⟩),T #[V C (e:Int),W ae ad ac]] w λl f=>BL K M U aD w (I4 Y e D st) (R #[]) l f:=by
 have au:=λaC=>(Ae w.heap.size w).alloc (Ac _) aC;have a0:=O0 λaC=>Ue ((t.bE (au aC)).bE (Ae _ _).drew) O1 O1;have aH:=O0 au;have bw:=O0 a1;obtain⟨B,b0⟩:∃B:Nat,st.fr.base=(B:Int):=⟨st.fr.base.toNat,O1⟩;obtain⟨aQ,aR,aj,bM,af,ar,av,t,rfl⟩:=t;obtain⟨h,sc,rfl,bE,a5⟩:=IM t.sk O1;have ah:=O0 t;have aO:O9 (∀s j (z:j<L st.stack),Below w.heap.size w s->s.cell? ⟨h,j,N⟩=I (.int .i32 st.stack[j])):=λs j z hb=>Bn hb (by rw[a5 j z];simp[BX,z]);obtain⟨aq,a2⟩:∃aq,(L st.stack:Int)-1-st.fr.base=aq:=⟨_,rfl⟩;have a8:IL st=aq:=a2;rw[a2]at a0;have bN:(w.alloc (.cells #[V C (e:Int),W ae ad ac] 229)).drew.cell? ⟨w.heap.size,0,N⟩=I (V C (e:Int)):=Cb w _ _ 0 _ rfl;by_cases bc:aq<(e:Int)
 ·have b6:B<L st.stack:=O1;rw[show I4 Y e D st=Y st.stack[B] st by unfold I4;grind];have bg:(0:Int)<=(B:Int):=O1;have bh:(B:Int)<(L st.stack:Int):=O1;clear t o au a2 a1 a5 a4 a8;go_enter Tryz.func148,Tryz.ntmps148;go_upto_region 1 with fail
  go_region_held_law (λf=>f.cell? ⟨w.heap.size,0,N⟩=I (V C (e:Int))) (assumption)
   (first
    |(go_at_call 149;refine(a0.o _).mono ?_;rintro l aw ⟨rfl,H⟩;have hb:=H▸(aH.o _).drew.drew;have p:=H▸(C2.new w _ _ _).bE (Ae _ _).drew.drew;obtain⟨am,an,-⟩:=id p;have d:=ah.o.bE hb.drew;have bK:=d.m.at 2 rfl;have b7:=d.m.at 3 rfl;rw[b0]at b7;have bL:=aO.o _ B b6 hb.drew;have ay:=O0 (bw.o st.stack[B] aw.drew _ ⟨_,_,_,_,_,_,_,d,rfl⟩);have bo:=O0 hb.drew;clear d;clear H hb p))
  go_upto_region 2 with fail
  go_region_with (first
   |(go_at_call 150;refine ay.o.mono ?_;intro l w5 k;obtain⟨rfl,-⟩:=id k;have ai:=O0 k;clear k))
  all_goals(try go_wp2)
  all_goals
   exact bF (ai.o.of (AF.bG bo.o) (λb hb=>.inl hb) rfl) O2 rfl rfl
 ·have aY:e<L st.stack:=O1;have aK:O9 (∀a,a<e->∃r:Nat,∃k:r<L st.cells,st.stack[L st.stack-2-a]'(by omega)=(r:Int)/\JK st (r:Int)=st.cells[r].kind/\EM st (r:Int)=st.cells[r].right):=λa o=>by
   have k:=a4 (st.stack[L st.stack-2-a]'(by omega)) (Ao _);refine⟨(st.stack[L st.stack-2-a]'(by omega)).toNat,O1,O1,?_,?_⟩
   ·unfold JK;grind
   ·unfold EM;grind
  have bu:O9 (∀a (o:a<e),JK st (st.stack[L st.stack-2-a]'(by omega))≠2->I4 Y e D st=CJ 3 st):=λa o bJ=>by
   unfold I4;rw[a8,if_neg bc,if_neg];intro aX;rw[Ark]at aX;have d:st.stack[L st.stack-2-a]'(by omega)∈Ks e st:=by
    have:=Yk (st:=st) aY o;grind
   grind
  have br:O9 ((∀a (o:a<e),JK st (st.stack[L st.stack-2-a]'(by omega))=2)->I4 Y e D st={st with stack:=Dy (EM st) st.stack e,fr:=⟨st.fr.base,D,0⟩}):=λaX=>by
   unfold I4;rw[a8,if_neg bc,if_pos];rw[Ark];intro r k;obtain⟨i,a3,rfl⟩:=Ari k;have bI:(Ks e st).length=e:=by unfold Ks;simp;omega
   have:=Yk (st:=st) (j:=e-1-i) aY O1;grind
  have aP:O9 (∀a,a<e->∀s:Q,s.cell? ⟨M,2,N⟩=I (W (I ⟨h,0,N⟩) (L st.stack) sc)->Av Aa 146 #[J (I ⟨M,0,N⟩),V C ((a:Int)+1)] s λl f=>l=F (J (I ⟨h,L st.stack-2-a,N⟩))/\f=s.drew):=λa o s x=>by
   have:=Kr (a+1) x O1 O1;grind
  have be:∀b,b∈vB aj\/b=M\/b=w.heap.size->b≠h:=λb hb l=>by
   subst l;have d:b∈vB (W (I ⟨b,0,N⟩) (L st.stack) sc):=by rw[DV];simp
   rcases hb with hb|rfl|rfl
   ·exact(A8.1 (Arf.1 t.nd).2).2.2 b hb b (Ad _ d) rfl
   ·exact(Arf.1 t.nd).1 (Ah _ (Ad _ d))
   ·exact Atu _ (Fc t.sk d).2
  have ap:=O0 be;have bs:=O0 o;clear t o au a1 a5 a4 be;go_enter Tryz.func148,Tryz.ntmps148;go_upto_region 1 with fail
  go_region_held_law (λf=>f.cell? ⟨w.heap.size,0,N⟩=I (V C (e:Int))) (assumption)
   (first
    |(go_at_call 149;refine(a0.o _).mono ?_;rintro l aw ⟨rfl,H⟩;have hb:=H▸(aH.o _).drew.drew;have p:=H▸(C2.new w _ _ _).bE (Ae _ _).drew.drew;obtain⟨am,an,-⟩:=id p;have aG:=O0 hb;have aI:=O0 p;clear H hb p))
  go_wp2;go_loopw [26] (λaf wr=>∃a:Nat,a<=e/\af=V C (a:Int)/\O9 (Below aw.heap.size aw wr)/\O9 (∀j (z:j<a) (ba:j<e),JK st (st.stack[L st.stack-2-j]'(by omega))=2)) (λaf _=>e-(intOf af).toNat)
  case atStart=>exact⟨0,Ak _,rfl,Ae _ _,λj z=>absurd z O1⟩
  case round=>
   rename Q=>wr
   obtain⟨a,bG,rfl,ao,aF⟩:=hrel;have G:=aG.o.trans (ao.o.mono aG.o.size);clear am an;by_cases o:a<e
   ·obtain⟨r,k,E,aS,-⟩:=aK.o a o;have d:=ah.o.bE G.drew;obtain⟨cg,cc,fp,bz,bx,aa,k0,-⟩:=d.cellAt (r:=r) k;have ag:=d.m.at 1 rfl;have ax:=d.m.at 2 rfl;have al:=aO.o _ (L st.stack-2-a) O1 G.drew;have aL:O9 (JK st (st.stack[L st.stack-2-a]'(by omega))=st.cells[r].kind):=by show _=_;rw[E];exact aS
    rw[aa]at ag;rw[E]at al;have bg:(0:Int)<=(r:Int):=O1;have bh:(r:Int)<(L st.cells:Int):=O1;have b2:(a:Int)<(e:Int):=O1;have b5:IntKind.i64.wrap ((a:Int)+1)=(a:Int)+1:=JO O1;have bt:=O0 (IF 3 ⟨_,_,_,_,_,_,_,d.bE (Ae _ _).drew,rfl⟩);have bp:=O0 G.drew.drew;generalize st.cells[r].kind=kd at*;clear G d E aS aa;go_upto_region 6 with fail
    go_region_held_law (λf=>f.cell? ⟨M,1,N⟩=I (W (I ⟨cg,0,N⟩) (L st.cells) cc)/\f.cell? ⟨h,L st.stack-2-a,N⟩=I (V .i32 (r:Int))/\f.cell? ⟨cg,r*5,N⟩=I (V .u8 kd)) (exact⟨ag,al,k0⟩)
     (first
      |(go_at_call 146;refine(aP.o a o _ ax).mono ?_;rintro l bl ⟨rfl,rfl⟩))
    by_cases x:kd=2
    ·subst x;go_wp2;refine⟨⟨a+1,O1,by go_num,ao.o.drew.drew,λj z ba=>?_⟩,by simp[intOf];omega⟩;by_cases bb:j=a
     ·subst bb;exact aL.o
     ·exact aF.o j O1 ba
    ·go_wp2_with (first
      |(go_at_call 101;refine bt.o.mono ?_;intro l w5 k;obtain⟨rfl,-⟩:=id k;have ai:=O0 k;clear k))
     rw[bu.o a o (by rw[aL.o];exact x)];exact bF (ai.o.of (AF.bG bp.o) (λb hb=>.inl hb) rfl) O2 rfl rfl
   ·obtain rfl:a=e:=O1;have b2:¬((a:Int)<(a:Int)):=O1;obtain⟨am,an,-⟩:=aI.o.bE ao.o;have aJ:O9 (L5 K w wr M U (mB M aj (W (I ⟨h,0,N⟩) (L st.stack) sc) ar av) {st with stack:=Dy (EM st) st.stack 0} aQ aR aj (W (I ⟨h,0,N⟩) (L st.stack) sc) af ar av/\C2 wr w.heap.size (V C (a:Int)) (W ae ad ac)):=by
     rw[Anq];exact⟨⟨ah.o.bE G,AF.bG G⟩,aI.o.bE ao.o⟩
    clear G;go_wp2;go_loopw [48] (λa9 O=>∃j:Nat,j<=a/\a9=V C (j:Int)/\O9 (L5 K w O M U (mB M aj (W (I ⟨h,0,N⟩) (L st.stack) sc) ar av) {st with stack:=Dy (EM st) st.stack j} aQ aR aj (W (I ⟨h,0,N⟩) (L st.stack) sc) af ar av/\C2 O w.heap.size (V C (a:Int)) (W ae ad ac))) (λa9 _=>a-(intOf a9).toNat)
    case atStart=>exact⟨0,Ak _,rfl,aJ.o⟩
    case round=>
     rename Q=>O
     clear am an aJ;obtain⟨j,bb,rfl,bq⟩:=hrel;obtain⟨d,p⟩:=bq.o;by_cases z:j<a
     ·obtain⟨r,k,E,-,aT⟩:=aK.o j z;have a6:=P4 (EM st) st.stack j O1;have bf:=P4 (EM st) st.stack (j+1) O1;have ab:=d.m.sk;simp only[a6]at ab;obtain⟨cg,cc,fp,bz,bx,aa,-,-,-,aB,-⟩:=d.m.cellAt (r:=r) k;have ag:=d.m.m.at 1 rfl;have ax:=d.m.m.at 2 rfl;have aZ:=ap.o cg (.inl (by rw[aa,DV];simp));have aW:=ap.o M (.inr (.inl rfl));rw[aa]at ag;have al:O.cell? ⟨h,L st.stack-2-j,N⟩=I (V .i32 (r:Int)):=by
       rw[ab.cellAt _ O1,<-E];unfold BX;rw[Arc,QI _ _ _ _ O1,if_pos O1,AA O1];rfl
      simp only[<-aT]at aB;have bn:∃u,O.cell? ⟨h,L st.stack-1-j,N⟩=I u:=⟨_,by rw[ab.cellAt _ O1];exact AA (by unfold BX;rw[Ax,a6];omega)⟩;obtain⟨u,bn⟩:=bn;have bC:=ab.frozenAt (L st.stack-1-j);have a7:=(ab.stored (L st.stack-1-j) (V .i32 (EM st (r:Int)))).1;rw[Ap0,<-E,<-Ao5 (EM st) st.stack j O1,E]at a7;obtain⟨bj,bk⟩:=d.m.eX (AF.FZ (j:=L st.stack-1-j) (v:=W (I ⟨h,0,N⟩) (L st.stack) sc) rfl (V .i32 (EM st (r:Int)))) (s':=Dy (EM st) st.stack (j+1)) (by rw[bf];exact a7);have ak:=λb (hb:b≠h)=>Az O ⟨h,L st.stack-1-j,N⟩ (V .i32 (EM st (r:Int))) b hb;have aM:=O0 (Aq4 (L5.mk bj (d.a.trans bk λb hb=>.inl hb)) (C2.mk (DA (ak _ (ap.o _ (.inr (.inr rfl)))) p.c0) (DA (ak _ (ap.o _ (.inr (.inr rfl)))) p.c1) (by simpa using p.lt)));have az:=aP.o j z;have bv:=O0 λ(s:Q) x=>Kr (w:=s) (M:=M) (g:=h) (c:=sc) (n:=L st.stack) j x O1 O1;have aN:=O0 (Aq4 (DA (ak M aW) ag) (Aq4 ((Fp (w:=O) (b:=h) (y:=V .i32 (EM st (r:Int))) (show L st.stack-1-j≠L st.stack-2-j by omega)).trans al) (DA (ak cg aZ) aB)));have bg:(0:Int)<=(r:Int):=O1;have bh:(r:Int)<(L st.cells:Int):=O1;have b1:(j:Int)<(a:Int):=O1;have b5:IntKind.i64.wrap ((j:Int)+1)=(j:Int)+1:=JO O1;generalize EM st (r:Int)=q at*;have az:=O0 az;clear d p a6 bf ab aZ aW a7 bj bk ak E aT aa;go_upto_region 12 with fail
      go_region_held_law (λf=>f.cell? ⟨M,1,N⟩=I (W (I ⟨cg,0,N⟩) (L st.cells) cc)/\f.cell? ⟨h,L st.stack-2-j,N⟩=I (V .i32 (r:Int))/\f.cell? ⟨cg,r*5+3,N⟩=I (V .i32 q)) (first|(with_reducible exact aN.o)|((try simp only[Uv]);with_reducible first|exact⟨ag,al,aB⟩|exact aN.o))
       (first
        |(go_at_call 146;first|((with_reducible refine(az.o _ ?_).mono ?_);(·exact ax);rintro l bl ⟨rfl,rfl⟩)|((with_reducible refine(bv.o _ ?_).mono ?_);(·exact ax);rintro l bl ⟨rfl,rfl⟩)))
      all_goals(try go_wp2)
      all_goals
       refine⟨⟨j+1,O1,by go_num,aM.o.1.bE (Ae _ _).drew.drew.drew,aM.o.2.bE (Ae _ _).drew.drew.drew⟩,by simp[intOf];omega⟩
     ·obtain rfl:j=a:=O1;have b1:¬((j:Int)<(j:Int)):=O1;have bi:=bs.o.fr (d.a.low (λb hb=>(ah.o.rg b hb).1) ah.o.lz);have x:=d.m.cO (i:=4) (u:=W ae ad ac) (st':={st with stack:=Dy (EM st) st.stack j,fr:=⟨st.fr.base,D,st.fr.at_⟩}) rfl O1 rfl rfl rfl rfl bi;have aV:=x.cO (i:=5) (u:=V C 0) (st':={st with stack:=Dy (EM st) st.stack j,fr:=⟨st.fr.base,D,0⟩}) rfl O1 rfl rfl rfl rfl x.cd;have ai:=O0 (H3 (r:=R #[]) ⟨aV,(d.a.set (.inl (.head _)) _).set (.inl (.head _)) _,λb hb=>.inl hb⟩);have ay:=O0 (br.o λi a3=>aF.o i a3 a3);have bO:=d.m.m.at 4 rfl;have bP:=d.m.m.at 5 rfl;have b9:=d.m.m.fz 4;have bB:=d.m.m.fz 5;obtain⟨am,an,-⟩:=p;clear d bi x aV;go_wp2;rw[ay.o];exact bF ai.o O2 rfl rfl
theorem VJ(a:Int)(b:MM w n s m c y)(hb:0<=c.fr.base/\c.fr.base<(L c.stack:Int))(e:(L c.stack)<=5000000000)(g:(L c.BF)<=1000000000000):
 Av Aa 150 #[J (I ⟨s,0,N⟩),V .i32 a] n λf h=>BL w s m y n (Gs a c) (R #[]) f h:=by
 by_cases d:c.BF=[]
 ·refine Acn a c.fr.base.toNat b d ?_ ?_ e<;>omega
 ·refine An3 a c.fr.base.toNat b d ?_ ?_ e g<;>omega
structure Hl (c:Nat) (d:Q) (e:Nat) (a:List Bt) (g:Option Addr) (f:Nat) (b:Nat->Int×Option Addr×Nat×Nat):Prop where
 pg:Pg c d e (L a) g f b
 ar:∀i (h:i<L a),(b i).1=a[i].arity/\0<=a[i].arity/\a[i].arity<=255
 cd:∀i (h:i<L a),Et c d (W (b i).2.1 (b i).2.2.1 (b i).2.2.2) a[i].code
theorem Hl.low{b:Nat}{h i:Q}{d:Nat}{g:List Bt}{f:Option Addr}{e:Nat}{c:Nat->Int×Option Addr×Nat×Nat}(a:Hl b h d g f e c)(hb:Below b h i):Hl b i d g f e c:=⟨a.pg.low hb,a.ar,λk j=>(a.cd k j).fr hb⟩
def Lf(a:List Bt)(b:Int)(c:Bq):Bq:=I4 Gs ((a[b.toNat]?).getD ⟨⟨#[]⟩,0,false,[]⟩).arity.toNat ((a[b.toNat]?).getD ⟨⟨#[]⟩,0,false,[]⟩).code c
def Yo(b:List Bt)(a:Bq):Bq:=FJ (Lf b) Gs (a.sm-a.su).toNat a
theorem Afb{g:Nat}(e:MM w n g m c y)(i:Hl w n m d G j n0)(x:Wf (L d) c)(z:(L c.BF)<=1000000000):
 Av Aa 98 #[J (I ⟨g,0,N⟩)] n λr l=>BL w g m y n (Yo d c) (R #[]) r l:=by
 refine Ant (Lf d) Gs (λc=>L c.BF<=1000000000) e i.pg x z (λc e=>e) (λc f e=>e) (λc f e=>e) (λa p l k q h hb u o b=>?_) (λf l k q h u o b=>?_)
 ·let ⟨t,E,H⟩:=i.ar a p
  have B:Lf d a k=I4 Gs d[a].arity.toNat d[a].code k:=by
   unfold Lf;grind
  rw[B,t];have:=Agq Gs d[a].arity.toNat d[a].code (n0 a).2.1 (n0 a).2.2.1 (n0 a).2.2.2 ((i.cd a p).fr hb) h b.2.2 ⟨b.1,b.2.1⟩ o.s O1 (λf K D v=>VJ f v ⟨b.1,b.2.1⟩ O1 O1);grind
 ·exact VJ f h ⟨b.1,b.2.1⟩ O1 O1
def Lh(c:List B0)(a:Bq):Bq:=
 if (ER a).kind≠3 then CJ 3 a
 else match c.find? (λb=>decide (b.tag=(ER a).n)) with
  |some b=>{a with fr:={a.fr with at_:=b.tgt}}
  |none=>CJ 4 a
def LQ(g:Nat)(e:Q)(h:X)(c:List B0):Prop:=∃d f,h=W d (L c) f/\∀a (i:a<L c),∃b,b<g/\d=I ⟨b,0,N⟩/\e.cell? ⟨b,a*2,N⟩=I (.int .u8 c[a].tag)/\e.cell? ⟨b,a*2+1,N⟩=I (.int .u16 c[a].tgt)
theorem LQ.fr(c:LQ w n b wz)(hb:Below w n p):LQ w p b wz:=by
 let ⟨l,e,f,c⟩:=c
 refine⟨l,e,f,λk j=>?_⟩;let ⟨a,d,g,h,i⟩:=c k j
 exact⟨a,d,g,DA (hb.block a d) h,DA (hb.block a d) i⟩
theorem Et.alts(q:Et w n b wh){a:Nat}(u:a<L wh):∃h i,h<w/\b=W (I ⟨h,0,N⟩) (L wh) (L wh)/\n.cell? ⟨h,a*3+2,N⟩=I i/\LQ w n i wh[a].alts:=by
 rcases q with⟨-,rfl⟩|⟨k,e,hb,v,s,t,r⟩
 ·simp at u
 ·have z:(L e)=L wh:=by grind
  have y:a<L e:=O1;have m:wh[a]=e[a].1:=by simp[<-s]
  let ⟨l,p,o,j⟩:=r e[a] (Ao _)
  refine⟨k,e[a].2,hb,v,?_,?_⟩
  ·have f:(a*3+2) / 3=a:=O1;have g:(a*3+2) % 3=2:=O1;rw[t.c _ O1,LK O6];simp[f,g,AN];rfl
  ·rw[m];refine⟨_,_,o,λd x=>⟨l,p,rfl,?_,?_⟩⟩
   ·have f:(d*2) / 2=d:=O1;have g:(d*2) % 2=0:=O1;rw[j.c _ O1,LK O6];simp[f,g,AN];rfl
   ·have f:(d*2+1) / 2=d:=O1;have g:(d*2+1) % 2=1:=O1;rw[j.c _ O1,LK O6];simp[f,g,AN];rfl
theorem Aov{q:Nat}{w:Q}{e v:Nat}(a:List B0)(au:X)(ag:LQ q w au a)(az:∀d∈a,(0<=d.tag/\d.tag<=255)/\0<=d.tgt/\d.tgt<=65535)(bw:(L a)<=1000000)(h:MM q w e v c y)(bv:(L c.stack)<=1000000000){s:List Int}{r:Nat}(U:c.stack=s++[(r:Int)])(x:r<L c.cells):
 Av Aa 158 #[J (I ⟨e,0,N⟩),au] w λj t=>BL q e v y w (Lh a c) (R #[]) j t:=by
 obtain⟨bk,bj,rfl,ax⟩:=id ag;have a2:=Y4 U x;have aG:=O0 ag;have aw:=h;obtain⟨aM,aN,bn,b7,a5,aO,be,h,ad⟩:=h;have bx:(L c.stack)=L s+1:=by rw[U];simp
 obtain⟨z,sc,rfl,-,a1⟩:=IM h.sk O1;obtain⟨cg,cc,fp,bp,bo,rfl,k0,a4,-⟩:=h.cellAt (r:=r) x;have al:w.cell? ⟨z,L s,N⟩=I (V .i32 (r:Int)):=by
  rw[a1 _ O1,U];simp[BX]
 have ak:=h.m.at 1 rfl;have aC:w.drew.cell? ⟨e,1,N⟩=_:=ak;have aE:w.drew.cell? ⟨z,L s,N⟩=_:=al;have aD:w.drew.drew.cell? ⟨e,1,N⟩=_:=ak;have aF:w.drew.drew.cell? ⟨z,L s,N⟩=_:=al;have ar:O9 (∀B,B=w.drew->Av Aa 146 #[J (I ⟨e,0,N⟩),V C 0] B λj t=>j=F (J (I ⟨z,L s,N⟩))/\t=B.drew):=λB M=>by
  subst M;have:=Kr (w:=w.drew) 0 (h.m.at 2 rfl) O1 O1;rw[show L c.stack-1-0=L s by omega]at this;exact this
 have ao:O9 (∀g,Below w.heap.size w g->(g.cell? ⟨cg,r*5,N⟩=I (.int .u8 c.cells[r].kind)/\g.cell? ⟨cg,r*5+1,N⟩=I (.int C c.cells[r].n))/\(∃a9,g.cell? ⟨e,5,N⟩=I a9)/\g.frozen? ⟨e,5,N⟩=false):=λg hb=>⟨⟨Bn hb k0,Bn hb a4⟩,⟨_,(h.bE hb).m.at 5 rfl⟩,(h.bE hb).m.fz 5⟩;have ap:O9 (∀b g,Below w.heap.size w g->Av Aa 101 #[J (I ⟨e,0,N⟩),V C b] g λj aB=>j=F (R #[])/\O9 (BL q e v y w (CJ b c) (R #[]) (F (R #[])) aB)):=λb g ay=>(IF b (aw.bE ay)).mono λj aB x=>⟨x.1,x.of (AF.bG ay) (λav hb=>Ba hb) rfl⟩;have aI:O9 (∀(D:Int) g,Below w.heap.size w g->BL q e v y w {c with fr:={c.fr with at_:=D}} (R #[]) (F (R #[])) (g.setCell ⟨e,5,N⟩ (V C D))):=λD g hb=>by
  have aR:=(h.bE hb).cO (i:=5) (u:=V C D) (st':={c with fr:={c.fr with at_:=D}}) (kv':=a5) rfl O1 rfl rfl rfl rfl (h.bE hb).cd;exact⟨rfl,(AF.bG hb).set (Ba (by rw[ad];exact Aqu ..)) _,_,⟨aM,aN,_,_,a5,aO,be,aR,rfl⟩,λav hb=>Ba (by rw[ad];exact hb)⟩
 have aV:=h.lz;have aH:=O0 az;have bz:(0:Int)<=(r:Int):=O1;have b0:(r:Int)<(L c.cells:Int):=O1;have H:O9 (Lh a c=if c.cells[r].kind≠3 then CJ 3 c else match a.find? (λd=>decide (d.tag=c.cells[r].n)) with|some d=>{c with fr:={c.fr with at_:=d.tgt}}|none=>CJ 4 c):=by
  show _=_;unfold Lh;rw[a2]
 generalize c.cells[r].kind=kd at*;generalize c.cells[r].n=nn at*;clear h aw a1 k0 a4 ad ag a2 az U;go_enter Tryz.func158,Tryz.ntmps158;go_upto_region 0 with fail
 go_region_held_law (λt=>t.cell? ⟨e,1,N⟩=I (W (I ⟨cg,0,N⟩) (L c.cells) cc)/\t.cell? ⟨z,L s,N⟩=I (V .i32 (r:Int))) (first|(with_reducible exact⟨aC,aE⟩)|(with_reducible exact⟨aD,aF⟩))
  (first
   |(go_at_call 146;with_reducible refine(ar.o _ rfl).mono ?_;rintro j B ⟨rfl,rfl⟩))
 obtain⟨o,ai⟩:∃o,w.drew.drew=o:=⟨_,rfl⟩;have E:O9 (Below w.heap.size w o):=by rw[<-ai];exact(Ae _ _).drew.drew
 rw[ai];obtain⟨⟨bf,bg⟩,-⟩:=ao.o o E.o;clear ak al aC aE aD aF ar ai;by_cases M:kd=3
 ·subst M;have K:O9 (Lh a c=match a.find? (λd=>decide (d.tag=nn)) with|some d=>{c with fr:={c.fr with at_:=d.tgt}}|none=>CJ 4 c):=by
   show _=_;rw[H.o,if_neg O2]
  clear H;go_wp2;go_loopw [25] (λaj wr=>∃b:Nat,b<=L a/\aj=V C (b:Int)/\O9 (Below o.heap.size o wr)/\O9 (∀i (k:i<L a),i<b->a[i].tag≠nn)) (λaj _=>L a-(intOf aj).toNat)
  case atStart=>exact⟨0,Ak _,rfl,Ae _ _,λi _ k=>absurd k O1⟩
  case round=>
   clear bf bg;rename Q=>wr
   obtain⟨b,bu,rfl,aa,ab⟩:=hrel;have G:=O0 (E.o.trans (aa.o.mono E.o.size));by_cases O:b<L a
   ·have aT:(b:Int)<(L a:Int):=O1;have bt:(0:Int)<=(b:Int):=O1;obtain⟨av,br,rfl,-⟩:=ax b O;obtain⟨b6,bm,aP,a3⟩:=aG.o.fr (G.o.mono aV);cases aP;obtain⟨bl,bq,aQ,bh,bi⟩:=a3 b O;cases aQ;obtain⟨⟨aZ,ba⟩,bb,bc⟩:=aH.o _ (Ao O);have aX:IntKind.i64.wrap a[b].tag=a[b].tag:=JO O1;have aW:IntKind.i64.wrap a[b].tgt=a[b].tgt:=JO O1;have am:O9 (∀f,Below wr.heap.size wr (wr.alloc f).drew):=λf=>bA.drew;have an:O9 (∀f,Below w.heap.size w (wr.alloc f).drew):=λf=>G.o.trans ((am.o f).mono G.o.size);have Y:=λf=>ao.o _ (an.o f);have a6:=λf=>(Y f).1.2;have a7:=λf=>(Y f).2.1;have a8:=λf=>(Y f).2.2;obtain⟨l,ae⟩:∃l,a[b].tag=l:=⟨_,rfl⟩;obtain⟨p,af⟩:∃p,a[b].tgt=p:=⟨_,rfl⟩;have aq:=O0 ae;have aL:=O0 af;rw[ae]at bh aX;rw[af]at bi aW;clear Y a3 ax ae af aZ ba bb bc;obtain⟨a9,b1⟩:=a7 (.cells #[V .u8 l,V .u16 p] 360);have b2:=a8 (.cells #[V .u8 l,V .u16 p] 360);have aY:=a6 (.cells #[V .u8 l,V .u16 p] 360);have b5:(wr.alloc (.cells #[V .u8 l,V .u16 p] 360)).cell? ⟨cg,r*5+1,N⟩=I (V C nn):=aY;clear a6 a7 a8;go_upto_region 6 with fail
    go_region
    all_goals
     by_cases a0:l=nn
     ·subst a0;go_wp2;refine bF ?_ O2 rfl rfl;have ah:a.find? (λd=>decide (d.tag=l))=I a[b]:=by
       rw[List.find?_eq_some_iff_getElem];exact⟨by simp[aq.o],b,O,rfl,λi k=>by simpa using ab.o i O1 k⟩
      have:=K.o;rw[ah]at this;rw[this];show BL q e v y w {c with fr:={c.fr with at_:=a[b].tgt}} _ _ _;rw[aL.o];exact aI.o _ _ (an.o _)
     ·go_wp2;refine⟨⟨b+1,O1,by go_num,aa.o.trans ((am.o _).mono aa.o.size),λi k bs=>?_⟩,by simp[intOf];omega⟩;by_cases j:i=b
      ·subst j;rw[aq.o];exact a0
      ·exact ab.o i k O1
   ·obtain rfl:b=L a:=O1;have aT:¬((L a:Int)<(L a:Int)):=O1;have aK:=O0 (ap.o 4 wr G.o);go_wp2_with (first
     |(go_at_call 101;refine aK.o.mono ?_;rintro j w5 ⟨rfl,ac⟩))
    refine bF ?_ O2 rfl rfl;have ah:a.find? (λd=>decide (d.tag=nn))=none:=by
     rw[List.find?_eq_none];intro d aS;obtain⟨i,k,rfl⟩:=Ari aS;simpa using ab.o i k k
    have:=K.o;rw[ah]at this;rw[this];exact ac.o
 ·have aJ:=O0 (ap.o 3 o E.o);have K:O9 (Lh a c=CJ 3 c):=by
   show _=_;rw[H.o,if_pos M]
  clear H;go_wp2_with (first
   |(go_at_call 101;refine aJ.o.mono ?_;rintro j w5 ⟨rfl,ac⟩))
  refine bF ?_ O2 rfl rfl;rw[K.o];exact ac.o
def OP(a:Bq):Bq:={a with BF:=a.BF++[a.fr],fr:={a.fr with base:=(L a.stack:Int)-1}}
theorem Ap5:ET 91 90 3 40:=.of Tryz.underlying91 (z:=T #[V C 0,W N 0 0,V C 0]) O3 rfl O1 O1
def Nn(h f g:Nat)(a:List Nat)(d:Q)(i:Bq)(e:Q):Prop:=∃b,MM h e f g i b/\AF a d e/\∀c∈b,c∈a\/d.heap.size<=c
theorem Nn.drew{c M b:Nat}{a:List Nat}{e:Q}{d:Bq}{f:Q}(h:Nn c M b a e d f):Nn c M b a e d f.drew:=
 have ⟨g,i,j,k⟩:=h
 ⟨g,i.bE (Ae _ _).drew,j.drew,k⟩
theorem BH.fv{f:Nat}(h:BH w n s f c nc w8 b i r M wu)(hb:Below n.heap.size n H)(e:Df H 90 3 M ny (L w8+1) (w8.flatMap IA++IA (c.fr,r)) p):BN p s (mL f b i r M wu c)/\BH w (p.setCell ⟨s,6,N⟩ ny) s f {c with BF:=c.BF++[c.fr]} nc (w8++[(c.fr,r)]) b i r ny wu/\AF (mB s b i M wu) n (p.setCell ⟨s,6,N⟩ ny)/\∀g∈mB s b i ny wu,g∈mB s b i M wu\/n.heap.size<=g:=by
 have a:=h.bE hb;have j:=a.fd e.af (ds':=w8++[(c.fr,r)]) (by simpa using e.lo a.lz λg hb=>(Fc a.dp hb).1) (λq d=>by
  rcases Ag.1 d with d|d
  ·exact a.dc q d
  ·obtain rfl:=Aq.1 d;exact a.cd) λo k=>(e.nb o k).1
 rw[AJ,h.FA]at j;exact⟨a.m.bX (e.af.block s a.m.lt λl=>(Arf.1 h.nd).1 (Ah _ (Ah _ (Ad _ l)))) e.af.size,Jz (AF.bG hb) (λ_ hb=>.inl hb) j⟩
theorem Aid{d h:Nat}{b:Bq}(B:Bq->Prop)(a:MM w n d h b y)(ap:EV b)(t:DC b=true){l:Nat}(H:b.fr.at_=(l:Int))(ao:l<L b.fr.code)(bh:l<=1000000000)(aL:b.fr.code[l].op=8)(bk:0<L b.stack)(bj:(L b.stack)<=1000000000)(aJ:(L b.BF)<=1000000000)(ak:∀p aa,MM w p d h (OP (Cn (BR b))) aa->Below w n p->Av Aa 98 #[J (I ⟨d,0,N⟩)] p λg aW=>∃e,B e/\BL w d h aa p e (R #[]) g aW):
 Av Aa 99 #[J (I ⟨d,0,N⟩)] n λg p=>∃e,B e/\BL w d h y n e (R #[]) g p:=by
 have af:=O0 (Qi a ap t H ao);have ac:=O0 a.dx;have ar:(Cn (BR b)).stack=b.stack:=by rw[D3 t];rfl
 have aK:(Cn (BR b)).BF=b.BF:=by rw[D3 t];rfl
 have an:(Cn (BR b)).fr.at_=(l:Int)+1:=by rw[D3 t];simp[Cn,H]
 generalize hs1:Cn (BR b)=s1 at*;have bl:IntKind.i64.wrap ((L b.stack:Int)-1)=(L b.stack:Int)-1:=JO O1;have a4:=O0 ak;clear a t ap H ak;go_enter Tryz.func99,Tryz.ntmps99;go_wp2_with (first
  |(go_at_call 50;refine af.o.mono ?_;rintro g aX ⟨rfl,a7,bo,c,aZ,bi,aE,aF,aG,ah,ai,aH,aI,G,r,aj⟩;rw[AA ao,Arn,aL]at ah;rw[hs1]at G;have z:=O0 G;have ab:=O0 r;have a2:=O0 aj;clear af ai G r aj aI aH))
 go_region
 go_upto_region 26 with fail
 obtain⟨f,am⟩:∃f,(aX.setCell ⟨d,5,N⟩ (V C ((l:Int)+1))).drew=f:=⟨_,rfl⟩;rw[am]at z ab ⊢;clear am aE aF aG ah;obtain⟨a8,q,a9,aS,av,aD,aT,a,rfl⟩:=z.o;obtain⟨aR,sc,rfl⟩:=BW a.sk;obtain⟨aC,aB,rfl⟩:=BW a.dp;obtain⟨U,O,M,rfl⟩:∃U O M,av=W U O M:=by
  rcases a.cd with⟨g,-⟩|⟨a7,bb,-,g,-⟩<;>exact⟨_,_,_,g⟩
 have bg:(L q)<=1000000000:=by rw[<-aK,<-a.FA,Ax]at aJ;omega
 have aw:=a.m.at 3 rfl;have ax:=a.m.at 4 rfl;have Y:=a.m.at 5 rfl;have ay:=a.m.at 6 rfl;rw[an]at Y;have aN:=λo=>alloc_old f o _ _ _ aw;have aO:=λo=>alloc_old f o _ _ _ ax;have aP:=λo=>alloc_old f o _ _ _ Y;have aQ:=λo=>alloc_old f o _ _ _ ay;have ad:=O0 (Ib a.dp);have ae:=O0 λ(ag aY:Q) (aV:X) (hb:Below f.heap.size f ag) (az:Df ag 90 3 (W aC (L q) aB) aV (L q+1) (q.flatMap IA++[V C s1.fr.base,W U O M,V C ((l:Int)+1)]) aY)=>a.fv hb (by rw[<-an]at az;exact az);clear a z;go_cut [] (λa0=>O9 (Nn w d h y n {s1 with BF:=s1.BF++[s1.fr]} a0))
 case first=>
  go_region_law
   (first
    |(refine GQ Ap5 (ad.o.alloc _) (AL f _) (m:=1) (c:=1) (s:=.tmp 135) (x:=.tmp 140) rfl rfl rfl rfl rfl (by intro u au;simp at au;rcases au with rfl|rfl|rfl<;>rfl) O1 O1 ?_;intro bf ai bp aq;obtain⟨K,k⟩:=ae.o _ _ _ (by first|exact bA|exact bA.drew) aq;have bn:=K.at 6 rfl;have be:=K.fz 6;have v:O9 (Nn w d h y n {s1 with BF:=s1.BF++[s1.fr]} _):=⟨_,⟨_,_,_,_,_,_,_,k.1,rfl⟩,(Jz ab.o a2.o k).2⟩;clear aq K k))
  all_goals(try go_wp2)
  all_goals
   go_meet
   first|exact v|exact v.o.drew|exact v.o.drew.drew
 case rest=>
  rename Q=>a0
  obtain⟨ba,⟨a8,q,a9,aS,av,aD,aT,a,rfl⟩,r,E⟩:=hcut.o;obtain⟨aR,sc,rfl⟩:=BW a.sk;have aM:=a.m.at 2 rfl;have bm:=a.m.at 3 rfl;have bc:=a.m.fz 3;simp only[ar]at aM;have D:=r.set (j:=3) (E d (.head _)) (V C ((L b.stack:Int)-1));have a5:=O0 (a4.o _ _ ⟨_,_,_,_,_,_,_,a.cO (i:=3) (u:=V C ((L b.stack:Int)-1)) (st':=OP s1) (by simp[mL,OP,ar]) O1 rfl rfl rfl rfl a.cd,rfl⟩ (D.low ac.o.2 ac.o.1));have a1:=O0 D;have a3:=O0 E;clear hcut a r E D ae ad aw ax Y ay aN aO aP aQ;go_wp2_with (first
   |(go_at_call 98;refine a5.o.mono ?_;rintro g w5 ⟨e,al,k⟩;obtain⟨rfl,-⟩:=id k;have a6:O9 (∃e,B e/\BL w d h y n e (R #[]) (F (R #[])) w5):=⟨e,al,k.of a1.o a3.o rfl⟩;clear al k))
  exact bF a6.o O2 rfl rfl
def JC(a:List Bt):Nat->List JQ->List Gk
 |_,[]=>[]
 |b,f::r=>⟨(b:Int),(E4 a f.g).code,f.at_⟩::JC a (b+L f.s) r
theorem Rl(d:List Bt):∀b c a,JC d c (b++[a])=JC d c b++[⟨((c+(b.flatMap (·.s)).length:Nat):Int),(E4 d a.g).code,a.at_⟩]
 |[],c,a=>rfl
 |x::b,c,a=>by
  rw[Bf,JC,Rl d b,JC,Bf,AC,Ay];grind
structure G6 (c:List Bt) (d:List UInt8) (b:Br) (a:Bq):Prop where
 cells:a.cells=b.cells
 stack:a.stack=flat b++b.now.s
 base:a.fr.base=((flat b).length:Int)
 BF:a.BF=JC c 0 b.BF
 su:a.su=b.steps
 sm:a.sm=b.fuel
 mu:a.mu=b.used
 mm:a.mm=b.spare
 state:a.state=0
 kind:a.kind=b.kind
 text:a.text=d
structure Cd (c:List Bt) (d:List UInt8) (a:Br) (b:Bq):Prop extends G6 c d a b where
 code:b.fr.code=(E4 c a.now.g).code
 at_:b.fr.at_=a.now.at_
structure Rx (c:List UInt8) (b:Br) (a:Bq):Prop where
 state:a.state=2
 kind:a.kind=b.kind
 su:a.su=b.steps
 sm:a.sm=b.fuel
 mu:a.mu=b.used
 mm:a.mm=b.spare
 text:a.text=c
structure VW (c:List UInt8) (d:Int) (b:Br) (a:Bq):Prop where
 cells:a.cells=b.cells
 stack:a.stack=[d]
 su:a.su=b.steps
 sm:a.sm=b.fuel
 mu:a.mu=b.used
 mm:a.mm=b.spare
 state:a.state=1
 kind:a.kind=b.kind
 text:a.text=c
def CG(d:List Bt)(c:List UInt8)(a:AR)(b:Bq):Prop:=match a.2 with
 |some v=>VW c v a.1 b
 |none=>if a.1.ended then Rx c a.1 b else Cd d c a.1 b
theorem Mb(b:q.ended=false)(k:c.state=2)(j:c.kind=o)(e:c.su=q.steps)(f:c.sm=q.fuel)(g:c.mu=q.used)(h:c.mm=q.spare)(i:c.text=K):CG d K (BE o q,N) c:=by
 have a:BE o q={q with ended:=true,kind:=o}:=by unfold BE;rw[b];rfl
 rw[a];exact⟨k,j,e,f,g,h,i⟩
theorem G8(a:q.ended=false)(b:Cd d K q c):CG d K (q,N) c:=by
 unfold CG;grind
theorem Om(a:Di d q)(b:c.su=q.steps)(e:c.sm=q.fuel):DC c=Ce q:=by
 have:=a.steps;unfold DC Ce;rw[a.live,b,e,Asu];simp;omega
theorem XT(l:E5 d wo q)(a:G6 d K q c)(g:Int):CG d K (Fm g q) (Gs g c):=by
 have k:c.stack.take c.fr.base.toNat=flat q:=by rw[a.stack,a.base];simp
 unfold Gs;simp[k];rcases Asl q.BF with e|⟨h,j,e⟩
 ·have f:=a.BF;have i:flat q=[]:=by unfold flat;rw[e];rfl
  rw[e]at f;rw[Xl g e,f,i];exact⟨a.cells,rfl,a.su,a.sm,a.mu,a.mm,rfl,a.kind,a.text⟩
 ·rw[List.concat_eq_append]at e;have f:=a.BF;have i:flat q=h.flatMap (·.s)++j.s:=by unfold flat;rw[e,WA]
  rw[e,Rl]at f;rw[VY g e,f,i];simp only[List.getLast?_append,List.getLast?_singleton,Option.some_or,List.dropLast_concat];refine G8 l.b.live ⟨⟨a.cells,?_,?_,rfl,a.su,a.sm,a.mu,a.mm,a.state,a.kind,a.text⟩,rfl,rfl⟩
  ·show _=h.flatMap (·.s)++(j.s++[g]);simp
  ·show(((0+(h.flatMap (·.s)).length:Nat):Nat):Int)=((h.flatMap (·.s)).length);omega
theorem Aoe(b a:List Int)(c:0<L a):(b++a).getLast?=a.getLast?:=by
 grind
theorem Wa(b:G6 d K q c)(e:0<L q.now.s):ER c=Co q ((q.now.s.getLast?).getD 0)/\c.stack.getLast?=q.now.s.getLast?:=by
 have a:c.stack.getLast?=q.now.s.getLast?:=by rw[b.stack,Aoe _ _ e]
 refine⟨?_,a⟩;unfold ER Co;rw[a,b.cells]
theorem Afu(d:Int->Int)(c b:List Int)(a:Nat)(g:a<L b):Dy d (c++b) a=c++Dy d b a:=by
 unfold Dy;have e:(c++b).length-a=L c+(L b-a):=by simp;omega
 have f:(c++b).length-1-a=L c+(L b-1-a):=O1;rw[e,f,List.take_append,List.drop_append];simp[Arv,Asr]
theorem Af8(n:CC d wo){k:List UInt8}{c:Br}{f:Bq}(i:E5 d wo c)(a:G6 d k c f){e:Int}(p:0<=e/\e<(L d:Int)):CG d k (if (E4 d e).arity<(L c.now.s:Int) then (Il d e c,N) else Fm (c.now.s.headD 0) c) (Lf d e f):=by
 let ⟨q,j⟩:=Qu p
 let ⟨u,v⟩:=n.ar _ q
 have m:(d[e.toNat]?).getD ⟨⟨#[]⟩,0,false,[]⟩=E4 d e:=rfl;unfold Lf I4;rw[m];have x:IL f=L c.now.s-1:=by
  unfold IL;rw[a.stack,a.base];simp;omega
 by_cases h:(E4 d e).arity<L c.now.s
 ·rw[j]at h ⊢;rw[if_pos h,if_neg O1];have o:Ks d[e.toNat].arity.toNat f=Mm d[e.toNat].arity.toNat c:=by
   unfold Ks Mm;rw[a.stack];have w:(flat c++c.now.s).length-1-d[e.toNat].arity.toNat=(flat c).length+(L c.now.s-1-d[e.toNat].arity.toNat):=by simp;omega
   simp_all
  have r:∀g,JK f g=(Co c g).kind:=λg=>by unfold JK Co;rw[a.cells]
  have t:EM f=λg=>(Co c g).right:=by funext g;unfold EM Co;rw[a.cells]
  unfold Il;rw[j];simp[o,r];split
  ·refine G8 i.b.live ⟨⟨a.cells,?_,a.base,a.BF,a.su,a.sm,a.mu,a.mm,a.state,a.kind,a.text⟩,?_,rfl⟩
   ·show Dy (EM f) f.stack _=flat c++Dy _ _ _;rw[a.stack,t,Afu _ _ _ _ O1]
   grind
  ·exact Mb i.b.live rfl rfl a.su a.sm a.mu a.mm a.text
 ·rw[if_neg h,if_pos O1];have l:(f.stack[f.fr.base.toNat]?).getD 0=c.now.s.headD 0:=by
   rw[a.stack,a.base,A9,Ar8 .refl,Nat.sub_self,List.headD_eq_head?_getD,List.head?_eq_getElem?]
  rw[l];exact XT i a _
theorem G6.cG(a:G6 d K q c):G6 d K {q with steps:=q.steps+1} {c with su:=c.su+1}:=
 ⟨a.cells,a.stack,a.base,a.BF,by rw[a.su],a.sm,a.mu,a.mm,a.state,a.kind,a.text⟩
theorem QF{d:List Bt}{m:Nat->Nat->Int}(n:CC d m){r:List UInt8}:∀(c:Nat) {a:Br} {e:Bq},E5 d m a->G6 d r a e->(a.fuel-a.steps).toNat=c->CG d r (EP d c a) (FJ (Lf d) Gs c e)
 |0,a,e,hw,h,hn=>by
  have v:=hw.b.steps;have hb:=(G4 hw.b).1.2 O1;rw[EP,(G4 hw.b).2 hb,FJ];have i:=Om hw.b h.su h.sm;rw[hb]at i;unfold BR;rw[i];exact Mb hw.b.live rfl rfl h.su h.sm h.mu h.mm h.text
 |c+1,a,e,hw,h,hn=>by
  have v:=hw.b.steps;have k:a.steps≠a.fuel:=O1;have hb:Ce a=true:=by
   cases hb:Ce a with
   |true=>rfl
   |false=>exact absurd ((G4 hw.b).1.1 hb) k
  have i:=Om hw.b h.su h.sm;rw[hb]at i;obtain⟨B,z,o⟩:=Pm hw.b hw.eo;have x:=hw.ne;obtain⟨t,u⟩:=Wa h x;have q:E5 d m {a with steps:=a.steps+1}:=hw.cG k (s:=a.now.s) hw.s hw.ne O1;have f:=h.cG;have w:CL (L a.cells) a.now.s.dropLast:=by rw[Atd];exact hw.s.take _
  have y:IL e=(L a.now.s:Int)-1:=by
   unfold IL;rw[h.stack,h.base];simp;omega
  rw[EP,FJ,if_pos hb,if_pos i,D3 i];simp only[t,u,y];split
  ·rename_i j
   have:=hw.cG k (s:=a.now.s.dropLast++[(Co a ((a.now.s.getLast?).getD 0)).left]) (w.cC (CL.one (o.l (Ba j)))) O2 O5;refine QF n c this ⟨h.cells,?_,h.base,h.BF,f.su,h.sm,h.mu,h.mm,h.state,h.kind,h.text⟩ (by show(a.fuel-(a.steps+1)).toNat=c;omega);show e.stack.dropLast++_=flat a++(a.now.s.dropLast++_);rw[h.stack,List.dropLast_append_of_ne_nil O6,AH]
  ·split
   ·rename_i j
    have:=hw.cG k (s:=a.now.s++[(Co a ((a.now.s.getLast?).getD 0)).left]) (hw.s.cC (CL.one (o.l (Aq5 j)))) O2 O2;refine QF n c this ⟨h.cells,?_,h.base,h.BF,f.su,h.sm,h.mu,h.mm,h.state,h.kind,h.text⟩ (by show(a.fuel-(a.steps+1)).toNat=c;omega);show e.stack++_=flat a++(a.now.s++_);rw[h.stack,AH]
   ·split
    ·exact Mb hw.b.live rfl rfl f.su h.sm h.mu h.mm h.text
    ·split
     ·rename_i j
      exact Af8 n q f (o.g j)
     ·by_cases p:1<L a.now.s
      ·rw[if_pos p,if_pos O1];exact Mb hw.b.live rfl rfl f.su h.sm h.mu h.mm h.text
      ·rw[if_neg p,if_neg O1];exact XT q f _
def Cz(a:Br):Nat:=(a.fuel-a.steps).toNat
theorem JG(a:Di d q):(Ce q=true↔q.steps≠q.fuel)/\(Ce q=true->q.steps<q.fuel):=by
 have b:=G4 a;have c:=a.steps;grind
theorem Sv(c:LC d wo q wq o)(a:FD d wo q)(i:q.steps≠q.fuel)(j:wq.op=19):E5 d wo (BD q):=by
 have e:=a.b.steps;have f:=a.size;have g:=a.dl;have k:=(Qt c.w).2 O1;have h:=c.dl;exact⟨⟨⟨a.b.cells,a.b.nc,by show 0<=q.steps+1/\q.steps+1<=q.fuel;omega,a.b.fuel,a.b.used,a.b.spare,a.b.live⟩,a.s,a.ds,by show((flat q).length)+L q.now.s<=256*(q.steps+1+1)+q.used;omega,by show L q.BF<=q.steps+1;omega⟩,by show 0<L q.now.s;omega⟩
theorem Rp(h:LC d wo q wq o)(c:FD d wo q)(t:q.steps≠q.fuel)(u:wq.op=8):E5 d wo (HL (BD q)):=by
 have n:=c.b.steps;have p:=c.size;have r:=c.dl;have i:=(Qt h.w).1;simp[D5]at i;have s:=h.dl;let ⟨j,k,l⟩:=h.nx _ (MZ O1 c.f.a.1)
 simp[CN]at k;refine⟨⟨⟨c.b.cells,c.b.nc,by show 0<=q.steps+1/\q.steps+1<=q.fuel;omega,c.b.fuel,c.b.used,c.b.spare,c.b.live⟩,CL.one ?_,λf e=>?_,?_,?_⟩,.refl⟩
 ·rw[Ath];exact c.s.at (by show L q.now.s-1<L q.now.s;omega)
 ·rcases Ag.1 (show f∈q.BF++[{(BD q).now with s:=(BD q).now.s.dropLast}] from e) with e|e
  ·exact c.ds f e
  ·rw[Aq.1 e];refine⟨?_,⟨c.f.g,⟨by show 0<=q.now.at_+1;have:=c.f.a.1;omega,j⟩,⟨l,?_⟩⟩⟩
   ·rw[Atd];exact c.s.take _
   ·show wo q.now.g.toNat (q.now.at_+1).toNat<=((L q.now.s.dropLast+1:Nat));grind
 ·show(((q.BF++[({(BD q).now with s:=(BD q).now.s.dropLast}:JQ)]).flatMap (λf:JQ=>f.s)).length)+1<=256*(q.steps+1+1)+q.used;rw[WA,Ay];show(((flat q).length+L q.now.s.dropLast:Nat):Int)+1<=_;grind
 ·show((q.BF++[_]).length)<=q.steps+1;grind
theorem MX(c:CC d wo)(a:FD d wo q):EO d wo q (CQ d q):=by
 unfold CQ;have g:=ON c a;cases hb:Ce q with
 |false=>
  rw[(G4 a.b).2 hb];exact KX 1 nofun a.b.live rfl rfl (Arq _)
 |true=>
  have e:=(JG a.b).1.1 hb;simp only[if_true];split
  ·rename_i f
   exact(Jk c _ (Sv g a e f) rfl).after rfl rfl (by show q.steps<=q.steps+1;omega)
  ·split
   ·rename_i f
    exact(Jk c _ (Rp g a e f) rfl).after rfl rfl (by show q.steps<=q.steps+1;omega)
   ·rename_i h i
    exact Ace c a e h i
theorem Nh(b:Int)(a:Br):(BE b a).steps=a.steps:=by unfold BE;split<;>rfl
theorem Fl{P:Br->Prop}[Decidable np](a:P q)(hb:P nr):P (if np then q else nr):=by grind
theorem ZF(b:Int)(a:Br):(Cp b a).steps=a.steps:=by
 exact Fl (P:=λc=>c.steps=a.steps) rfl (Nh _ _)
theorem Aik(b:Int)(a:Br):(I7 b a).steps=a.steps:=by
 exact Fl (P:=λc=>c.steps=a.steps) (Nh _ _) rfl
theorem Aes(c:List B0)(b:Br):(HY c b).steps=b.steps:=by
 apply Fl (P:=λd=>d.steps=b.steps) (Nh _ _);cases c.find? _ with
 |none=>exact Nh _ _
 |some a=>rfl
theorem Ajn(b:Nat)(a:Br):(F4 b a).steps=a.steps:=by rw[PA]
theorem Al4(b:Bx)(a:Br):(Cl b a).steps=a.steps:=by
 repeat' (first|exact Nh _ _|exact Aik _ _|exact Aes _ _|exact ZF _ _|exact(Ajn _ _).trans (ZF _ _)|refine Fl (P:=λc=>c.steps=a.steps) ?_ ?_|exact rfl)
theorem Qa(c:CC d wo)(a:FD d wo q)(hb:Ce q=true):q.steps+1<=(CQ d q).1.steps:=by
 unfold CQ;have f:=ON c a;have g:=(JG a.b).1.1 hb;rw[hb];simp only[if_true];split
 ·rename_i e
  exact(Jk c _ (Sv f a g e) rfl).1.2.2
 ·split
  ·rename_i e
   exact(Jk c _ (Rp f a g e) rfl).1.2.2
  ·rw[Al4];exact Arq _
theorem K5(a:vm.2≠N\/vm.1.ended=true):∀b,El d b vm=vm
 |0=>rfl
 |b+1=>by
  let ⟨e,c⟩:=vm
  cases c with
  |some v=>rfl
  |none=>
   rcases a with a|a
   ·grind
   ·rw[El,if_pos a]
theorem QV{a:List Bt}{f:Nat->Nat->Int}(j:CC a f):∀c e {g:Br} {d:AR},EO a f g d->Cz d.1+1<=c->Cz d.1+1<=e->El a c d=El a e d/\((El a c d).2≠N\/(El a c d).1.ended=true)/\EO a f g (El a c d)
 |0,_,_,_,_,hk,_=>O1
 |_+1,0,_,_,_,_,hn=>O1
 |c+1,e+1,g,(s,I v),hR,hk,hn=>⟨rfl,Ba nofun,hR⟩
 |c+1,e+1,g,(s,N),hR,hk,hn=>by
  cases he:s.ended with
  |true=>
   rw[K5 (Aq5 he),K5 (Aq5 he)];grind
  |false=>
   have h:FD a f s:=by
    have:=hR.2;grind
   have k:=MX j h;cases hb:Ce s with
   |false=>
    have l:CQ a s=(BE 1 s,N):=by unfold CQ;rw[hb,(G4 h.b).2 hb];rfl
    have i:(BE 1 s).ended=true:=by unfold BE;rw[he];rfl
    rw[El,El,he];rw[l,K5 (Aq5 i),K5 (Aq5 i)];refine⟨rfl,Aq5 i,?_⟩;rw[<-l];exact k.after hR.1.1 hR.1.2.1 hR.1.2.2
   |true=>
    have r:=Qa j h hb;have o:=(JG h.b).2 hb;have m:=k.1.1;rw[El,El,he];have p:Cz (CQ a s).1+1<=Cz s:=by
     unfold Cz;omega
    have n:Cz s+1<=c+1:=hk;have q:Cz s+1<=e+1:=hn;refine QV j c e (k.after hR.1.1 hR.1.2.1 hR.1.2.2) ?_ ?_<;>omega
def Ia(b:List Bt)(a:AR):AR:=El b (Cz a.1+1) a
theorem QT(c:CC d wo)(a:FD d wo q):Ia d (q,N)=Ia d (CQ d q):=by
 have f:=MX c a;unfold Ia;show El d (Cz q+1) (q,N)=_;rw[El,if_neg (by rw[a.b.live];decide)];cases hb:Ce q with
 |false=>
  have g:CQ d q=(BE 1 q,N):=by unfold CQ;rw[hb,(G4 a.b).2 hb];rfl
  have e:(BE 1 q).ended=true:=by unfold BE;grind
  rw[g,K5 (Aq5 e),K5 (Aq5 e)]
 |true=>
  have j:=Qa c a hb;have i:=(JG a.b).2 hb;have h:=f.1.1;exact(QV c _ _ f (by unfold Cz;omega) .refl).1
theorem NN(a:vm.2≠N\/vm.1.ended=true):Ia d vm=vm:=K5 a _
theorem PR{D:Nat->Nat->Int}(a:Di d q){b:Int}(c:0<=b/\b<(L q.cells:Int)):E5 d D (Gg b q):=by
 have g:=a.steps;have h:=a.used;exact⟨⟨⟨a.cells,a.nc,a.steps,a.fuel,a.used,a.spare,a.live⟩,CL.one c,λf e=>(by cases e),(by show([].length:Int)+1<=256*(q.steps+1)+q.used;simp;omega),(by show([].length:Int)<=q.steps;simp;omega)⟩,.refl⟩
theorem LM{D:Nat->Nat->Int}(c:CC d D)(e:Di d q){a:Int}(f:0<=a/\a<(L q.cells:Int)):Cm d a q=Ia d (F3 d (Gg a q))/\EO d D q (Cm d a q)/\((Cm d a q).2≠N\/(Cm d a q).1.ended=true):=by
 have b:EO d D q (F3 d (Gg a q)):=(Jk c _ (PR (D:=D) e f) rfl).after rfl rfl (Arq _);have j:=b.1.1;have k:=b.1.2.2;obtain⟨g,h,i⟩:=QV c ((q.fuel-q.steps).toNat+1) (Cz (F3 d (Gg a q)).1+1) b (by unfold Cz;omega) .refl;exact⟨g,i,h⟩
theorem Cd.next{a:Br}(b:Cd d K a c)(e:DC c=true):Cd d K (BD a) (Cn (BR c)):=by
 rw[D3 e];exact⟨⟨b.cells,b.stack,b.base,b.BF,by show c.su+1=a.steps+1;rw[b.su],b.sm,b.mu,b.mm,b.state,b.kind,b.text⟩,b.code,by show c.fr.at_+1=a.now.at_+1;rw[b.at_]⟩
theorem Cd.Dy(a:Cd d K q c){e b:List Int}(f:b=flat q++e):Cd d K (Cw e q) {c with stack:=b}:=
 ⟨⟨a.cells,f,a.base,a.BF,a.su,a.sm,a.mu,a.mm,a.state,a.kind,a.text⟩,a.code,a.at_⟩
theorem Aiz(b a:List Int)(c:Nat)(e:c<=L a):(b++a).take ((b++a).length-c)=b++a.take (L a-c):=by
 have d:(b++a).length-c=L b+(L a-c):=by simp;omega
 grind
theorem Am5(c a:List Int)(b:Nat)(e:b<=L a):(c++a).drop ((c++a).length-b)=a.drop (L a-b):=by
 have d:(c++a).length-b=L c+(L a-b):=by simp;omega
 simp_all
theorem Up(c a:List Int)(b:Nat)(d:b<L a):(c++a)[(c++a).length-1-b]?=a[L a-1-b]?:=by
 grind
theorem Cd.drop(a:Cd d K q c){n:Nat}(b:n<=L q.now.s):Cd d K (Cw (q.now.s.take (L q.now.s-n)) q) (BQ n c):=by
 apply a.Dy;rw[a.stack];exact Aiz _ _ _ b
theorem Cd.eM(b:Cd d K q c){a:Nat}(e:a<=L q.now.s):Cd d K (Cw (q.now.s.take (L q.now.s-a)) q) (BQ a c):=b.drop e
theorem Cd.push(a:Cd d K q c)(x:Int):Cd d K (Cw (q.now.s++[x]) q) (Ff x c):=by
 apply a.Dy;rw[a.stack,AH]
theorem N0(a:Cd d K q c)(b:Int):Iw b c=Ch b q:=by
 unfold Iw Ch;rw[a.mm,a.mu,Asu];simp;omega
theorem Cd.add{t:List UInt8}(a:Cd d t q c)(b:Cg):Cd d t (E3 b q) (Mq b c):=
 ⟨⟨by show c.cells++[b]=q.cells++[b];rw[a.cells],by show c.stack++[(L c.cells:Int)]=flat q++(q.now.s++[(L q.cells:Int)]);rw[a.stack,a.cells,AH],a.base,a.BF,a.su,a.sm,a.mu,a.mm,a.state,a.kind,a.text⟩,a.code,a.at_⟩
theorem Cd.HF(b:Cd d K q c)(a:Nat):Cd d K (F4 a q) (HF a c):=by
 induction a with
 |zero=>exact b
 |succ a ih=>exact ih.add _
theorem Cd.d8(a:Cd d K q c){b:Int}(e:Ch b q=true):Cd d K (Cp b q) (Dw b c):=by
 unfold Cp Dw;rw[N0 a,e];exact⟨⟨a.cells,a.stack,a.base,a.BF,a.su,a.sm,by show c.mu+b=q.used+b;rw[a.mu],a.mm,a.state,a.kind,a.text⟩,a.code,a.at_⟩
theorem NB(e:q.ended=false)(a:Cd d K q c)(b:Int):CG d K (BE b q,N) (CJ b c):=Mb e rfl rfl a.su a.sm a.mu a.mm a.text
theorem Pv(e:q.ended=false){f:List Int}(a:Cd d K (Cw f q) c)(b:Int):CG d K (BE b q,N) (CJ b c):=Mb e rfl rfl a.su a.sm a.mu a.mm a.text
theorem VQ(e:q.ended=false)(a:Cd d K q c){b:Int}(f:Ch b q=false):CG d K (BE 2 q,N) (Dw b c):=by
 unfold Dw;rw[N0 a,f];exact NB e a 2
theorem Tg(a:q.ended=false)(b:Ch o q=true):(Cp o q).ended=false:=by
 unfold Cp;rw[b];exact a
theorem SD(i:q.ended=false){a:List Int}(e:Cd d K (Cw a q) c)(f:Cg):CG d K (if Ch 1 q then E3 f (Cw a (Cp 1 q)) else BE 2 q,N) (G2 f c):=by
 have g:Iw 1 c=Ch 1 q:=N0 e 1;unfold G2;rw[g];cases hr:Ch 1 q with
 |true=>
  have h:=(e.d8 hr).add f;have b:Cp 1 (Cw a q)=Cw a (Cp 1 q):=by
   unfold Cp;rw[show Ch 1 (Cw a q)=Ch 1 q from rfl,hr];rfl
  rw[b]at h;exact G8 (Tg i hr) h
 |false=>
  have b:Dw 1 c=CJ 2 c:=by
   unfold Dw;rw[g,hr];rfl
  rw[if_neg nofun,if_neg nofun,b];exact Pv i e 2
theorem Aql(e:q.ended=false)(b:Cd d K q c)(a:Nat):CG d K (if Ch a q then F4 a (Cp a q) else BE 2 q,N) (KT a c):=by
 unfold KT;rw[N0 b];cases hr:Ch a q with
 |true=>
  refine G8 ?_ ((b.d8 hr).HF a);rw[if_pos rfl,PA];exact Tg e hr
 |false=>exact VQ e b hr
theorem Af2(b:Cd d K q c)(a:Int):(c.cells[a.toNat]?).getD ⟨0,0,0,0,[]⟩=Co q a:=by
 unfold Co;rw[b.cells]
theorem Apn(e:q.ended=false)(a:Cd d K q c)(f:Int)(g:0<L q.now.s):CG d K (I7 f q,N) (Kn f ((q.now.s.getLast?).getD 0) c):=by
 unfold Kn I7;simp[Af2 a];have b:=a.drop g;split
 ·exact Pv e b 3
 ·refine G8 e (a.Dy ?_);rw[b.stack,Atd];rw[AH];rfl
theorem Anw(e:q.ended=false)(a:Cd d K q c)(b:List B0)(h:0<L q.now.s):CG d K (HY b q,N) (Lh b c):=by
 obtain⟨g,-⟩:=Wa a.toG6 h;unfold Lh HY;simp only[g];split
 ·exact NB e a 3
 ·cases b.find? (λf=>decide (f.tag=(Co q ((q.now.s.getLast?).getD 0)).n)) with
  |some x=>exact G8 e ⟨⟨a.cells,a.stack,a.base,a.BF,a.su,a.sm,a.mu,a.mm,a.state,a.kind,a.text⟩,a.code,rfl⟩
  |none=>exact NB e a 4
theorem Zd(e:Cd d K q c)(f:2<=L q.now.s):Cd d K (Cw (q.now.s.take (L q.now.s-2)) q) (BQ 1 (BQ 1 c)):=by
 have a:=(e.drop (n:=1) O1).drop (by show 1<=(q.now.s.take (L q.now.s-1)).length;grind);have b:(Cw (q.now.s.take (L q.now.s-1)) q).now.s.take ((Cw (q.now.s.take (L q.now.s-1)) q).now.s.length-1)=q.now.s.take (L q.now.s-2):=by
  show(q.now.s.take (L q.now.s-1)).take ((q.now.s.take (L q.now.s-1)).length-1)=_;grind
 rw[b]at a;exact a
theorem Aca(b:q.ended=false)(h:Cd d K q c)(f:Int)(e g:Cg)(i:2<=L q.now.s):CG d K (JB f (q.now.s.take (L q.now.s-2)) e g q,N) (LV f e g c):=by
 have a:=Zd h i;unfold LV JB;split
 ·exact Pv b a 3
 ·split
  ·exact Pv b a 6
  ·have:=SD b a (GP f e.n g.n);grind
theorem Aax(f:q.ended=false)(a:Cd d K q c){b:Nat}{e:Int}(g:1<=L q.now.s):CG d K (Cw (q.now.s.take (L q.now.s-1)) {q with cells:=q.cells.set b ⟨5,0,e,0,[]⟩},N) (Ra b e (BQ 1 c)):=by
 exact G8 f ⟨⟨by show c.cells.set b _=q.cells.set b _;rw[a.cells],(a.drop (n:=1) g).stack,a.base,a.BF,a.su,a.sm,a.mu,a.mm,a.state,a.kind,a.text⟩,a.code,a.at_⟩
theorem Acf(a:Cd d K q c)(h:0<L q.now.s):G6 d K (HL q) (OP c):=by
 have g:q.now.s.dropLast++[(q.now.s.getLast?).getD 0]=q.now.s:=by
  have e:q.now.s≠[]:=by grind
  rw[List.getLast?_eq_some_getLast e];exact List.dropLast_concat_getLast e
 have b:flat (HL q)=flat q++q.now.s.dropLast:=by unfold flat HL;simp
 refine⟨a.cells,?_,?_,?_,a.su,a.sm,a.mu,a.mm,a.state,a.kind,a.text⟩
 ·show c.stack=flat (HL q)++[(q.now.s.getLast?).getD 0];rw[b,AH,g,a.stack]
 ·show L c.stack-1=((flat (HL q)).length:Int);rw[b,a.stack];simp;omega
 ·show c.BF++[c.fr]=JC d 0 (q.BF++[{q.now with s:=q.now.s.dropLast}]);rw[Rl,a.BF];have f:c.fr=⟨c.fr.base,c.fr.code,c.fr.at_⟩:=rfl;rw[f,a.base,a.code,a.at_];unfold flat;simp
theorem Ai8(hb:Ce q=true){a:Bx}(e:Dv d q=a)(b:a.op≠19)(c:a.op≠8):CQ d q=(Cl a (BD q),N):=by
 unfold CQ;grind
theorem Bw.grown{f h i:Q}{d:Nat}{g:List X}{k:Option Nat}(b:Bw f h d g)(e:h.grownBy i k)(l:∀c,k=I c->f.heap.size<=c):Bw f i d g:=
 have n:=b.lt
 ⟨b.a.grown e λc j=>.inr (l c j),b.lt,b.m.bX (e.block d (Aj b.lt b.size) λj=>by grind) e.size⟩
end Go.Proofs.YtcacpmkdfnmhaaaGreatDoor
