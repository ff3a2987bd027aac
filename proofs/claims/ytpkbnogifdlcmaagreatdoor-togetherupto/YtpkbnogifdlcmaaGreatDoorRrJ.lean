import Derived.Test.YtpkbnogifdlcmaaGreatDoorRiJ
set_option linter.unusedSimpArgs false
set_option maxRecDepth 100000
set_option maxHeartbeats 4000000
open And renaming intro->Aw6
open Go renaming Calls->Az,Value->X,World->Q
open Go.Ending renaming returned->F
open Go.IntKind renaming i64->C
open Go.Proofs.Tryz renaming prog->Aa
open Go.Value renaming agg->T,bool->A,int->V,pointer->J,slice->W,tuple->R
open List renaming length->L,range->AV
open Option renaming none->N,some->I
open Or renaming inl->Be,inr->Axf
namespace Go.Proofs.YtpkbnogifdlcmaaGreatDoor
open Go.RowKit Go.Sort Go.Shelf Go.Proofs.Tryz
variable{t:List Nat}{w s b j:Nat}{n q Y:World}{d:BA}{i:List Bx}{U:Option Addr}{vi:Nat->Int×Option Addr×Nat×Nat}{p y e G wz:Value}{na:List Co}{wl:List BJ}{wa:Type}{wi:List Int}{nu:List (Cb×Value)}{nq:List (HG×Value)}{v8:Nat->Prop}
theorem Arl(b:List Int)(a:Nat)(c:Int):(Ci b).set a (V .i32 c)=Ci (b.set a c):=by simp[Ci,List.map_set]
structure NC (j:Nat) (o wr:Q) (c d:Nat) (b:List Nat) (k:BA) (e:List (Cb×X)) (g:List (HG×X)) (f l i h n:X):Prop where
 m:BW j wr c d k e g f l i h n
 a:AF b o wr
theorem NC.bG{k:Nat}{q wr p:Q}{c d:Nat}{b:List Nat}{l:BA}{e:List (Cb×X)}{g:List (HG×X)}{f n j h o:X}(i:NC k q wr c d b l e g f n j h o)(hb:Ow wr p):NC k q p c d b l e g f n j h o:=⟨i.m.bG hb,i.a.then hb⟩
theorem Ahl{O:Nat}{w:Q}{M Y:Nat}{st:BA}(aa:Int->BA->BA)(e:Nat)(E:List BJ)(af:Option Addr)(ae ad:Nat)(o:Fe O w (W af ae ad) E)(x:MM O w M Y st t)(bH:(L st.Bm)<=1000000000)(hb:0<=st.fr.base/\st.fr.base<L st.Bm)(a4:∀r∈st.Bm,0<=r/\r<(L st.cells:Int))(bD:e<=1000000)(a1:∀bk f aE,MM O f M Y st aE->Az Aa 172 #[J (I ⟨M,0,N⟩),V .i32 bk] f λl b8=>B2 O M Y aE f (aa bk st) (R #[]) l b8):
 Az Aa 170 #[J (I ⟨M,0,N⟩),T #[V C (e:Int),W af ae ad]] w λl f=>B2 O M Y t w (JL aa e E st) (R #[]) l f:=by
 have av:=λaC=>(Ae w.heap.size w).alloc (Ac _) aC;have a0:=O0 λaC=>WH ((x.bG (av aC)).bG (Ae _ _).drew) O1 O1;have aH:=O0 av;have bu:=O0 a1;obtain⟨D,b0⟩:∃D:Nat,st.fr.base=(D:Int):=⟨st.fr.base.toNat,O1⟩;obtain⟨aQ,aR,ak,bN,ag,au,aw,x,rfl⟩:=x;obtain⟨h,sc,rfl,bE,a5⟩:=Ju x.sk O1;have ai:=O0 x;have aO:O9 (∀s j (B:j<L st.Bm),Ow w s->s.cell? ⟨h,j,N⟩=I (.int .i32 st.Bm[j])):=λs j B hb=>Bu hb (by rw[a5 j B];simp[Ci,B]);obtain⟨ar,a2⟩:∃ar,(L st.Bm:Int)-1-st.fr.base=ar:=⟨_,rfl⟩;have a8:JC st=ar:=a2;rw[a2]at a0;have bO:(w.alloc (.cells #[V C (e:Int),W af ae ad] 267)).drew.cell? ⟨w.heap.size,0,N⟩=I (V C (e:Int)):=CS w _ _ 0 _ rfl;by_cases bb:ar<(e:Int)
 ·have b6:D<L st.Bm:=O1;rw[show JL aa e E st=aa st.Bm[D] st by unfold JL;grind];have be:(0:Int)<=(D:Int):=O1;have bf:(D:Int)<(L st.Bm:Int):=O1;clear x o av a2 a1 a5 a4 a8;go_enter func170,ntmps170;go_upto_region 1 with fail
  go_region_held_law (λf=>f.cell? ⟨w.heap.size,0,N⟩=I (V C (e:Int))) (assumption)
   (first
    |(go_at_call 171;refine(a0.o _).mono ?_;rintro l aD ⟨rfl,K⟩;have hb:=K▸(aH.o _).drew.drew;have p:=K▸(C2.new w _ _ _).bG (Ae _ _).drew.drew;obtain⟨an,ao,-⟩:=id p;have d:=ai.o.bG hb.drew;have bK:=d.m.at 2 rfl;have b7:=d.m.at 3 rfl;rw[b0]at b7;have bM:=aO.o _ D b6 hb.drew;have ay:=O0 (bu.o st.Bm[D] aD.drew _ ⟨_,_,_,_,_,_,_,d,rfl⟩);have bm:=O0 hb.drew;clear d;clear K hb p))
  go_upto_region 2 with fail
  go_region_with (first
   |(go_at_call 172;refine ay.o.mono ?_;intro l w5 k;obtain⟨rfl,-⟩:=id k;have aj:=O0 k;clear k))
  all_goals(try go_wp2)
  all_goals
   exact bF (aj.o.of (AF.bW bm.o) (λb hb=>.inl hb) rfl) O2 rfl rfl
 ·have aX:e<L st.Bm:=O1;have aK:O9 (∀a,a<e->∃r:Nat,∃k:r<L st.cells,st.Bm[L st.Bm-2-a]'(by omega)=(r:Int)/\Kv st (r:Int)=st.cells[r].BB/\Ft st (r:Int)=st.cells[r].right):=λa o=>by
   have k:=a4 (st.Bm[L st.Bm-2-a]'(by omega)) (Ao _);refine⟨(st.Bm[L st.Bm-2-a]'(by omega)).toNat,O1,O1,?_,?_⟩
   ·unfold Kv;grind
   ·unfold Ft;grind
  have bs:O9 (∀a (o:a<e),Kv st (st.Bm[L st.Bm-2-a]'(by omega))≠2->JL aa e E st=CY 3 st):=λa o bJ=>by
   unfold JL;rw[a8,if_neg bb,if_neg];intro aW;rw[Axk]at aW;have d:st.Bm[L st.Bm-2-a]'(by omega)∈LD e st:=by
    have:=XG (st:=st) aX o;grind
   grind
  have bp:O9 ((∀a (o:a<e),Kv st (st.Bm[L st.Bm-2-a]'(by omega))=2)->JL aa e E st={st with Bm:=C7 (Ft st) st.Bm e,fr:=⟨st.fr.base,E,0⟩}):=λaW=>by
   unfold JL;rw[a8,if_neg bb,if_pos];rw[Axk];intro r k;obtain⟨i,a3,rfl⟩:=AQ k;have bI:(LD e st).length=e:=by unfold LD;simp;omega
   have:=XG (st:=st) (j:=e-1-i) aX O1;grind
  have aP:O9 (∀a,a<e->∀s:Q,s.cell? ⟨M,2,N⟩=I (W (I ⟨h,0,N⟩) (L st.Bm) sc)->Az Aa 168 #[J (I ⟨M,0,N⟩),V C ((a:Int)+1)] s λl f=>l=F (J (I ⟨h,L st.Bm-2-a,N⟩))/\f=s.drew):=λa o s z=>by
   have:=LG (a+1) z O1 O1;grind
  have bc:∀b,b∈vB ak\/b=M\/b=w.heap.size->b≠h:=λb hb l=>by
   subst l;have d:b∈vB (W (I ⟨b,0,N⟩) (L st.Bm) sc):=by rw[EV];simp
   rcases hb with hb|rfl|rfl
   ·exact(AY.1 (Axj.1 x.nd).2).2.2 b hb b (Ad _ d) rfl
   ·exact(Axj.1 x.nd).1 (Aj _ (Ad _ d))
   ·exact Az1 _ (FV x.sk d).2
  have aq:=O0 bc;have bq:=O0 o;clear x o av a1 a5 a4 bc;go_enter func170,ntmps170;go_upto_region 1 with fail
  go_region_held_law (λf=>f.cell? ⟨w.heap.size,0,N⟩=I (V C (e:Int))) (assumption)
   (first
    |(go_at_call 171;refine(a0.o _).mono ?_;rintro l aD ⟨rfl,K⟩;have hb:=K▸(aH.o _).drew.drew;have p:=K▸(C2.new w _ _ _).bG (Ae _ _).drew.drew;obtain⟨an,ao,-⟩:=id p;have aG:=O0 hb;have aI:=O0 p;clear K hb p))
  go_wp2;go_loopw [26] (λag wr=>∃a:Nat,a<=e/\ag=V C (a:Int)/\O9 (Ow aD wr)/\O9 (∀j (B:j<a) (aZ:j<e),Kv st (st.Bm[L st.Bm-2-j]'(by omega))=2)) (λag _=>e-(intOf ag).toNat)
  ·exact⟨0,Ai _,rfl,Ae _ _,λj B=>absurd B O1⟩
  ·rename Q=>wr
   obtain⟨a,bG,rfl,ap,aF⟩:=hrel;have H:=aG.o.trans (ap.o.mono aG.o.size);clear an ao;by_cases o:a<e
   ·obtain⟨r,k,G,bw,-⟩:=aK.o a o;have d:=ai.o.bG H.drew;obtain⟨cg,cc,fp,bz,bx,ab,k0,-⟩:=d.cellAt (r:=r) k;have ah:=d.m.at 1 rfl;have ax:=d.m.at 2 rfl;have am:=aO.o _ (L st.Bm-2-a) O1 H.drew;have aL:O9 (Kv st (st.Bm[L st.Bm-2-a]'(by omega))=st.cells[r].BB):=by show _=_;rwa[G]
    rw[ab]at ah;rw[G]at am;have be:(0:Int)<=(r:Int):=O1;have bf:(r:Int)<(L st.cells:Int):=O1;have b2:(a:Int)<(e:Int):=O1;have b5:IntKind.i64.wrap ((a:Int)+1)=(a:Int)+1:=KD O1;have br:=O0 (Ka 3 ⟨_,_,_,_,_,_,_,d.bG (Ae _ _).drew,rfl⟩);have bn:=O0 H.drew.drew;generalize st.cells[r].BB=kd at*;clear H d G bw ab;go_upto_region 6 with fail
    go_region_held_law (λf=>f.cell? ⟨M,1,N⟩=I (W (I ⟨cg,0,N⟩) (L st.cells) cc)/\f.cell? ⟨h,L st.Bm-2-a,N⟩=I (V .i32 (r:Int))/\f.cell? ⟨cg,r*5,N⟩=I (V .u8 kd)) (exact⟨ah,am,k0⟩)
     (first
      |(go_at_call 168;refine(aP.o a o _ ax).mono ?_;rintro l bj ⟨rfl,rfl⟩))
    by_cases z:kd=2
    ·subst z;go_wp2;refine⟨⟨a+1,O1,by go_num,ap.o.drew.drew,λj B aZ=>?_⟩,by simp[intOf];omega⟩;by_cases ba:j=a
     ·subst ba;exact aL.o
     ·exact aF.o j O1 aZ
    ·go_wp2_with (first
      |(go_at_call 127;refine br.o.mono ?_;intro l w5 k;obtain⟨rfl,-⟩:=id k;have aj:=O0 k;clear k))
     rw[bs.o a o (aL.o▸z)];exact bF (aj.o.of (AF.bW bn.o) (λb hb=>.inl hb) rfl) O2 rfl rfl
   ·obtain rfl:a=e:=O1;have b2:¬((a:Int)<(a:Int)):=O1;obtain⟨an,ao,-⟩:=aI.o.bG ap.o;have aJ:O9 (NC O w wr M Y (mB M ak (W (I ⟨h,0,N⟩) (L st.Bm) sc) au aw) {st with Bm:=C7 (Ft st) st.Bm 0} aQ aR ak (W (I ⟨h,0,N⟩) (L st.Bm) sc) ag au aw/\C2 wr w.heap.size (V C (a:Int)) (W af ae ad)):=by
     rw[Agk];exact⟨⟨ai.o.bG H,AF.bW H⟩,aI.o.bG ap.o⟩
    clear H;go_wp2;go_loopw [48] (λa9 U=>∃j:Nat,j<=a/\a9=V C (j:Int)/\O9 (NC O w U M Y (mB M ak (W (I ⟨h,0,N⟩) (L st.Bm) sc) au aw) {st with Bm:=C7 (Ft st) st.Bm j} aQ aR ak (W (I ⟨h,0,N⟩) (L st.Bm) sc) ag au aw/\C2 U w.heap.size (V C (a:Int)) (W af ae ad))) (λa9 _=>a-(intOf a9).toNat)
    ·exact⟨0,Ai _,rfl,aJ.o⟩
    ·rename Q=>U
     clear an ao aJ;obtain⟨j,ba,rfl,bo⟩:=hrel;obtain⟨d,p⟩:=bo.o;by_cases B:j<a
     ·obtain⟨r,k,G,-,aS⟩:=aK.o j B;have a6:=RA (Ft st) st.Bm j O1;have bd:=RA (Ft st) st.Bm (j+1) O1;have ac:=d.m.sk;simp only[a6]at ac;obtain⟨cg,cc,fp,bz,bx,ab,-,-,-,aB,-⟩:=d.m.cellAt (r:=r) k;have ah:=d.m.m.at 1 rfl;have ax:=d.m.m.at 2 rfl;have aY:=aq.o cg (.inl (by rw[ab,EV];simp));have aV:=aq.o M (.inr (.inl rfl));rw[ab]at ah;have am:U.cell? ⟨h,L st.Bm-2-j,N⟩=I (V .i32 (r:Int)):=by
       rw[ac.cellAt _ O1,<-G];unfold Ci;rw[Awt,SF _ _ _ _ O1,if_pos O1,Af O1];rfl
      simp only[<-aS]at aB;have bl:∃u,U.cell? ⟨h,L st.Bm-1-j,N⟩=I u:=⟨_,by rw[ac.cellAt _ O1];exact Af (by unfold Ci;rw[An,a6];omega)⟩;obtain⟨u,bl⟩:=bl;have bC:=ac.frozenAt (L st.Bm-1-j);have a7:=(ac.stored (L st.Bm-1-j) (V .i32 (Ft st (r:Int)))).1;rw[Arl,<-G,<-Aqm (Ft st) st.Bm j O1,G]at a7;obtain⟨bh,bi⟩:=d.m.ec (AF.GQ (j:=L st.Bm-1-j) (v:=W (I ⟨h,0,N⟩) (L st.Bm) sc) rfl (V .i32 (Ft st (r:Int)))) (s':=C7 (Ft st) st.Bm (j+1)) (bd▸a7);have al:=λb (hb:b≠h)=>AA U ⟨h,L st.Bm-1-j,N⟩ (V .i32 (Ft st (r:Int))) b hb;have aM:=O0 (Aw6 (NC.mk bh (d.a.trans bi λb hb=>.inl hb)) (C2.mk (Eu (al _ (aq.o _ (.inr (.inr rfl)))) p.c0) (Eu (al _ (aq.o _ (.inr (.inr rfl)))) p.c1) (by simpa using p.lt)));have az:=aP.o j B;have bt:=O0 λ(s:Q) z=>LG (w:=s) (M:=M) (g:=h) (c:=sc) (n:=L st.Bm) j z O1 O1;have aN:=O0 (Aw6 (Eu (al M aV) ah) (Aw6 ((G4 (w:=U) (b:=h) (y:=V .i32 (Ft st (r:Int))) (show L st.Bm-1-j≠L st.Bm-2-j by omega)).trans am) (Eu (al cg aY) aB)));have be:(0:Int)<=(r:Int):=O1;have bf:(r:Int)<(L st.cells:Int):=O1;have b1:(j:Int)<(a:Int):=O1;have b5:IntKind.i64.wrap ((j:Int)+1)=(j:Int)+1:=KD O1;generalize Ft st (r:Int)=q at*;have az:=O0 az;clear d p a6 bd ac aY aV a7 bh bi al G aS ab;go_upto_region 12 with fail
      go_region_held_law (λf=>f.cell? ⟨M,1,N⟩=I (W (I ⟨cg,0,N⟩) (L st.cells) cc)/\f.cell? ⟨h,L st.Bm-2-j,N⟩=I (V .i32 (r:Int))/\f.cell? ⟨cg,r*5+3,N⟩=I (V .i32 q)) (first|(with_reducible exact aN.o)|((try simp only[WV]);with_reducible first|exact⟨ah,am,aB⟩|exact aN.o))
       (first
        |(go_at_call 168;first|((with_reducible refine(az.o _ ?_).mono ?_);(·exact ax);rintro l bj ⟨rfl,rfl⟩)|((with_reducible refine(bt.o _ ?_).mono ?_);(·exact ax);rintro l bj ⟨rfl,rfl⟩)))
      all_goals(try go_wp2)
      all_goals
       refine⟨⟨j+1,O1,by go_num,aM.o.1.bG (Ae _ _).drew.drew.drew,aM.o.2.bG (Ae _ _).drew.drew.drew⟩,by simp[intOf];omega⟩
     ·obtain rfl:j=a:=O1;have b1:¬((j:Int)<(j:Int)):=O1;have bg:=bq.o.fr (d.a.low (λb hb=>(ai.o.rg b hb).1) ai.o.lz);have z:=d.m.cN (i:=4) (u:=W af ae ad) (st':={st with Bm:=C7 (Ft st) st.Bm j,fr:=⟨st.fr.base,E,st.fr.at_⟩}) rfl O1 rfl rfl rfl rfl bg;have aT:=z.cN (i:=5) (u:=V C 0) (st':={st with Bm:=C7 (Ft st) st.Bm j,fr:=⟨st.fr.base,E,0⟩}) rfl O1 rfl rfl rfl rfl z.cd;have aj:=O0 (Jn (r:=R #[]) ⟨aT,(d.a.set (.inl (.head _)) _).set (.inl (.head _)) _,λb hb=>.inl hb⟩);have ay:=O0 (bp.o λi a3=>aF.o i a3 a3);have bP:=d.m.m.at 4 rfl;have bQ:=d.m.m.at 5 rfl;have b9:=d.m.m.fz 4;have bB:=d.m.m.fz 5;obtain⟨an,ao,-⟩:=p;clear d bg z aT;go_wp2;rw[ay.o];exact bF aj.o O2 rfl rfl
theorem Acx(a:Int)(c:MM w n s b d t)(hb:0<=d.fr.base/\d.fr.base<(L d.Bm:Int))(f:(L d.Bm)<=5000000000)(h:(L d.BR)<=1000000000000):
 Az Aa 172 #[J (I ⟨s,0,N⟩),V .i32 a] n λg i=>B2 w s b t n (G7 a d) (R #[]) g i:=by
 by_cases e:d.BR=[]
 ·refine Anq a d.fr.base.toNat c e ?_ ?_ f<;>omega
 ·refine Ank a d.fr.base.toNat c e ?_ ?_ f h<;>omega
structure Ib (c:Nat) (d:Q) (e:Nat) (a:List Bx) (g:Option Addr) (f:Nat) (b:Nat->Int×Option Addr×Nat×Nat):Prop where
 pg:Pg c d e (L a) g f b
 ar:∀i (h:i<L a),(b i).1=a[i].BH/\0<=a[i].BH/\a[i].BH<=255
 cd:∀i (h:i<L a),Fe c d (W (b i).2.1 (b i).2.2.1 (b i).2.2.2) a[i].Bj
theorem Ib.low{b:Nat}{h i:Q}{d:Nat}{g:List Bx}{f:Option Addr}{e:Nat}{c:Nat->Int×Option Addr×Nat×Nat}(a:Ib b h d g f e c)(hb:Below b h i):Ib b i d g f e c:=⟨a.pg.low hb,a.ar,λk j=>(a.cd k j).fr hb⟩
def Mq(a:List Bx)(b:Int)(c:BA):BA:=JL G7 ((a[b.toNat]?).getD ⟨⟨#[]⟩,0,false,[]⟩).BH.toNat ((a[b.toNat]?).getD ⟨⟨#[]⟩,0,false,[]⟩).Bj c
def XW(b:List Bx)(a:BA):BA:=F9 (Mq b) G7 (a.sm-a.su).toNat a
theorem Ast{g:Nat}(e:MM w n g b d t)(k:Ib w n b i U j vi)(y:Wf (L i) d)(z:(L d.BR)<=1000000000):
 Az Aa 124 #[J (I ⟨g,0,N⟩)] n λr m=>B2 w g b t n (XW i d) (R #[]) r m:=by
 refine Auv (Mq i) G7 (λd=>L d.BR<=1000000000) e k.pg y z (λd e=>e) (λd f e=>e) (λd f e=>e) (λa p m l q h hb v o c=>?_) (λf m l q h v o c=>?_)
 ·let ⟨u,E,G⟩:=k.ar a p
  have B:Mq i a l=JL G7 i[a].BH.toNat i[a].Bj l:=by
   unfold Mq;grind
  rw[B,u];have:=Ahl G7 i[a].BH.toNat i[a].Bj (vi a).2.1 (vi a).2.2.1 (vi a).2.2.2 ((k.cd a p).fr hb) h c.2.2 ⟨c.1,c.2.1⟩ o.s O1 (λf H D x=>Acx f x ⟨c.1,c.2.1⟩ O1 O1);grind
 ·exact Acx f h ⟨c.1,c.2.1⟩ O1 O1
def Mb(c:List Co)(a:BA):BA:=
 if (Fj a).BB≠3 then CY 3 a
 else match c.find? (λb=>decide (b.tag=(Fj a).n)) with
  |some b=>{a with fr:={a.fr with at_:=b.BU}}
  |none=>CY 4 a
def MI(g:Nat)(e:Q)(h:X)(c:List Co):Prop:=∃d f,h=W d (L c) f/\∀a (i:a<L c),∃b,b<g/\d=I ⟨b,0,N⟩/\e.cell? ⟨b,a*2,N⟩=I (.int .u8 c[a].tag)/\e.cell? ⟨b,a*2+1,N⟩=I (.int .u16 c[a].BU)
theorem MI.fr(b:MI w n p na)(hb:Below w n q):MI w q p na:=by
 let ⟨k,d,e,b⟩:=b
 refine⟨k,d,e,λj i=>?_⟩;let ⟨a,c,f,g,h⟩:=b j i
 exact⟨a,c,f,Eu (hb.block a c) g,Eu (hb.block a c) h⟩
theorem Fe.alts(q:Fe w n p wl){a:Nat}(u:a<L wl):∃g h,g<w/\p=W (I ⟨g,0,N⟩) (L wl) (L wl)/\n.cell? ⟨g,a*3+2,N⟩=I h/\MI w n h wl[a].alts:=by
 rcases q with⟨-,rfl⟩|⟨j,d,hb,v,s,t,r⟩
 ·simp at u
 ·have z:(L d)=L wl:=O6;have y:a<L d:=O1;have l:wl[a]=d[a].1:=by simp[<-s]
  let ⟨k,o,m,i⟩:=r d[a] (Ao _)
  refine⟨j,d[a].2,hb,v,?_,?_⟩
  ·have e:(a*3+2) / 3=a:=O1;have f:(a*3+2) % 3=2:=O1;rw[t.c _ O1,N2 O6];simp[e,f,AN];rfl
  ·rw[l];refine⟨_,_,m,λb x=>⟨k,o,rfl,?_,?_⟩⟩
   ·have e:(b*2) / 2=b:=O1;have f:(b*2) % 2=0:=O1;rw[i.c _ O1,N2 O6];simp[e,f,AN];rfl
   ·have e:(b*2+1) / 2=b:=O1;have f:(b*2+1) % 2=1:=O1;rw[i.c _ O1,N2 O6];simp[e,f,AN];rfl
theorem Au3{p:Nat}{w:Q}{f:Nat}(a:List Co)(ap:X)(aw:MI p w ap a)(aN:∀e∈a,(0<=e.tag/\e.tag<=255)/\0<=e.BU/\e.BU<=65535)(br:(L a)<=1000000)(j:MM p w f b d t)(bq:(L d.Bm)<=1000000000){s:List Int}{r:Nat}(O:d.Bm=s++[(r:Int)])(x:r<L d.cells):
 Az Aa 180 #[J (I ⟨f,0,N⟩),ap] w λk q=>B2 p f b t w (Mb a d) (R #[]) k q:=by
 obtain⟨bf,be,rfl,av⟩:=id aw;have az:=Adi O x;have ar:=j;obtain⟨aG,aH,bi,b1,a2,aI,aZ,j,ac⟩:=j;have bs:(L d.Bm)=L s+1:=by rw[O];simp
 obtain⟨y,sc,rfl,-,ay⟩:=Ju j.sk O1;obtain⟨cg,cc,fp,bk,bj,rfl,k0,a1,-⟩:=j.cellAt (r:=r) x;have ai:w.cell? ⟨y,L s,N⟩=I (V .i32 (r:Int)):=by
  rw[ay _ O1,O];simp[Ci]
 have ah:=j.m.at 1 rfl;have a8:w.drew.cell? ⟨f,1,N⟩=_:=ah;have aB:w.drew.cell? ⟨y,L s,N⟩=_:=ai;have a9:w.drew.drew.cell? ⟨f,1,N⟩=_:=ah;have aC:w.drew.drew.cell? ⟨y,L s,N⟩=_:=ai;have ao:∀z,z=w.drew->Az Aa 168 #[J (I ⟨f,0,N⟩),V C 0] z λk q=>k=F (J (I ⟨y,L s,N⟩))/\q=z.drew:=λz K=>by
  subst K;have:=LG (w:=w.drew) 0 (j.m.at 2 rfl) O1 O1;rw[show L d.Bm-1-0=L s by omega]at this;exact this
 have al:∀h,Ow w h->(h.cell? ⟨cg,r*5,N⟩=I (.int .u8 d.cells[r].BB)/\h.cell? ⟨cg,r*5+1,N⟩=I (.int C d.cells[r].n))/\(∃a6,h.cell? ⟨f,5,N⟩=I a6)/\h.frozen? ⟨f,5,N⟩=false:=λh hb=>⟨⟨Bu hb k0,Bu hb a1⟩,⟨_,(j.bG hb).m.at 5 rfl⟩,(j.bG hb).m.fz 5⟩;have am:∀c h,Ow w h->Az Aa 127 #[J (I ⟨f,0,N⟩),V C c] h λk a7=>k=F (R #[])/\O9 (B2 p f b t w (CY c d) (R #[]) (F (R #[])) a7):=λc h ax=>(Ka c (ar.bG ax)).mono λk a7 x=>⟨x.1,x.of (AF.bW ax) (λaq hb=>Be hb) rfl⟩;have aD:∀(B:Int) h,Ow w h->B2 p f b t w {d with fr:={d.fr with at_:=B}} (R #[]) (F (R #[])) (h.setCell ⟨f,5,N⟩ (V C B)):=λB h hb=>by
  have aL:=(j.bG hb).cN (i:=5) (u:=V C B) (st':={d with fr:={d.fr with at_:=B}}) (kv':=a2) rfl O1 rfl rfl rfl rfl (j.bG hb).cd;exact⟨rfl,(AF.bW hb).set (Be (by rw[ac];exact Aw3 ..)) _,_,⟨aG,aH,_,_,a2,aI,aZ,aL,rfl⟩,λaq hb=>Be (ac▸hb)⟩
 have aP:=j.lz;have bt:(0:Int)<=(r:Int):=O1;have bu:(r:Int)<(L d.cells:Int):=O1;have G:Mb a d=if d.cells[r].BB≠3 then CY 3 d else match a.find? (λe=>decide (e.tag=d.cells[r].n)) with|some e=>{d with fr:={d.fr with at_:=e.BU}}|none=>CY 4 d:=by
  show _=_;unfold Mb;rw[az]
 generalize d.cells[r].BB=kd at*;generalize d.cells[r].n=nn at*;clear j ar ay k0 a1 ac az O;go_enter func180,ntmps180;go_upto_region 0 with fail
 go_region_held_law (λq=>q.cell? ⟨f,1,N⟩=I (W (I ⟨cg,0,N⟩) (L d.cells) cc)/\q.cell? ⟨y,L s,N⟩=I (V .i32 (r:Int))) (first|(with_reducible exact⟨a8,aB⟩)|(with_reducible exact⟨a9,aC⟩))
  (first
   |(go_at_call 168;with_reducible refine(ao _ rfl).mono ?_;rintro k z ⟨rfl,rfl⟩))
 obtain⟨v,af⟩:∃v,w.drew.drew=v:=⟨_,rfl⟩;have D:Ow w v:=by rw[<-af];exact(Ae _ _).drew.drew
 rw[af];obtain⟨⟨ba,bb⟩,-⟩:=al v D;clear ah ai a8 aB a9 aC ao af;by_cases K:kd=3
 ·subst K;have H:Mb a d=match a.find? (λe=>decide (e.tag=nn)) with|some e=>{d with fr:={d.fr with at_:=e.BU}}|none=>CY 4 d:=by
   show _=_;rw[G,if_neg O2]
  clear G;go_wp2;go_loopw [25] (λag wr=>∃c:Nat,c<=L a/\ag=V C (c:Int)/\O9 (Ow v wr)/\O9 (∀i (l:i<L a),i<c->a[i].tag≠nn)) (λag _=>L a-(intOf ag).toNat)
  ·exact⟨0,Ai _,rfl,Ae _ _,λi _ l=>absurd l O1⟩
  ·clear ba bb;rename Q=>wr
   obtain⟨c,bp,rfl,Y,aa⟩:=hrel;have E:=O0 (D.trans (Y.o.mono D.size));by_cases M:c<L a
   ·have aO:(c:Int)<(L a:Int):=O1;have bo:(0:Int)<=(c:Int):=O1;obtain⟨aq,bm,rfl,-⟩:=av c M;obtain⟨b0,bh,aJ,a0⟩:=aw.fr (E.o.mono aP);cases aJ;obtain⟨bg,bl,aK,bc,bd⟩:=a0 c M;cases aK;obtain⟨⟨aV,aW⟩,aX,aY⟩:=aN _ (Ao M);have aS:IntKind.i64.wrap a[c].tag=a[c].tag:=KD O1;have aR:IntKind.i64.wrap a[c].BU=a[c].BU:=KD O1;have aj:∀g,Ow wr (wr.alloc g).drew:=λg=>bA.drew;have ak:∀g,Ow w (wr.alloc g).drew:=λg=>E.o.trans ((aj g).mono E.o.size);have U:=λg=>al _ (ak g);have a3:=λg=>(U g).1.2;have a4:=λg=>(U g).2.1;have a5:=λg=>(U g).2.2;obtain⟨TG,ad⟩:∃TG,a[c].tag=TG:=⟨_,rfl⟩;obtain⟨o,au⟩:∃o,a[c].BU=o:=⟨_,rfl⟩;have an:=O0 ad;rw[ad]at bc aS;rw[au]at bd aR;clear U a0 av ad aV aW aX aY;obtain⟨a6,bw⟩:=a4 (.cells #[V .u8 TG,V .u16 o] 379);have bx:=a5 (.cells #[V .u8 TG,V .u16 o] 379);have aT:=a3 (.cells #[V .u8 TG,V .u16 o] 379);have bz:(wr.alloc (.cells #[V .u8 TG,V .u16 o] 379)).cell? ⟨cg,r*5+1,N⟩=I (V C nn):=aT;clear a3 a4 a5;go_upto_region 6 with fail
    go_region
    all_goals
     by_cases aQ:TG=nn
     ·subst aQ;go_wp2;refine bF ?_ O2 rfl rfl;have ae:a.find? (λe=>decide (e.tag=TG))=I a[c]:=by
       rw[List.find?_eq_some_iff_getElem];exact⟨by simp[an.o],c,M,rfl,λi l=>by simpa using aa.o i O1 l⟩
      have:=H;rw[ae]at this;rw[this];show B2 p f b t w {d with fr:={d.fr with at_:=a[c].BU}} _ _ _;rw[au];exact aD _ _ (ak _)
     ·go_wp2;refine⟨⟨c+1,O1,by go_num,Y.o.trans ((aj _).mono Y.o.size),λi l bn=>?_⟩,by simp[intOf];omega⟩;by_cases k:i=c
      ·subst k;rwa[an.o]
      ·exact aa.o i l O1
   ·obtain rfl:c=L a:=O1;have aO:¬((L a:Int)<(L a:Int)):=O1;have aF:=O0 (am 4 wr E.o);go_wp2_with (first
     |(go_at_call 127;refine aF.o.mono ?_;rintro k w5 ⟨rfl,ab⟩))
    refine bF ?_ O2 rfl rfl;have ae:a.find? (λe=>decide (e.tag=nn))=none:=by
     rw[List.find?_eq_none];intro e aM;obtain⟨i,l,rfl⟩:=AQ aM;simpa using aa.o i l l
    have:=H;rw[ae]at this;rw[this];exact ab.o
 ·have aE:=O0 (am 3 v D);have H:Mb a d=CY 3 d:=by
   show _=_;rw[G,if_pos K]
  clear G;go_wp2_with (first
   |(go_at_call 127;refine aE.o.mono ?_;rintro k w5 ⟨rfl,ab⟩))
  refine bF ?_ O2 rfl rfl;rw[H];exact ab.o
section
attribute [local go_sem] Oper.semAt_some
def FW(d:List Nat)(a b:Q):Prop:=a.heap.size<=b.heap.size/\∀c∈d,b.heap[c]?=a.heap[c]?
theorem FW.trans{a:List Nat}{b c d:Q}(f:FW a b c)(g:FW a c d):FW a b d:=⟨Ay f.1 g.1,λe hb=>(g.2 e hb).trans (f.2 e hb)⟩
theorem FW.refl(a:List Nat)(A:Q):FW a A A:=⟨Ac _,λ_ _=>rfl⟩
theorem FW.cell{d:List Nat}{a c:Q}(e:FW d a c){b:Nat}(hb:b∈d)(j:Nat):c.cell? ⟨b,j,N⟩=a.cell? ⟨b,j,N⟩:=Ak (e.2 b hb)
def H2{b:Type}(a:List b)(d:b)(e:Nat):List (Nat×b):=(AV e).map λc=>(L a-1-c,a[L a-1-c]?.getD d)
theorem WY(a:List wa)(c:wa)(b:Nat):H2 a c (b+1)=H2 a c b++[(L a-1-b,a[L a-1-b]?.getD c)]:=by simp[H2,Az0]
theorem Ap7(c:List wa)(b:wa)(a:Nat):(H2 c b a).length=a:=by simp[H2]
abbrev HI(b:List Int):Type:={a:Nat×Int // a.2∈b}
theorem Atd(a:w<L wi):wi[w]?.getD 0∈wi:=by
 grind
theorem An9(l:Fence)(s:Nat)(M:l.fn 182)(ad:l.round=N)(ar:1<=s)(D i b E H:Nat)(a:List Int)(ap:(L a)<=1000000)(j u:List (HI a)->Q->Prop)(ab:∀c (h:HI a) e,j c e->L c<L a->YieldAt l (s-1) Aa D #[V C (h.1.1:Int),V .i32 h.1.2] e λk g=>
 (k=F (A true)/\j (c++[h]) g/\FW [i,b] e g)\/(k=F (A false)/\u (c++[h]) g)) (e:Q) (O:e.cell? ⟨i,0,N⟩=I (W (I ⟨b,E,N⟩) (L a) H)) (w:∀r,r<L a->e.cell? ⟨b,E+r,N⟩=I (V .i32 (a[r]?.getD 0))) (K:j [] e):
 CallsIn l s Aa 182 #[.func (.yield D) #[] #[],J (I ⟨i,0,N⟩)] e λk g=>(∃ag,k=F ag)/\
  ((∃c:List (HI a),c.map (·.1)=H2 a 0 (L a)/\j c g)\/(∃d,∃c:List (HI a),d<=L a/\c.map (·.1)=H2 a 0 d/\u c g)):=by
 refine callsIn_of_wp func182 rfl M ?_ ad;simp only[ntmps182,Ax7,AO,Bc,Nat.reduceAdd,Nat.reduceSub,Axx,Ayb,Ayp,Ayh,Bb,Awy];gi_wp2
 gi_loopw [3] (λq wr=>∃d:Nat,d<=L a/\q=V C ((L a:Int)-1-(d:Int))/\(∃c:List (HI a),c.map (·.1)=H2 a 0 d/\j c wr)/\FW [i,b] e wr)
  (λq _=>(intOf q+1).toNat)
 ·exact⟨0,Ai _,O2,⟨[],rfl,K⟩,FW.refl _ _⟩
 ·obtain⟨d,ao,rfl,⟨c,m,v⟩,n⟩:=hrel;have an:=(n.cell (b:=i) O2 0).trans O;by_cases aq:d<L a
  ·obtain⟨f,x⟩:∃f,f=L a-1-d:=⟨_,rfl⟩;have z:(L a:Int)-1-(d:Int)=(f:Int):=O1;have B:f<L a:=O1;have al:(0:Int)<=(f:Int):=O1;have am:(f:Int)<(L a:Int):=O1;have c0:=w f B;have G:=(n.cell (b:=b) O2 _).trans c0;have av:(L c)=d:=by rw[<-Ap7 a 0 d,<-m,An]
   have y:=Atd B;obtain⟨af,p⟩:∃h,a[f]?.getD 0=h:=⟨_,rfl⟩;rw[p]at G y;obtain⟨ak,aw,ai,aj,ae,aa⟩:=ab c ⟨(f,af),y⟩ wr v O1;dsimp only at ae;clear c0 w;rw[z];have t:=O0 x;clear x;gi_wp2
   refine aa.mono ?_;rintro k ah (⟨rfl,U,ac⟩|⟨rfl,Y⟩)
   ·gi_wp2
    go_roundw
    case rel=>exact⟨d+1,O1,by have:=z;simp;omega,⟨_,by rw[WY,<-t.o,p,AC,m];rfl,U⟩,n.trans ac⟩
    case measure=>simp[intOf]
   ·gi_wp2
    refine AZ (Azq rfl _ _ _) rfl ?_;exact⟨⟨_,rfl⟩,.inr ⟨d+1,_,O1,by rw[WY,<-t.o,p,AC,m];rfl,Y⟩⟩
  ·obtain rfl:d=L a:=O1;have au:¬(0:Int)<=(L a:Int)-1-(L a:Int):=O1;gi_wp2
   go_end0
   exact⟨⟨_,rfl⟩,.inl ⟨c,m,v⟩⟩
theorem Ajb(a:Fence)(l:Nat)(h:a.fn 182)(i:a.round=N)(k d:Nat)(m:Option Addr)(f:Nat)(o:List Int)(b:List (HI o)->Q->Prop)(c:Q)(q:c.cell? ⟨d,0,N⟩=I (W m 0 f))(p:b [] c):
 CallsIn a l Aa 182 #[.func (.yield k) #[] #[],J (I ⟨d,0,N⟩)] c λg e=>(∃n,g=F n)/\b [] e:=by
 refine callsIn_of_wp func182 rfl h ?_ i;simp[ntmps182,Ax7,AO,Bc,Nat.reduceAdd,Nat.reduceSub,Axx,Ayb,Ayp,Ayh,Bb,Awy];gi_wp2
 gi_loopw [3] (λj wr=>j=V C (-1)/\b [] wr) (λ_ _=>0)
 ·grind
 ·let ⟨rfl,r⟩:=hrel
  gi_wp2
  go_end0
  grind
theorem Aro(a:Fence)(i:Nat)(g:a.fn 128)(h:a.round=N)(c:Option Addr)(e d:Nat)(b:Q):
 CallsIn a i Aa 128 #[W c e d] b λf j=>f=F (.func (.func 182) #[] #[J (I ⟨b.heap.size,0,N⟩)])/\j=b.alloc (.cells #[W c e d] 108):=by
 refine callsIn_of_wp func128 rfl g ?_ h;gi_wp2
 go_ret;simp
def Vo:Option Addr->Nat->List Nat
 |some a,_+1=>[a.block]
 |_,_=>[]
def ZT(e:Q)(f:Option Addr)(d:List Int):Prop:=∀a,a<L d->∃b c,f=I ⟨b,c,N⟩/\e.cell? ⟨b,c+a,N⟩=I (V .i32 (d[a]?.getD 0))
theorem Arx(d:Fence)(g:Nat)(q:d.fn 182)(u:d.round=N)(U:1<=g)(c:Nat)(p:Option Addr)(i:Nat)(a:List Int)(O:(L a)<=1000000)(f:Q)(B:c<f.heap.size)(H:f.cell? ⟨c,0,N⟩=I (W p (L a) i))(r:ZT f p a):
 SeqStopsK d g Aa 182 #[J (I ⟨c,0,N⟩)] (λx:HI a=>#[Value.int C (x.1.1:Int),Value.int .i32 x.1.2]) (FW (c::Vo p (L a))) (λaa=>aa.map (·.1)=H2 a 0 (L a))
  (λY=>∃v,v<=L a/\Y.map (·.1)=H2 a 0 v) (L a) f:=λw l y m s _ _ D o=>by
 have t:=(s.cell B).trans H;cases a with
 |nil=>exact(Ajb d g q u w c p i [] l m t o).mono λn ab ⟨M,e⟩=>⟨M,.inl ⟨_,rfl,e⟩⟩
 |cons k a=>
  obtain⟨h,j,rfl,E⟩:=r 0 O2;have G:=AL E;have K:∀b,b<(k::a).length->f.cell? ⟨h,j+b,N⟩=I (V .i32 ((k::a)[b]?.getD 0)):=λb e=>by
   let ⟨ac,ad,n,z⟩:=r b e
   cases n;exact z
  apply (An9 d g q u U w c h j i (k::a) O l y D m t (λb e=>(s.cell (p:=⟨h,j+b,N⟩) G).trans (K b e)) o).mono;grind
theorem FW.put(e:∀d∈t,d<w)(a:Q)(b:Nat)(c o':Obj)(g:w<=b)(_:a.heap[b]?=I c)(_:c.isCells=false)(_:c.isWalk=false):FW t a (a.putObj b o'):=
 ⟨O2,λd f=>World.putObj_heap_other O6⟩
theorem Ws(b:List wa)(c:wa){a:Nat}(d:a<=L b):(H2 b c a).map (·.2)=b.reverse.take a:=by
 apply Azh
 ·simp[H2,d]
 ·intro e f g;have h:e<a:=O6;simp[H2,A4,AN,List.getElem_range,Function.comp,List.getElem_take,List.getElem_reverse];grind
theorem BW.of{lo:Nat}{M Pb:Nat}(b:Sp lo n (mS lo M Pb d nu nq p y e G wz))(t:∀a∈nu,E9 (λc=>lo<=c/\c∉mB M p y G wz) n a.2 a.1.BX)(s:∀a∈nq,Fe lo n a.2 a.1.Bj)(r:Fe lo n e d.fr.Bj)(i:nu.map (·.1)=d.cells)(j:nq.map (·.1)=d.BR):BW lo n M Pb d nu nq p y e G wz:=by
 have f:=b.h;have g:=b.nd;simp only[L6,List.forall_mem_cons]at f g;obtain⟨k,l,m,o,q,-⟩:=f;exact⟨k.1,l,t,m,o,s,r,q,i,j,g,((b.rg M (by simp[L6,mB])).1)⟩
theorem MM.cells{lo:Nat}{M Pb:Nat}{st:BA}(a:MM lo n M Pb st t):∀b∈t,GH n b:=λb hb=>by
 obtain⟨cs,ds,g,i,kv,h,j,a,rfl⟩:=a;rw[<-L6 (lo:=lo) (Pb:=Pb) (st:=st) (cs:=cs) (ds:=ds) (kv:=kv)]at hb;let ⟨d,e,f⟩:=AU.1 hb
 exact d.c (a.sp.s.h d e) f
theorem E9.Jg(g:E9 v8 n p wi)(h:∀a,v8 a->GH n a->q.heap[a]?=n.heap[a]?):E9 v8 q p wi:=by
 let ⟨m,d,e,i⟩:=g
 refine⟨m,d,e,λk j=>?_⟩;let ⟨a,l,c,f,b⟩:=i k j
 exact⟨a,l,c,f,Eu (h a c (cells_of_cell b)) b⟩
theorem MM.turn{e:Nat}{f h:Q}{k l:Nat}{r:BA}{j:List Nat}(a:MM e f k l r j){q:Option Nat}(b:f.grownBy h q)(o:∀c,q=I c->e<=c/\∃p,f.heap[c]?=I p/\p.isCells=false):MM e h k l r j:=by
 have G:=a.da;have m:Below e f h:=⟨b.os,b.tape,b.output,b.size,λy E=>b.block y O1 λd=>O6⟩;obtain⟨u,w,v,B,z,x,D,a,rfl⟩:=a;exact⟨u,w,v,B,z,x,D,.of (a.sp.s.turn b λc d=>(o c d).2) (λi g=>(a.fl i g).Jg λt _ n=>b.block t (A9.1 n.choose_spec.1).1 (n.ne λc d=>(o c d).2)) (λi g=>(a.dc i g).fr m) (a.cd.fr m) a.Fh a.GD,rfl⟩
theorem AF.turn(e:AF t n q){b:Option Nat}(f:q.grownBy Y b)(g:∀a,b=I a->n.heap.size<=a):AF t n Y:=e.grown f λc d=>Axf (g c d)
theorem MM.keeps(g:MM w n s b d t)(a:AF t n q)(f:Nat):KeepsFrom f n q:=
 ⟨a.size,λe l _ c j=>by
  rw[a.block e (A9.1 c).1 (λh=>?_)]
  ·exact c
  ·let ⟨m,k,i⟩:=g.cells e h
   grind⟩
end
end Go.Proofs.YtpkbnogifdlcmaaGreatDoor
