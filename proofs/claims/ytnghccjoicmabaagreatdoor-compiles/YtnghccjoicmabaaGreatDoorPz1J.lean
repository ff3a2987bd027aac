import Derived.Test.YtnghccjoicmabaaGreatDoorPz4J
set_option maxRecDepth 100000
set_option maxHeartbeats 8000000
open Except renaming error->P
open Go renaming Calls->Adg,Value->X,World->Q,maxLen->Aed,wpList_append_lies->Adl
open Go.Ending renaming returned->F
open Go.IntKind renaming i64->C
open Go.Obj renaming cells->Adi
open Go.Value renaming agg->T,bool->A,iface->Z,int->V,pointer->J,slice->W,tuple->R
open Go.World renaming news_of_block->Adu
open Or renaming inl->Ads,inr->Ad7
namespace Go.Proofs.YtnghccjoicmabaaGreatDoor
open Go.RowKit Go.Sort
variable{w v b d x K wi:Nat}{s:ByteArray}{m:Value}{o:Nat->Addr}{n p:World}{t:List Nat}{xc:Pr (Nat×Av×Ex)}{ns:Ending}{l:Av}{N:Ex}{nv:Obj}
theorem Nk.cQ(h:Nk w v s m b d o n x t xc ns p)(k:xc=P (K,wi)):∃g c f e a,ns=F (R #[T #[V C g,W c f e,a],Z 107 (KQ o (Dm K) wi)])/\Eo w x n p/\Z3 a:=by
 subst k;let ⟨g,c,f,e,a,i,j⟩:=h.2;exact⟨g,c,f,e,a,j,h.1,i⟩
theorem Nk.isOk(f:Nk w v s m b d o n x t xc ns p)(i:xc=.ok ((K,l,N),wi)):∃a e c,ns=F (R #[T #[V C (K:Int),a,e],.nilIface])/\Eo w x n p/\wi<=s.size/\PS p w v s wi m b/\B2 p x (t++[K])/\Of (PX (d+1)) p (K,a,l,e,N,c)/\CT n.heap.size p (vB a++c):=by
 subst i;let ⟨a,e,c,g,h⟩:=f.2;exact⟨a,e,c,g,f.1,h⟩
theorem OC(a:EF w n p):EF w n (p.alloc nv):=a.trans (EF.cI bA)
theorem Ti:Tryz.zeroCells348=Array.replicate 256 (A false):=by kernel_rfl
theorem B2.zero(a:Q):B2 (a.alloc (.cells Tryz.zeroCells348 348)) a.heap.size []:=λc b=>⟨by rw[Ti];simp[b],by simp⟩
theorem Xx{G:Nat}(bK:s.size<=2000)(bf:C6 n G v o s m b d):Jg 213 n G v o s m b d (Da s (pE s b)) #[]:=by
 intro w O aJ ag bH;have a9:=hid (bf w O aJ ag bH);have aV:=hid aJ;have bh:=ag.lt;have bj:=ag.el;obtain⟨bt,bo,bp⟩:=Adb.1 Tryz.e8;simp only[Aeb]at bp;obtain⟨bl,bm,bn⟩:=bp;have bY:=Fy;clear aJ ag;show Adg _ _ #[J (some ⟨G,0,none⟩)] _ _;match ab:pE s b O with
 |P (aa,a)=>
  have Y:Hid (Da s (pE s b) O=P (aa,a)):=by show _=_;rw[JU,ab,AG]
  have aE:=hid ab;clear ab;go_enter Tryz.func213,Tryz.ntmps213;go_wp2_with (first
   |(go_at_call 124;refine a9.out.mono ?_;intro B j p;obtain⟨ax,rfl,an,-⟩:=p.cQ aE.out;have ai:=hid an;clear p an))
  go_ret2
  exact Bj.bad Y.out ai.out rfl (Ads rfl)
 |.ok (x,q1)=>
  have aE:=hid ab;have Y:Hid (Da s (pE s b) O=pb (EI s (pE s b) [] q1) λae af=>.ok (.case x ae,af)):=by show _=_;rw[JU,ab,Ai]
  clear ab;go_enter Tryz.func213,Tryz.ntmps213;go_wp2_with (first
   |(go_at_call 124;refine a9.out.mono ?_;intro B j p;obtain⟨ax,rfl,an,bI,bi,a2,aP,bq⟩:=p.isOk aE.out;obtain⟨K,L,rfl⟩:=aP.dd;have ai:=hid an;have bc:=hid aP;have aB:=hid bq;have aZ:=hid bi;clear p an bi aP bq a9))
  obtain⟨z,aK⟩:∃z,j.heap.size=z:=⟨_,rfl⟩;obtain⟨E,aM⟩:∃E,z+1=E:=⟨_,rfl⟩;have aW:Hid (It G v s m d b w j ((j.alloc (.cells #[Z K L,W none 0 0] 237)).alloc (.cells Tryz.zeroCells348 348)) z E (Z K L) [] q1 none 0):=by
   have g:Below j.heap.size j ((j.alloc (.cells #[Z K L,W none 0 0] 237)).alloc (.cells Tryz.zeroCells348 348)):=bA.alloc (by simp) _;have I:Below (j.alloc (.cells #[Z K L,W none 0 0] 237)).heap.size (j.alloc (.cells #[Z K L,W none 0 0] 237)) ((j.alloc (.cells #[Z K L,W none 0 0] 237)).alloc (.cells Tryz.zeroCells348 348)):=bA;have a6:=B2.zero (j.alloc (.cells #[Z K L,W none 0 0] 237));rw[show(j.alloc (.cells #[Z K L,W none 0 0] 237)).heap.size=j.heap.size+1 by simp]at a6;subst aK;subst aM;exact⟨bI,aZ.out.below g,AZ.nil _ _,V2.cJ (w:=j.alloc (.cells #[Z K L,W none 0 0] 237)) ⟨by simp,by simp,by simp,by simp⟩ I,a6,ai.out.trans (EF.cI g),Ac0 _,ai.out.size,Ab8 _,λe bE _=>g.block e bE⟩
  have bz:Hid (∀wr,j.heap.size<=wr.heap.size->(∀e,e<z->e≠G->wr.heap[e]?=j.heap[e]?)->PX (b+1) wr (Z K L,x,a2)):=by
   intro wr a6 bG;refine Ch _ _ _ _ bc.out a6 λe g=>?_;have:=aB.out.2 e g;exact bG e (by omega) (by omega)
  have b0:Hid (CT w.heap.size j a2):=aB.out;rw[aK,aM];clear aZ bc aB;go_loopw [] (λwr=>∃(f:List BT) (M:Nat) (az:Option Addr) (ay:Nat),Hid (Da s (pE s b) O=pb (EI s (pE s b) (f.map ZG) M) λae af=>.ok (.case x ae,af))/\Hid (It G v s m d b w j wr z E (Z K L) f M az ay)) (λwr=>s.size+1-Cx wr ⟨z,1,none⟩)
  case atStart=>exact⟨[],q1,none,0,Y.out,aW.out⟩
  case round=>
   clear aW Y;obtain⟨f,M,az,ay,Y,c⟩:=hrel;rename Q=>wr
   have a5:=c.out.hq;have cf:=c.out.len;obtain⟨bZ,ca,cd,ce⟩:=id c.out.c;have bx:=hid (aV.out.ef c.out.ef);have aD:=hid (A1 c.out.ps a5);have aY:Hid ((f.map ZG).length=f.length):=Adf ..;have bg:G<z:=by have:=c.out.hC;omega
   have a3:z≠G:=Aej bg;have a4:z≠E:=Nat.ne_of_lt c.out.hS;have aL:G<E:=Nat.lt_trans bg c.out.hS;by_cases ac:f.map ZG≠[]/\Ag s M=Ae
   ·have b1:Hid (Da s (pE s b) O=.ok (.case x (f.map ZG),Bi s M)):=by
     show _=_;rw[Y.out,Qg ac,Ai]
    have be:=FC CK ac.2;have a8:((f.length:Int)==0)=false:=by
     rw[beq_eq_false_iff_ne];have:=Ae7.2 ac.1;rw[aY.out]at this;omega
    clear ac;go_wp2_with (first
     |(go_at_call 57;refine aD.out.mono ?_;rintro B a0 ⟨rfl,I⟩;have bw:=hid I;obtain⟨k0,a7,bu,bv⟩:=c.out.c.cJ I;clear I))
    go_ret2
    have U:=c.out.below bw.out;have bs:j.heap.size<=a0.heap.size:=by have:=U.c.lt;omega
    refine Bj.ok b1.out U.ef ⟨A8 a5,U.ps.Bi (Ga s M),a2++AJ ZH (W az f.length ay) f,?_,?_⟩
    ·exact⟨_,a2,_,f,rfl,bz.out _ bs U.R1,U.row.low (Ac0 _),rfl,rfl⟩
    ·refine b0.out.dM ⟨U.row.nd,λe g=>⟨?_,(U.row.rg e g).2⟩⟩ ai.out.size bs;have:=(U.row.rg e g).1;omega
   ·have aX:Hid (Da s (pE s b) O=pb (Qw s (pE s b) (f.map (·.1)) M) λe bV=>pb (EI s (pE s b) (f.map ZG++[e]) bV) λae af=>.ok (.case x ae,af)):=by
     show _=_;rw[Y.out,R0 (by rw[aY.out];omega) ac,Ae4];show pb (pb (Qw s (pE s b) (f.map (·.1)) M) _) _=_;rw[UY]
    have bC:n.heap.size<=E:=by
     have ab:=aV.out.b.size;have b8:=c.out.hC;have b9:=c.out.hS;omega
    have bD:E≠v:=by
     have b8:=c.out.hC;have b9:=c.out.hS;omega
    have a1:=hid (λa0 (g:Below wr.heap.size wr a0)=>SX bK bf (bx.out.ef (EF.cI g)) (c.out.ps.below g) a5 (c.out.seen.cK (g.block E c.out.seen.lt)) (Aej aL) bD bC);have bk:((f.length:Int)==0)=true\/(((f.length:Int)==0)=false/\((Ag s M).toList==[41])=false):=by
     by_cases aO:f=[]
     ·exact Ads (by rw[aO];rfl)
     ·refine Ad7 ⟨?_,Fz CK λag=>ac ⟨λB=>aO (Aa4.1 B),ag⟩⟩;rw[beq_eq_false_iff_ne];have:=Ae7.2 aO;omega
    clear ac aK aM;match hbd:Qw s (pE s b) (f.map (·.1)) M with
    |P (aa,a)=>
     have ba:Hid (Da s (pE s b) O=P (aa,a)):=by show _=_;rw[aX.out,hbd,AG]
     have ah:=hid hbd;clear hbd;rcases bk with a8|⟨a8,be⟩
     ·have D:=hid (Acv wr.heap.size wr);go_wp2_with (first
       |(go_at_call 226;refine(a1.out _ D.out).mono ?_;intro B k p;obtain⟨b5,b4,b3,b2,b6,rfl,H,aN⟩:=p.cQ ah.out;have l:=hid H;clear p H;rcases aN with rfl|⟨h,i,rfl⟩))
      all_goals
       go_ret2
       exact Bj.bad ba.out (OC ((Eo.ef l.out (c.out.ef.trans (EF.cI D.out)) (Ac5 c.out.hC (Nat.le_of_lt c.out.hS))))) rfl (Ads rfl)
     ·skip
      go_wp2_with (first
       |(go_at_call 57;refine aD.out.mono ?_;rintro B a0 ⟨rfl,I⟩;have D:=hid I;clear I)
       |(go_at_call 226;refine(a1.out _ D.out).mono ?_;intro B k p;obtain⟨b5,b4,b3,b2,b6,rfl,H,aN⟩:=p.cQ ah.out;have l:=hid H;clear p H;rcases aN with rfl|⟨h,i,rfl⟩))
      all_goals
       go_ret2
       exact Bj.bad ba.out (OC ((Eo.ef l.out (c.out.ef.trans (EF.cI D.out)) (Ac5 c.out.hC (Nat.le_of_lt c.out.hS))))) rfl (Ads rfl)
    |.ok ((u,ns,y),r)=>
     have bb:Hid (Da s (pE s b) O=pb (EI s (pE s b) (f.map ZG++[(u,ns,y)]) r) λae af=>.ok (.case x ae,af)):=by show _=_;rw[aX.out,hbd,Ai]
     have br:=Y4 a5 hbd;have ah:=hid hbd;clear hbd;rcases bk with a8|⟨a8,be⟩
     ·have D:=hid (Acv wr.heap.size wr);go_wp2_with (first
       |(go_at_call 226;refine(a1.out _ D.out).mono ?_;intro B k p;obtain⟨aR,ax,am,rfl,H,bJ,ao,av,N,ar⟩:=p.isOk ah.out;obtain⟨t,q,rfl⟩:∃aI aa,aR=W aI ns.length aa:=N.1.slice;obtain⟨h,i,rfl⟩:∃aT aU,ax=Z aT aU:=N.2.dd;have l:Hid (Eo G E wr k):=(Eo.cM (EF.cI D.out)).trans H;have aH:=hid ao;have al:=hid av;have aC:=hid N;have aj:=hid (ar.low D.out.size);obtain⟨k0,a7,bu,bv⟩:=c.out.c.cK (l.out.block z c.out.c.lt a3 a4);have bR:=λaS=>alloc_old k aS _ _ _ a7;have aG:=hid (c.out.row.fr (D0 (Ch _)) l.out.size λe g=>l.out.block e (c.out.row.rg e g).2 (Aej (Ac2 (Aa8 aL) (c.out.row.rg e g).1)) (Aej (Ac2 (Ab8 E) (c.out.row.rg e g).1)));obtain⟨bS,bT,bU,aQ⟩:=(show V3 (k.alloc (.cells #[V C (u:Int),W t ns.length q,Z h i] 240)) k.heap.size (V C (u:Int)) (W t ns.length q) (Z h i) from⟨by simp,by simp,by simp,λbL=>by simp⟩);clear p H ao av N ar aQ)
       |(at_builtin;refine Adl _ rfl (.tmp 39) (.tmp 41) 235 rfl 0 240 bt _ 3 48 Tryz.underlying235 bo bl bm bn rfl (by omega) (W az f.length ay) f.length (f.flatMap VZ) rfl ((aG.out.own.alloc _).alloc _) ⟨k.heap.size+1,0,none⟩ 1 1 [V C (u:Int),W t ns.length q,Z h i] rfl rfl (by simpa using Adu (Adp (k.alloc (Adi #[V C (u:Int),W t ns.length q,Z h i] 240)) (Adi #[V C (u:Int),W t ns.length q,Z h i] 240))) (by intro bW aw;simp at aw;rcases aw with rfl|rfl|rfl<;>rfl) (by omega) (by unfold Aed;omega) (by omega) (Ac0 _) _ rfl ?_;intro b7 bQ bX au ad ap aq;have ak:=hid (c.out.push (x:=(u,W t ns.length q,ns,Z h i,y,am)) bh bj br (l.out.trans (Eo.cM (EF.cI bA))) (aH.out.below bA) (al.out.cK (Ad3 _ _ al.out.lt)) (D0 (Ch _) _ _ _ aC.out (by simp) λe g=>Ad3 _ _ (aj.out.2 e g).2) (aj.out.up (by simp)) ad ap aq au);obtain⟨bM,bN,bO,bP⟩:=((c.out.c.cK (l.out.block z c.out.c.lt a3 a4)).cJ ((Acv k.heap.size k).alloc (Acu _) (Adi #[V C (u:Int),W t ns.length q,Z h i] 240))).cK (Bz ad (by simp;exact Aa8 (Ac2 c.out.c.lt l.out.size)) (λB=>by have:=(c.out.row.rg z (Acw _ (Ah.2 B))).1;have bB:=c.out.hS;omega));clear au ad ap aq))
      refine⟨⟨f++[(u,W t ns.length q,ns,Z h i,y,am)],r,_,_,by show _=_;rw[bb.out,Adq];rfl,ak⟩,?_⟩;rw[BJ ak.out.c,BJ c.out.c];simp[IG];omega
     ·skip
      go_wp2_with (first
       |(go_at_call 57;refine aD.out.mono ?_;rintro B a0 ⟨rfl,I⟩;have D:=hid I;clear I)
       |(go_at_call 226;refine(a1.out _ D.out).mono ?_;intro B k p;obtain⟨aR,ax,am,rfl,H,bJ,ao,av,N,ar⟩:=p.isOk ah.out;obtain⟨t,q,rfl⟩:∃aI aa,aR=W aI ns.length aa:=N.1.slice;obtain⟨h,i,rfl⟩:∃aT aU,ax=Z aT aU:=N.2.dd;have l:Hid (Eo G E wr k):=(Eo.cM (EF.cI D.out)).trans H;have aH:=hid ao;have al:=hid av;have aC:=hid N;have aj:=hid (ar.low D.out.size);obtain⟨k0,a7,bu,bv⟩:=c.out.c.cK (l.out.block z c.out.c.lt a3 a4);have bR:=λaS=>alloc_old k aS _ _ _ a7;have aG:=hid (c.out.row.fr (D0 (Ch _)) l.out.size λe g=>l.out.block e (c.out.row.rg e g).2 (Aej (Ac2 (Aa8 aL) (c.out.row.rg e g).1)) (Aej (Ac2 (Ab8 E) (c.out.row.rg e g).1)));obtain⟨bS,bT,bU,aQ⟩:=(show V3 (k.alloc (.cells #[V C (u:Int),W t ns.length q,Z h i] 240)) k.heap.size (V C (u:Int)) (W t ns.length q) (Z h i) from⟨by simp,by simp,by simp,λbL=>by simp⟩);clear p H ao av N ar aQ)
       |(at_builtin;refine Adl _ rfl (.tmp 39) (.tmp 41) 235 rfl 0 240 bt _ 3 48 Tryz.underlying235 bo bl bm bn rfl (by omega) (W az f.length ay) f.length (f.flatMap VZ) rfl ((aG.out.own.alloc _).alloc _) ⟨k.heap.size+1,0,none⟩ 1 1 [V C (u:Int),W t ns.length q,Z h i] rfl rfl (by simpa using Adu (Adp (k.alloc (Adi #[V C (u:Int),W t ns.length q,Z h i] 240)) (Adi #[V C (u:Int),W t ns.length q,Z h i] 240))) (by intro bW aw;simp at aw;rcases aw with rfl|rfl|rfl<;>rfl) (by omega) (by unfold Aed;omega) (by omega) (Ac0 _) _ rfl ?_;intro b7 bQ bX au ad ap aq;have ak:=hid (c.out.push (x:=(u,W t ns.length q,ns,Z h i,y,am)) bh bj br (l.out.trans (Eo.cM (EF.cI bA))) (aH.out.below bA) (al.out.cK (Ad3 _ _ al.out.lt)) (D0 (Ch _) _ _ _ aC.out (by simp) λe g=>Ad3 _ _ (aj.out.2 e g).2) (aj.out.up (by simp)) ad ap aq au);obtain⟨bM,bN,bO,bP⟩:=((c.out.c.cK (l.out.block z c.out.c.lt a3 a4)).cJ ((Acv k.heap.size k).alloc (Acu _) (Adi #[V C (u:Int),W t ns.length q,Z h i] 240))).cK (Bz ad (by simp;exact Aa8 (Ac2 c.out.c.lt l.out.size)) (λB=>by have:=(c.out.row.rg z (Acw _ (Ah.2 B))).1;have bB:=c.out.hS;omega));clear au ad ap aq))
      refine⟨⟨f++[(u,W t ns.length q,ns,Z h i,y,am)],r,_,_,by show _=_;rw[bb.out,Adq];rfl,ak⟩,?_⟩;rw[BJ ak.out.c,BJ c.out.c];simp[IG];omega
theorem U7{ar:Q}(g:Bool)(aJ:C6 ar w v o s m b d)(aT:RQ ar w v o s m b d):Jg 211 ar w v o s m b d (BE s (pE s b) g) #[A g]:=by
 intro z x az N aW;have a0:=N.lt;have aU:=N.el;have a5:=hid az;have bm:=hid N;have bl:=Fy;obtain⟨aQ,a1⟩:∃bh,bh=Adi #[A g,W none 0 0,W none 0 0,.nilIface] 233:=⟨_,rfl⟩;have Y:Hid (Below z.heap.size z (z.alloc aQ)):=bA;have aw:Hid (V4 (z.alloc aQ) z.heap.size (A g) (W none 0 0) (W none 0 0) .nilIface):=by
  subst a1;exact⟨by simp,by simp,by simp,by simp,λbx=>by simp⟩
 have an:=hid (HI Ax (z.heap.size+1) (by simp) (az.ef (EF.cI Y.out)) (N.below Y.out) aW (by decide));rw[a1]at an Y aw;clear az N a1;show Adg _ _ #[J (some ⟨w,0,none⟩),A g] _ _;match h1:Al s Ax x with
 |P (c,a)=>
  have M:Hid (BE s (pE s b) g x=P (c,a)):=by show _=_;rw[Jx,h1,AG]
  have av:=hid h1;clear h1;go_enter Tryz.func211,Tryz.ntmps211;go_wp2_with (first
   |(go_at_call 55;refine an.out.mono ?_;rintro k aR f;obtain⟨rfl,ad⟩:=f.cQ av.out;have ac:=hid ad;clear f ad))
  go_ret2
  exact Bj.bad M.out ((EF.cI Y.out).trans ac.out) rfl (Ads rfl)
 |.ok ((),q1)=>
  have M:Hid (BE s (pE s b) g x=pb (EL s (pE s b) [] [] q1) λe O=>pb (Al s Ae O) λ_ U=>pb (pE s b U) λt j=>.ok (.lets g e.1 e.2 t,j)):=by show _=_;rw[Jx,h1,Ai]
  have av:=hid h1;clear h1;go_enter Tryz.func211,Tryz.ntmps211;go_wp2_with (first
   |(go_at_call 55;refine an.out.mono ?_;rintro k aR f;obtain⟨rfl,ad,aX,aK⟩:=f.isOk av.out;have ac:=hid ad;have aC:=hid aK;clear f ad aK))
  obtain⟨I,ao⟩:∃I,z.heap.size=I:=⟨_,rfl⟩;have a9:Hid (Bm w v s m d b z aR I g [] [] q1 (W none 0 0) (W none 0 0)):=by
   subst ao;exact⟨aX,aC.out,aw.out.ef ac.out (Aej a0),AZ.nil _ _,AZ.nil _ _,(λt u=>by simp[EM]at u),(EF.cI Y.out).trans ac.out,Acu _,Ac0 _,rfl⟩
  rw[ao];clear aC an aw;go_loopw [] (λwr=>∃(i:Av) (B:List PT) (l:Nat) (aP aI:X),Hid (BE s (pE s b) g x=pb (EL s (pE s b) i (B.map (λe:PT=>e.2.1)) l) λe O=>pb (Al s Ae O) λ_ U=>pb (pE s b U) λt j=>.ok (.lets g e.1 e.2 t,j))/\Hid (Bm w v s m d b z wr I g i B l aP aI)) (λwr=>s.size+1-Cx wr ⟨I,1,none⟩)
  case atStart=>exact⟨[],[],q1,_,_,M.out,a9.out⟩
  case round=>
   clear a9 M ac Y;obtain⟨i,B,l,aP,aI,M,h⟩:=hrel;rename Q=>wr
   have ap:=h.out.hq;have bw:=h.out.len;have aV:i.length<=s.size:=by rw[h.out.same];omega
   obtain⟨b0,bz,rfl⟩:=h.out.n.slice;obtain⟨bv,bu,rfl⟩:=h.out.e.slice;obtain⟨bo,bp,bq,br,aH⟩:=id h.out.v;have bs:=aH 1;clear aH;have am:=hid (A1 h.out.ps ap);have al:Hid (I≠w):=by show I≠w;omega
   have a6:=hid (a5.out.ef h.out.ef);clear ao;by_cases H:i≠[]/\Ag s l=Ae
   ·have aG:=FC CK H.2;have aq:((i.length:Int)==0)=false:=by
     rw[beq_eq_false_iff_ne];have:=Ae7.2 H.1;omega
    have aB:Hid (Ag s l≠⟨#[]⟩):=by show _≠_;rw[H.2];decide
    have aD:Hid (BE s (pE s b) g x=pb (pE s b (AC s l)) λt j=>.ok (.lets g i (B.map (λe:PT=>e.2.1)) t,j)):=by
     show _=_;rw[M.out,Pu H,Ai,Jb (by rw[Di];exact H.2),Ai,DZ]
    have aO:=AK ap;clear H;match u:pE s b (AC s l) with
    |P (c,a)=>
     have aa:Hid (BE s (pE s b) g x=P (c,a)):=by show _=_;rw[aD.out,u,AG]
     have G:=hid u;clear u;go_wp2_with (first
      |(go_at_call 57;refine am.out.mono ?_;rintro k ab ⟨rfl,q⟩;have D:=hid q;clear q)
      |(go_at_call 58;refine(Bv (h.out.ps.below D.out) ap).mono ?_;rintro k aj ⟨rfl,p,ag⟩;have r:=hid ((EF.cI (E:=w) D.out).trans p);have au:=hid (ag aB.out);clear p ag)
      |(go_at_call 124;refine(aJ _ _ (a6.out.ef r.out) au.out aO).mono ?_;intro k bk f;obtain⟨ai,rfl,ae,aZ⟩:=f.cQ G.out;have K:=hid (r.out.trans ae);obtain⟨k0,ba,bb,bc,ah⟩:=h.out.v.ef K.out al.out;have be:=ah 3;have bn:=hid (h.out.v.ef K.out al.out);clear f ae ah;rcases aZ with rfl|⟨bi,bj,rfl⟩))
     all_goals
      go_ret2
      exact Bj.bad aa.out (EJ (h.out.ef.trans K.out) h.out.hL) rfl (Ad7 ⟨_,_,rfl⟩)
    |.ok (y,j)=>
     have aa:Hid (BE s (pE s b) g x=.ok (.lets g i (B.map (λe:PT=>e.2.1)) y,j)):=by show _=_;rw[aD.out,u,Ai]
     have G:=hid u;clear u;go_wp2_with (first
      |(go_at_call 57;refine am.out.mono ?_;rintro k ab ⟨rfl,q⟩;have D:=hid q;clear q)
      |(go_at_call 58;refine(Bv (h.out.ps.below D.out) ap).mono ?_;rintro k aj ⟨rfl,p,ag⟩;have r:=hid ((EF.cI (E:=w) D.out).trans p);have au:=hid (ag aB.out);clear p ag)
      |(go_at_call 124;refine(aJ _ _ (a6.out.ef r.out) au.out aO).mono ?_;intro k bk f;obtain⟨ai,rfl,ae,aY,aL,bt,a3,aN⟩:=f.isOk G.out;obtain⟨bi,bj,rfl⟩:=a3.dd;have K:=hid (r.out.trans ae);obtain⟨k0,ba,bb,bc,ah⟩:=h.out.v.ef K.out al.out;have be:=ah 3;have aS:=hid aL;have a7:=hid (h.out.fin a0 K.out a3 (aN.low r.out.size));clear f ae ah a3 aN aL))
     go_ret2
     have ao:=h.out.hL;exact Bj.ok aa.out (EJ (h.out.ef.trans K.out) h.out.hL) ⟨aY,aS.out.dc al.out (by omega),_,a7.out.1,a7.out.2⟩
   ·have a8:Hid (BE s (pE s b) g x=pb (E4 s (pE s b) i l) λe j=>pb (EL s (pE s b) (i++[e.1]) (B.map (λe:PT=>e.2.1)++[e.2]) j) λe O=>pb (Al s Ae O) λ_ U=>pb (pE s b U) λt j=>.ok (.lets g e.1 e.2 t,j)):=by
     show _=_;rw[M.out,Sk aV H];match E4 s (pE s b) i l with
     |P k=>rfl
     |.ok (e,j)=>rfl
    have ak:=hid (λab (u:Below wr.heap.size wr ab)=>aT z ab I g i B l _ _ a5.out a0 aU (h.out.below u));have aM:((i.length:Int)==0)=true\/(((i.length:Int)==0)=false/\((Ag s l).toList==[41])=false):=by
     by_cases a2:i=[]
     ·exact Ads (by rw[a2];rfl)
     ·refine Ad7 ⟨?_,Fz CK λN=>H ⟨a2,N⟩⟩;rw[beq_eq_false_iff_ne];have:=Ae7.2 a2;omega
    clear H;match hbd:E4 s (pE s b) i l with
    |P (c,a)=>
     have aa:Hid (BE s (pE s b) g x=P (c,a)):=by show _=_;rw[a8.out,hbd,AG]
     have G:=hid hbd;clear hbd;rcases aM with aq|⟨aq,aG⟩
     ·go_wp2_with (first
       |(go_at_call 225;refine(ak.out _ (Acv _ _)).mono ?_;intro k aj f;obtain⟨rfl,p⟩:=f.cQ G.out;have r:=hid p;clear f p))
      go_ret2
      exact Bj.bad aa.out r.out rfl (Ads rfl)
     ·go_wp2_with (first
       |(go_at_call 57;refine am.out.mono ?_;rintro k ab ⟨rfl,q⟩;have D:=hid q;clear q)
       |(go_at_call 225;refine(ak.out _ D.out).mono ?_;intro k aj f;obtain⟨rfl,p⟩:=f.cQ G.out;have r:=hid p;clear f p))
      go_ret2
      exact Bj.bad aa.out r.out rfl (Ads rfl)
    |.ok ((e,y),j)=>
     have aE:Hid (BE s (pE s b) g x=pb (EL s (pE s b) (i++[e]) (B.map (λe:PT=>e.2.1)++[y]) j) λe O=>pb (Al s Ae O) λ_ U=>pb (pE s b U) λt j=>.ok (.lets g e.1 e.2 t,j)):=by show _=_;rw[a8.out,hbd,Ai]
     have G:=hid hbd;clear hbd;rcases aM with aq|⟨aq,aG⟩
     ·go_wp2_with (first
       |(go_at_call 225;refine(ak.out _ (Acv _ _)).mono ?_;intro k aj f;obtain⟨rfl,ai,ax,a4,ay,af⟩:=f.isOk G.out;have L:=hid af;clear f af))
      refine⟨⟨i++[e],B++[(ai,y,ax)],j,a4,ay,by show _=_;rw[aE.out,Adq];rfl,L⟩,?_⟩;obtain⟨bg,bf,rfl⟩:=L.out.n.slice;rw[HH L.out.v,HH h.out.v];simp[IG];omega
     ·go_wp2_with (first
       |(go_at_call 57;refine am.out.mono ?_;rintro k ab ⟨rfl,q⟩;have D:=hid q;clear q)
       |(go_at_call 225;refine(ak.out _ D.out).mono ?_;intro k aj f;obtain⟨rfl,ai,ax,a4,ay,af⟩:=f.isOk G.out;have L:=hid af;clear f af))
      refine⟨⟨i++[e],B++[(ai,y,ax)],j,a4,ay,by show _=_;rw[aE.out,Adq];rfl,L⟩,?_⟩;obtain⟨bg,bf,rfl⟩:=L.out.n.slice;rw[HH L.out.v,HH h.out.v];simp[IG];omega
end Go.Proofs.YtnghccjoicmabaaGreatDoor
