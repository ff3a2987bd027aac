import Derived.Test.YtcacpmkdfnmhaaaGreatDoorSfJ
set_option linter.unusedSimpArgs false
set_option maxRecDepth 100000
set_option maxHeartbeats 8000000
open Go renaming Calls->Av,Value->X,World->Q
open Go.Ending renaming returned->F
open Go.IntKind renaming i64->C
open Go.Proofs.Tryz renaming prog->Aa
open Go.Value renaming agg->T,int->V,pointer->J,slice->W,tuple->R
open List renaming length->L
open Option renaming none->N,some->I
namespace Go.Proofs.YtcacpmkdfnmhaaaGreatDoor
open Go.RowKit Go.Sort
variable{w s m:Nat}{n:World}{c:Bq}{y:List Nat}
theorem Ac0(a:Int)(b:Q)(f:0<=a/\a<=1000000000):Av Aa 156 #[V C a] b λc d=>c=F (R #[V C (a.tdiv 256),V C (a % 256)])/\d=b:=by
 have e:IntKind.i64.wrap (a.tdiv 256)=a.tdiv 256:=JO (by
  grind)
 go_wp2;go_ret2
 simp
structure T4 (a:Nat) (b d:Int) (g:X) (c:Q) (f:Q->Prop):Prop where
 c0:b=0->Av Aa 151 #[J (I ⟨a,0,N⟩),T #[V .u8 1,V C d,V .i32 0,V .i32 0,W N 0 0]] c λe w'=>e=F (R #[])/\O9 (f w')
 c1:b=1->IntKind.i32.wrap d=d/\Av Aa 147 #[J (I ⟨a,0,N⟩),V .i32 d] c λe w'=>e=F (R #[])/\O9 (f w')
 c6:b=6->Av Aa 153 #[J (I ⟨a,0,N⟩),V C d] c λe w'=>e=F (R #[])/\O9 (f w')
 c7:b=7->Av Aa 154 #[J (I ⟨a,0,N⟩),V C d] c λe w'=>e=F (R #[])/\O9 (f w')
 cc:9<=b/\b<=14->Av Aa 159 #[J (I ⟨a,0,N⟩),V C b] c λe w'=>e=F (R #[])/\O9 (f w')
 ZV:b=15->(0<=d/\d<=1000000000)/\Av Aa 155 #[J (I ⟨a,0,N⟩),V C (d.tdiv 256),V C (d % 256)] c λe w'=>e=F (R #[])/\O9 (f w')
 c16:b=16->Av Aa 157 #[J (I ⟨a,0,N⟩),V C d] c λe w'=>e=F (R #[])/\O9 (f w')
 c17:b=17->Av Aa 158 #[J (I ⟨a,0,N⟩),g] c λe w'=>e=F (R #[])/\O9 (f w')
 c18:b=18->(∃v,c.cell? ⟨a,5,N⟩=I v)/\c.frozen? ⟨a,5,N⟩=false/\O9 (f (c.setCell ⟨a,5,N⟩ (V C d)))
 c19:b=19->Av Aa 98 #[J (I ⟨a,0,N⟩)] c λe w'=>e=F (R #[])/\O9 (f w')
 c20:b=20->Av Aa 101 #[J (I ⟨a,0,N⟩),V C 4] c λe w'=>e=F (R #[])/\O9 (f w')
def Qb(a:Int):Prop:=a=0\/a=1\/a=6\/a=7\/a=9\/a=10\/a=11\/a=12\/a=13\/a=14\/a=15\/a=16\/a=17\/a=18\/a=19\/a=20
theorem X7(G:Q->Prop)(ae:MM w n s m c y)(ai:EV c)(B:DC c=true){k:Nat}(ao:c.fr.at_=(k:Int))(ax:k<L c.fr.code)(ay:k<=1000000000)(aj:Qb c.fr.code[k].op)(af:∀l Y ab,MM w l s m (Cn (BR c)) Y->AF y n l->(∀d∈Y,d∈y\/n.heap.size<=d)->(∃d i j,l.cell? ⟨s,4,N⟩=I (W (I ⟨d,0,N⟩) i j)/\l.cell? ⟨d,k*3+2,N⟩=I ab)->T4 s c.fr.code[k].op c.fr.code[k].a ab l G):
 Av Aa 99 #[J (I ⟨s,0,N⟩)] n λf l=>f=F (R #[])/\G l:=by
 have E:=O0 (MH ae ai);rw[B]at E;obtain⟨D,z⟩:∃D,c.fr.code[k].op=D:=⟨_,rfl⟩;obtain⟨u,U⟩:∃u,c.fr.code[k].a=u:=⟨_,rfl⟩;rw[z]at aj;have aa:O9 (∀e t,AF y n e->MM w e s m (BR c) t->(∀d∈t,d∈y\/n.heap.size<=d)->∃d i j:Nat,∃r,∃q p:Nat,(k:Int)<(i:Int)/\e.cell? ⟨s,4,N⟩=I (W (I ⟨d,0,N⟩) i j)/\e.cell? ⟨s,5,N⟩=I (V C (k:Int))/\e.frozen? ⟨s,5,N⟩=false/\(e.setCell ⟨s,5,N⟩ (V C ((k:Int)+1))).cell? ⟨d,k*3,N⟩=I (V C D)/\(e.setCell ⟨s,5,N⟩ (V C ((k:Int)+1))).cell? ⟨d,k*3+1,N⟩=I (V C u)/\(e.setCell ⟨s,5,N⟩ (V C ((k:Int)+1))).cell? ⟨d,k*3+2,N⟩=I (W r q p)/\O9 (T4 s D u (W r q p) (e.setCell ⟨s,5,N⟩ (V C ((k:Int)+1))).drew G)):=by
  intro e t x am v;have ap:(BR c).fr.at_=(k:Int):=by rw[D3 B];omega
  have aq:(BR c).fr.code=c.fr.code:=by rw[D3 B]
  obtain⟨d,i,j,r,q,p,ar,O,ac,ad,⟨H,K,M⟩,av,aw,an,al⟩:=am.next (k:=k) ap O6;simp only[aq,z,U]at H K;have ah:=af _ _ (W r q p) (an.bE (Ae _ _).drew) ((x.trans al v).then (Ae _ _).drew) v ⟨d,i,j,by rw[<-O];show(e.setCell ⟨s,5,N⟩ (V C ((k:Int)+1))).cell? _=_;exact Fp nofun,M⟩;rw[z,U]at ah;exact⟨d,i,j,r,q,p,O1,O,ac,ad,H,K,M,ah⟩
 clear ae B ai ao af z U;rcases aj with rfl|rfl|rfl|rfl|rfl|rfl|rfl|rfl|rfl|rfl|rfl|rfl|rfl|rfl|rfl|rfl;all_goals
  go_enter Tryz.func99,Tryz.ntmps99;go_wp2_with (first
   |(go_at_call 50;refine E.o.mono ?_;rintro f e ⟨rfl,x,t,ag,v⟩;obtain⟨d,i,j,r,q,p,ar,O,ac,ad,H,K,M,a⟩:=aa.o e t x ag v;clear x ag v aa E))
  go_region
  first
   |(have b:=O0 (a.o.c0 rfl);clear a
     go_wp2_with (first|(go_at_call 151;refine b.o.mono ?_;rintro f h ⟨rfl,g⟩)))
   |(have b:=O0 (a.o.c1 rfl).2;have az:=(a.o.c1 rfl).1;clear a
     go_wp2_with (first|(go_at_call 147;refine b.o.mono ?_;rintro f h ⟨rfl,g⟩)))
   |(have b:=O0 (a.o.c6 rfl);clear a
     go_wp2_with (first|(go_at_call 153;refine b.o.mono ?_;rintro f h ⟨rfl,g⟩)))
   |(have b:=O0 (a.o.c7 rfl);clear a
     go_wp2_with (first|(go_at_call 154;refine b.o.mono ?_;rintro f h ⟨rfl,g⟩)))
   |(have b:=O0 (a.o.ZV rfl).2;have ak:=O0 (Ac0 u (e.setCell ⟨s,5,N⟩ (V C ((k:Int)+1))).drew (a.o.ZV rfl).1);clear a
     go_wp2_with (first|(go_at_call 156;refine ak.o.mono ?_;rintro f h ⟨rfl,rfl⟩)|(go_at_call 155;refine b.o.mono ?_;rintro f a2 ⟨rfl,g⟩)))
   |(have b:=O0 (a.o.c16 rfl);clear a
     go_wp2_with (first|(go_at_call 157;refine b.o.mono ?_;rintro f h ⟨rfl,g⟩)))
   |(have b:=O0 (a.o.c17 rfl);clear a
     go_wp2_with (first|(go_at_call 158;refine b.o.mono ?_;rintro f h ⟨rfl,g⟩)))
   |(obtain⟨⟨a1,a0⟩,au,g⟩:=a.o.c18 rfl;clear a
     go_wp2)
   |(have b:=O0 (a.o.c19 rfl);clear a
     go_wp2_with (first|(go_at_call 98;refine b.o.mono ?_;rintro f h ⟨rfl,g⟩)))
   |(have b:=O0 (a.o.c20 rfl);clear a
     go_wp2_with (first|(go_at_call 101;refine b.o.mono ?_;rintro f h ⟨rfl,g⟩)))
   |(have b:=O0 (a.o.cc O1);clear a
     go_wp2_with (first|(go_at_call 159;refine b.o.mono ?_;rintro f h ⟨rfl,g⟩)))
  exact bF ⟨rfl,g.o⟩ O2 rfl rfl
theorem Aee{r:Nat}(d:MM w n s r c y)(D:EV c)(k:DC c=true){f:Nat}(z:c.fr.at_=(f:Int))(B:f<L c.fr.code)(ap:f<=1000000000)(aa:c.fr.code[f].op=2)(ar:(L c.stack)<=1000000000){e:Nat}(Y:c.fr.code[f].a=(e:Int))(ao:e<L c.stack):
 Av Aa 99 #[J (I ⟨s,0,N⟩)] n λg ac=>BL w s r y n (Ff (c.stack[L c.stack-1-e]'(by omega)) (Cn (BR c))) (R #[]) g ac:=by
 have p:=O0 (Qi d D k z B);have b:(Cn (BR c)).stack=c.stack:=by rw[D3 k];rfl
 obtain⟨h,G⟩:∃h,c.stack[L c.stack-1-e]'(by omega)=h:=⟨_,rfl⟩;rw[G];generalize hs1:Cn (BR c)=s1 at*;clear d k D z;go_enter Tryz.func99,Tryz.ntmps99;go_wp2_with (first
  |(go_at_call 50;refine p.o.mono ?_;rintro g ad ⟨rfl,af,av,ag,ae,aq,al,am,an,t,u,O,U,i,v,x⟩;rw[AA B,Arn]at t u;rw[aa]at t;rw[Y]at u;rw[hs1]at i;have l:=O0 i;have H:=O0 v;have K:=O0 x;clear p i v x U O))
 go_region
 obtain⟨ah,aj,ai,aw,au,ak,ax,d,-⟩:=l.o;obtain⟨ab,sc,rfl,-,E⟩:=IM d.sk (by rw[b];omega);have q:=O0 (Kr e (d.m.at 2 rfl) (by rw[b];omega) (by rw[b];omega));have a0:(ad.setCell ⟨s,5,N⟩ (V C ((f:Int)+1))).cell? ⟨ab,L c.stack-1-e,N⟩=I (V .i32 h):=(E _ (by rw[b];omega)).trans (by simp[BX,b,<-G]);rw[b]at q;clear d E;go_wp2_with (first
  |(go_at_call 146;refine q.o.mono ?_;rintro g ay ⟨rfl,rfl⟩)
  |(go_at_call 147;refine(Nr h (l.o.bE (Ae _ _).drew) (by rw[b];omega)).mono ?_;intro g az j;obtain⟨rfl,-⟩:=id j;have M:=O0 j;clear j))
 exact bF (M.o.of H.o.drew K.o rfl) O2 rfl rfl
theorem Wq(f:MM w n s m c y)(p:EV c)(t:DC c=true){x:Nat}(ai:c.fr.at_=(x:Int))(al:x<L c.fr.code)(a9:x<=1000000000)(ac:(L c.stack)<=1000000000)(aw:(L c.cells)<=1000000000)(am:Bq)(U:(c.fr.code[x].op=3/\∃e i M,c.stack=e++[i,M]/\am=G2 ⟨2,0,M,i,[]⟩ (BQ 1 (BQ 1 (Cn (BR c)))))\/(c.fr.code[x].op=4/\∃e i,∃Y:Nat,c.stack=e++[i]/\c.fr.code[x].a=(Y:Int)/\Y<=L e/\am=Ff i (BQ Y (BQ 1 (Cn (BR c)))))):
 Av Aa 99 #[J (I ⟨s,0,N⟩)] n λj a4=>BL w s m y n am (R #[]) j a4:=by
 have ab:=O0 (Qi f p t ai al);have v:(Cn (BR c)).stack=c.stack:=by rw[D3 t];rfl
 have ax:(Cn (BR c)).cells=c.cells:=by rw[D3 t];rfl
 have aa:O9 (EV (Cn (BR c))):=by
  rw[D3 t];have ah:1<=c.sm-c.su:=by simpa[DC]using t
  have:=p.su;exact⟨by simp only[Cn];omega,p.sm,p.mu,p.mm⟩
 generalize hs1:Cn (BR c)=s1 at*;rcases U with⟨U,e,i,M,r,rfl⟩|⟨U,e,i,Y,r,az,a0,rfl⟩
 ·have ah:c.stack=(e++[i])++[M]:=by rw[r];simp
  have k:(BQ 1 s1).stack=e++[i]:=by show s1.stack.take _=_;rw[v,ah];exact List.take_left' O2
  have av:(BQ 1 (BQ 1 s1)).stack=e:=by show(BQ 1 s1).stack.take _=_;rw[k];simp
  have a2:(L e)+2<=1000000000:=by rw[r]at ac;simpa using ac
  clear f t p ai r;go_enter Tryz.func99,Tryz.ntmps99;go_wp2_with (first
   |(go_at_call 50;refine ab.o.mono ?_;rintro j a5 ⟨rfl,d,a3,ap,an,a1,aq,ar,au,K,u,aj,ak,l,b,O⟩;rw[AA al,Arn]at K u;rw[U]at K;rw[hs1]at l;have G:=O0 l;have z:=O0 b;have D:=O0 O;clear ab l b O u ak aj))
  go_region
  go_wp2_with (first
   |(go_at_call 152;first|(refine(OK H.o k (by rw[k];simp;omega)).mono ?_;rintro j a7 ⟨rfl,b,B3,h,g⟩;have af:=O0 h;have ad:=O0 (B.o.trans b E.o);have ae:=O0 λd hb=>(g d hb).elim (E.o d) λf=>.inr (Aw B.o.size f);clear H b h g)|(refine(OK G.o (v.trans ah) (by rw[v];omega)).mono ?_;rintro j a6 ⟨rfl,b,ao,h,g⟩;have H:=O0 h;have B:=O0 (z.o.trans b D.o);have E:=O0 λd hb=>(g d hb).elim (D.o d) λf=>.inr (Aw z.o.size f);clear G b h g))
   |(go_at_call 151;refine(M7 ⟨2,0,M,i,[]⟩ (W N 0 0) ⟨N,0,rfl,λaB ay=>absurd ay O2⟩ ⟨_,_,_,rfl⟩ af.o ⟨aa.o.su,aa.o.sm,aa.o.mu,aa.o.mm⟩ (by rw[av];omega) (by show L s1.cells<=_;rw[ax];exact aw)).mono ?_;intro j a8 q;obtain⟨rfl,-⟩:=id q;have ag:=O0 q;clear q))
  exact bF (ag.o.of ad.o ae.o rfl) O2 rfl rfl
 ·have k:(BQ 1 s1).stack=e:=by simp[BQ,v,r]
  have a2:(L e)+1<=1000000000:=by rw[r]at ac;simpa using ac
  clear f t p ai;go_enter Tryz.func99,Tryz.ntmps99;go_wp2_with (first
   |(go_at_call 50;refine ab.o.mono ?_;rintro j a5 ⟨rfl,d,a3,ap,an,a1,aq,ar,au,K,u,aj,ak,l,b,O⟩;rw[AA al,Arn]at K u;rw[U]at K;rw[az]at u;rw[hs1]at l;have G:=O0 l;have z:=O0 b;have D:=O0 O;clear ab l b O))
  go_region
  go_wp2_with (first
   |(go_at_call 152;refine(OK G.o (v.trans r) (by rw[v];omega)).mono ?_;rintro j a6 ⟨rfl,b,ao,h,g⟩;have aC:=DA (b.block d ak aj) u;have H:=O0 h;have B:=O0 (z.o.trans b D.o);have E:=O0 λd hb=>(g d hb).elim (D.o d) λf=>.inr (Aw z.o.size f);clear G b h g)
   |(go_at_call 153;refine(N4 Y H.o (by rw[k];exact a0) (by rw[k];omega)).mono ?_;rintro j a7 ⟨rfl,b,B3,h,g⟩;have af:=O0 h;have ad:=O0 (B.o.trans b E.o);have ae:=O0 λd hb=>(g d hb).elim (E.o d) λf=>.inr (Aw B.o.size f);clear H b h g)
   |(go_at_call 147;refine(Nr i af.o (by show((BQ 1 s1).stack.take _).length<=_;rw[k];simp;omega)).mono ?_;intro j a8 q;obtain⟨rfl,-⟩:=id q;have ag:=O0 q;clear q))
  exact bF (ag.o.of ad.o ae.o rfl) O2 rfl rfl
end Go.Proofs.YtcacpmkdfnmhaaaGreatDoor
