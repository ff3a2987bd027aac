import Derived.Test.YtpkbnogifdlcmaaGreatDoorPckJ
set_option linter.unusedSimpArgs false
set_option maxRecDepth 100000
set_option maxHeartbeats 8000000
open And renaming intro->Aw6
open Except renaming error->P
open Go renaming Calls->Az,Value->X,World->Q,undef->Aw7
open Go.ByteArray renaming toList_eq->Axe
open Go.Ending renaming returned->F
open Go.IntKind renaming i64->C
open Go.Obj renaming cells->AW
open Go.Proofs.Tryz renaming prog->Aa
open Go.Value renaming agg->T,bool->A,iface->Z,int->V,pointer->J,slice->W,string->S,tuple->R
open Go.World renaming news_of_block->A5
open List renaming length->L
open Option renaming none->N,some->I
open Or renaming inl->Be,inr->Axf
namespace Go.Proofs.YtpkbnogifdlcmaaGreatDoor
open Go.RowKit Go.Sort Go.Proofs.Tryz
variable{w s b j wf n1 ns v7 xi xv yj:Nat}{n q Y n4 sn:World}{t n8 st:List Nat}{wa n3 y3:Type}{M:Nat->Addr}{p y e G wz:Value}{n2:Ending}{m:Oy}{D:Int}{zd:Pr Ex}{v9:Obj}{x2:Option Nat}{vg:Nat->Pr Ex}{wo:Ex}{vt:List Ex}{h:Bs}{w4:Bool}{n0:Oy×Nat}{yr:Pr ((Oy×Nat)×Ex)}{r w8:KS}{vl:Hb}{ys:Pr (Oy×Nat)}{sa:List (Nat×Bs×Ex)}{yt:Pr (Nat×Bs×Ex)}
abbrev PT:=X×Ex×List Nat
abbrev BT:=Nat×X×Bs×PT
def Is(a:PT):List X:=[a.1]
def FL(a:PT):List Nat:=a.2.2
def Li(a:BT):List X:=[V C (a.1:Int),a.2.1,a.2.2.2.1]
def NR(a:BT):List Nat:=vB a.2.1++a.2.2.2.2.2
abbrev H5(b:Q->PT->Prop)(d:Q)(a:Nat)(c:X)(e:List PT):Prop:=Cm Is FL b 142 1 d a c e
abbrev Qr(b:Q->BT->Prop)(d:Q)(a:Nat)(c:X)(e:List BT):Prop:=Cm Li NR b 297 3 d a c e
section
variable (ok:World->PT->Prop)
def La(b:Q)(a:BT):Prop:=Dy b 0 a.2.1 a.2.2.1/\ok b a.2.2.2
def Kg(b:Q)(d:X)(i:Ex)(c:List Nat):Prop:=match i with
 |.num n=>d=Z 339 (T #[V C n])/\c=[]
 |.Bo _ t B=>d=Z 131 (T #[S t,V C (B:Int)])/\c=[]
 |.op z l r=>∃w v y x,d=Z 350 (T #[V C (9+(z:Int)),w,y])/\ok b (w,l,v)/\ok b (y,r,x)/\c=v++x
 |.call parts=>∃s o f u h a,parts=s::o/\d=Z 352 (T #[f,h])/\ok b (f,s,u)/\H5 ok b 0 h a/\a.map (λg:PT=>g.2.1)=o/\c=u++Dl FL h a
 |.lets r ns es body=>∃j e a bv p,d=Z 290 (T #[A r,j,e,bv])/\Dy b 0 j ns/\H5 ok b 0 e a/\a.map (λg:PT=>g.2.1)=es/\ok b (bv,body,p)/\c=vB j++(Dl FL e a++p)
 |.CE D fs=>∃f a,d=Z 392 (T #[V C (D:Int),f])/\H5 ok b 0 f a/\a.map (λg:PT=>g.2.1)=fs/\c=Dl FL f a
 |.case i F5=>∃e q bv m,d=Z 294 (T #[e,bv])/\ok b (e,i,q)/\Qr (La ok) b 0 bv m/\m.map (λk:BT=>(k.1,k.2.2.1,k.2.2.2.2.1))=F5/\c=q++Dl NR bv m
end
def PX:Nat->Q->PT->Prop
 |0,_,_=>False
 |d+1,w,x=>Kg (PX d) w x.1 x.2.1 x.2.2
theorem Dy.fr{c d:Q}{f:Nat}{b:X}{e:Bs}(g:Dy c f b e)(i:c.heap.size<=d.heap.size)(h:Fr (vB b) c d):Dy d f b e:=Cm.fr EK g i (h.sub λj hb=>by
 rcases Ag.1 hb with a|a
 ·exact a
 ·simp at a)
variable{zv:World->PT->Prop}
theorem L7(e:Ht FL zv):Ht NR (La zv):=by
 intro f g h a c b;exact⟨a.1.fr c (b.sub λd hb=>Ad _ hb),e f g _ a.2 c (b.sub λd hb=>Aj _ hb)⟩
theorem Kg.fr{x:Q->PT->Prop}(h:Ht FL x){j m:Q}{y:X}{e:Ex}{s:List Nat}(o:Kg x j y e s)(b:j.heap.size<=m.heap.size)(a:Fr s j m):Kg x m y e s:=by
 cases e with
 |num n=>exact o
 |Bo g t pl=>exact o
 |op k l r=>
  obtain⟨M,K,Y,U,c,d,f,rfl⟩:=o;exact⟨M,K,Y,U,c,h j m _ d b (a.sub λi hb=>Ad _ hb),h j m _ f b (a.sub λi hb=>Aj _ hb),rfl⟩
 |call parts=>
  obtain⟨G,z,v,H,B,q,c,d,f,p,w,rfl⟩:=o;exact⟨G,z,v,H,B,q,c,d,h j m _ f b (a.sub λi hb=>Ad _ hb),p.fr h b (a.sub λi hb=>Aj _ hb),w,rfl⟩
 |lets r ns es body=>
  obtain⟨O,u,q,bv,D,c,d,f,p,w,rfl⟩:=o;exact⟨O,u,q,bv,D,c,d.fr b (a.sub λi hb=>Ad _ hb),f.fr h b (a.sub λi hb=>Aj _ (Ad _ hb)),p,h j m _ w b (a.sub λi hb=>Aj _ (Aj _ hb)),rfl⟩
 |CE tag fs=>
  obtain⟨v,q,c,d,f,rfl⟩:=o;exact⟨v,q,c,d.fr h b a,f,rfl⟩
 |case e F5=>
  obtain⟨u,E,bv,aa,c,d,f,p,rfl⟩:=o;exact⟨u,E,bv,aa,c,h j m _ d b (a.sub λi hb=>Ad _ hb),f.fr (L7 h) b (a.sub λi hb=>Aj _ hb),p,rfl⟩
theorem Dp:∀a,Ht FL (PX a)
 |0=>λ_ _ _ b=>b.elim
 |a+1=>λ_ _ _ b d c=>Kg.fr (Dp a) b d c
theorem PX.ch:∀{d:Nat} {i:Q} {b:X} {e:Ex} {c:List Nat},PX d i (b,e,c)->∃f p,b=Z f p
 |0,_,_,_,_,h=>h.elim
 |d+1,i,b,e,c,h=>by
  cases e with
  |num n=>exact⟨_,_,h.1⟩
  |Bo g f pl=>exact⟨_,_,h.1⟩
  |op k l r=>obtain⟨z,y,E,D,a,-⟩:=h;grind
  |call parts=>obtain⟨v,q,o,w,s,j,-,x,-⟩:=h;grind
  |lets r ns es body=>obtain⟨B,m,j,bv,t,a,-⟩:=h;grind
  |CE tag fs=>obtain⟨o,j,a,-⟩:=h;grind
  |case e F5=>obtain⟨m,u,bv,G,a,-⟩:=h;grind
def DG(c:Nat)(d:Q)(b:List Nat):Prop:=b.Nodup/\∀a∈b,c<=a/\a<d.heap.size
theorem DG.nil(a:Nat)(b:Q):DG a b []:=⟨Azi,λc hb=>by cases hb⟩
theorem DG.up(a:DG w n t)(c:n.heap.size<=q.heap.size):DG w q t:=⟨a.1,λb hb=>⟨(a.2 b hb).1,Am (a.2 b hb).2 c⟩⟩
theorem DG.low(a:DG w n t)(c:s<=w):DG s n t:=⟨a.1,λb hb=>⟨Ay c (a.2 b hb).1,(a.2 b hb).2⟩⟩
theorem DG.fr(b:DG w n t)(c:EF s n q)(d:s<w):Fr t n q:=λa hb=>c.block a (b.2 a hb).2 (by have:=(b.2 a hb).1;omega)
theorem DG.b1(c:DG w n t)(d:DG n.heap.size q n8)(g:w<=n.heap.size)(h:n.heap.size<=q.heap.size):DG w q (t++n8):=by
 refine⟨AY.2 ⟨c.1,d.1,λe f a hb i=>?_⟩,λa hb=>?_⟩
 ·have b:=(c.2 e f).2;have j:=(d.2 a hb).1;omega
 ·rcases Ag.1 hb with b|b
  ·exact⟨(c.2 a b).1,Am (c.2 a b).2 h⟩
  ·exact⟨Ay g (d.2 a b).1,(d.2 a b).2⟩
def MX(a:X):Prop:=a=.nilIface\/∃b c,a=Z b c
def Cw{f:Type}(j:Pr f)(g:Nat)(l:Q)(i:Nat->Addr)(h:f->Nat->X->Q->Prop)(d:Ending)(e:Q):Prop:=EF g l e/\match j with
 |.ok (a,q)=>∃b,d=F (R #[b,.nilIface])/\h a q b e
 |P (c,k)=>∃b,d=F (R #[b,Fu i (Cq c) k])/\MX b
theorem Cw.ok{c:Pr wa}{a:wa->Nat->X->Q->Prop}{b:wa}(e:c=.ok (b,s))(d:EF w n q)(f:a b s p q):Cw c w n M a (F (R #[p,.nilIface])) q:=⟨d,O6⟩
theorem Cw.bad{a:Pr wa}{c:wa->Nat->X->Q->Prop}(e:a=P (s,b))(d:EF w n q)(g:y=Fu M (Cq s) b)(f:MX p):Cw a w n M c (F (R #[p,y])) q:=⟨d,O6⟩
theorem Cw.bY{d:Pr wa}{e:wa->Nat->X->Q->Prop}(c:Cw d w n M e n2 q)(g:d=P (s,b)):∃a,n2=F (R #[a,Z 85 (He M (Cq s) b)])/\EF w n q/\MX a:=by
 subst g;let ⟨a,h,f⟩:=c.2;exact⟨a,h,c.1,f⟩
theorem Cw.isOk{d:Pr wa}{b:wa->Nat->X->Q->Prop}{e:wa}(c:Cw d w n M b n2 q)(g:d=.ok (e,s)):∃a,n2=F (R #[a,.nilIface])/\EF w n q/\b e s a q:=by
 subst g;let ⟨a,h,f⟩:=c.2;exact⟨a,h,c.1,f⟩
def XV(g:Nat)(d:Oy)(e f:Nat)(h:X)(i:Nat)(k:Q)(l:Ex)(c:Nat)(j:X)(a:Q):Prop:=c<=d.size/\PS a e f d c h i/\∃b,PX g a (j,l,b)/\DG k.heap.size a b
def Ho(j:Q)(a e:Nat)(f:Nat->Addr)(c:Oy)(h:X)(g i:Nat):Prop:=∀(b:Q) (d:Nat),PB j b a f->PS b a e c d h i->d<=c.size->
 Az Aa 137 #[J (I ⟨a,0,N⟩)] b λk l=>Cw (pE c g d) a b f (XV (g+1) c a e h i b) k l
theorem Aim(a:CQ m=true):Ej m=none:=by
 unfold CQ at a;simp[decide_eq_true_eq]at a;obtain⟨⟨⟨b,-⟩,c⟩,-⟩:=a;rw[Rq c]at b;simp[ne_eq,not_true_eq_false,decide_false,Bool.false_and,Bool.or_false]at b;have f:97<=m[0].toNat:=by
  have:=b.1;simp[Kc,decide_eq_true_eq]at this;omega
 have i:HJ m=false:=by
  unfold HJ;grind
 have g:CB m=m:=by unfold CB;grind
 refine XB (Be ?_);unfold HH;have e:0<L m.data.toList:=by simpa using c
 have d:m.data.toList=m[0]::m.data.toList.drop 1:=by
  have:=A2 e;exact this
 have h:F4 m.data.toList=false:=by
  rw[d];unfold F4;rw[Az2];have:D5 m[0].toNat=false:=by
   unfold D5;grind
  rw[this];rfl
 grind
theorem As9(a:Ej (Bq m w)=I D):DF m w=.ok (.num D,BC m w):=by
 have b:CQ (Bq m w)=false:=by
  cases b:CQ (Bq m w) with
  |false=>rfl
  |true=>rw[Aim b]at a;cases a
 unfold DF;grind
theorem Aq4(a:CQ (Bq m w)=true):DF m w=.ok (.Bo false (Bq m w) (B6 m w),BC m w):=by unfold DF;rw[if_pos a]
theorem Av7(a:CQ (Bq m w)=false)(b:Ej (Bq m w)=N):DF m w=P (2,B6 m w):=by unfold DF;grind
theorem Ak2(a:Ej m=I D):m≠⟨#[]⟩:=λb=>by rw[b,P6]at a;cases a
theorem Cw.two{d:Pr wa}{i:Q}{e:wa->Nat->X->Q->Prop}(a:Cw d w n M e n2 i):∃b f,n2=F (R #[b,f]):=by
 match d,a with
 |P (c,k),a=>obtain⟨h,g,-⟩:=a.2;grind
 |.ok (b,q),a=>obtain⟨h,g,-⟩:=a.2;grind
theorem Cw.cC{e:Q}(d:Cw zd w e M (XV b m w s p j e) n2 Y)(f:EF w n e):Cw zd w n M (XV b m w s p j n) n2 Y:=by
 refine⟨f.trans d.1,?_⟩;match zd,d with
 |P (c,k),d=>exact d.2
 |.ok (a,q),d=>
  let ⟨t,r,h,i,g,l,o⟩:=d.2
  exact⟨t,r,h,i,g,l,o.low f.size⟩
def Te(j:Q)(a e:Nat)(f:Nat->Addr)(b:Oy)(h:X)(g i:Nat):Prop:=∀(c:Q) (d:Nat),PB j c a f->PS c a e b d h i->d<=b.size->Bq b d=B8->
 Az Aa 185 #[J (I ⟨a,0,N⟩)] c λk l=>Cw (pE b g d) a c f (XV (g+1) b a e h i c) k l
theorem Ate(b:¬Bq m w=B8):∀a,pE m a w=DF m w
 |0=>by exact if_neg b
 |a+1=>by exact if_neg b
theorem As4(ai:m.size<=2000)(h:Q)(g:Nat)(ah:Bq m g=B8->∀d,PB n d w M->PS d w s m g p j->Az Aa 185 #[J (I ⟨w,0,N⟩)] d λc y=>Cw (pE m b g) w d M (XV (b+1) m w s p j d) c y)(D:PB n h w M)(r:PS h w s m g p j)(k:g<=m.size):
 Az Aa 137 #[J (I ⟨w,0,N⟩)] h λc y=>Cw (pE m b g) w h M (XV (b+1) m w s p j h) c y:=by
 have z:=λd (hb:Ow h d)=>Hn (r.below hb) k;have B:=O0 D.sy;have x:=Ss k ai;have ak:=Iz;have al:=Qg;have a:=O0 (Ae h.heap.size h);by_cases l:Bq m g=B8
 ·have ae:=λd (hb:Ow h d)=>ah l d (D.ef (EF.bW hb)) (r.below hb);have ag:=IU Rg l;clear D l;go_enter func137,ntmps137;go_wp2_with (first
   |(go_at_call 46;refine(z _ a.o).mono ?_;rintro c d ⟨rfl,e⟩;replace a:=O0 (a.o.trans (e.mono a.o.size));clear e)
   |(go_at_call 185;refine(ae _ a.o).mono ?_;intro c ap Y;have af:=O0 (Y.cC (EF.bW a.o));obtain⟨am,an,rfl⟩:=Y.two;clear Y))
  go_ret2
  exact af.o
 ·have ag:=IA Rg l;have G:=Ate l b;clear D l;cases hw:Ej (Bq m g) with
  |some v=>
   have q:=O0 (G.trans (As9 hw));have O:=Ak2 hw;have aa:=O0 hw;clear hw;go_enter func137,ntmps137;go_wp2_with (first
    |(go_at_call 46;refine(z _ a.o).mono ?_;rintro c d ⟨rfl,e⟩;replace a:=O0 (a.o.trans (e.mono a.o.size));clear e)
    |(go_at_call 186;refine(Qs _ x (B.o.bG a.o)).mono ?_;rintro c ad ⟨i,ac,rfl,f⟩;obtain rfl:=f v aa.o;replace a:=O0 (a.o.trans (i.mono a.o.size));clear i f;rw[aa.o];simp only[Ay2])
    |(go_at_call 47;refine(JF (r.below a.o) k).mono ?_;rintro c aj ⟨rfl,t,u⟩;have H:=O0 ((EF.bW (E:=w) a.o).trans t);have U:=O0 (u O);clear t u))
   go_ret2
   exact Cw.ok q.o H.o ⟨Dr k,U.o,[],⟨rfl,rfl⟩,DG.nil _ _⟩
  |none=>
   cases f:CQ (Bq m g) with
   |true=>
    have q:=O0 (G.trans (Aq4 f));have O:=O0 (ZM f);have K:=O0 f;clear f;go_enter func137,ntmps137;go_wp2_with (first
     |(go_at_call 46;refine(z _ a.o).mono ?_;rintro c d ⟨rfl,e⟩;replace a:=O0 (a.o.trans (e.mono a.o.size));clear e)
     |(go_at_call 186;refine(Qs _ x (B.o.bG a.o)).mono ?_;rintro c ad ⟨i,ac,rfl,-⟩;replace a:=O0 (a.o.trans (i.mono a.o.size));clear i;rw[hw];simp only[Ay3])
     |(go_at_call 84;refine(OH _ _ x).mono ?_;rintro c y ⟨rfl,rfl⟩;rw[K.o])
     |(go_at_call 47;refine(JF (r.below a.o) k).mono ?_;rintro c aj ⟨rfl,t,u⟩;have H:=O0 ((EF.bW (E:=w) a.o).trans t);have U:=u O.o;clear t u))
    go_ret2
    exact Cw.ok q.o H.o ⟨Dr k,U,[],⟨rfl,rfl⟩,DG.nil _ _⟩
   |false=>
    have q:=O0 (G.trans (Av7 f hw));have K:=O0 f;clear f;go_enter func137,ntmps137;go_wp2_with (first
     |(go_at_call 46;refine(z _ a.o).mono ?_;rintro c d ⟨rfl,e⟩;replace a:=O0 (a.o.trans (e.mono a.o.size));clear e)
     |(go_at_call 186;refine(Qs _ x (B.o.bG a.o)).mono ?_;rintro c ad ⟨i,ac,rfl,-⟩;replace a:=O0 (a.o.trans (i.mono a.o.size));clear i;rw[hw];simp only[Ay3])
     |(go_at_call 84;refine(OH _ _ x).mono ?_;rintro c y ⟨rfl,rfl⟩;rw[K.o];have ao:=(B.o.bG a.o).sy)
     |(go_at_call 83;refine(LW M 12 (r.below a.o) k).mono ?_;rintro c w5 ⟨rfl,ab⟩;replace a:=O0 (a.o.trans (ab.mono a.o.size));clear ab))
    go_ret2
    exact Cw.bad q.o (EF.bW a.o) rfl (Be rfl)
theorem Yp(k:m.size<=2000)(h:Te n w s M m p b j):Ho n w s M m p b j:=λl c g d a=>As4 k l c (λi o e f=>h o c e f a i) g d a
def Mc(j:Nat)(i:Q)(a e:Nat)(f:Nat->Addr)(d:Oy)(g:X)(k h:Nat)(n:Nat->Pr Ex)(m:Array X):Prop:=∀(b:Q) (c:Nat),PB i b a f->PS b a e d c g h->c<=d.size->
 Az Aa j (#[J (I ⟨a,0,N⟩)]++m) b λl o=>Cw (n c) a b f (XV (k+2) d a e g h b) l o
theorem Ako{d:Nat}(b:Bq m w=B8):pE m (d+1) w=pb (Dw m (pE m d) (BC m w)) λa c=>pb (BS m BO c) λ_ e=>.ok (a,e):=by exact if_pos b
theorem Aqq(a:Bq m w=B8):pE m 0 w=P (3,B6 m w):=by exact if_pos a
theorem Aho:B8≠⟨#[]⟩:=nofun
theorem P7(a:Oy)(d:Nat)(i:q.heap.size=d)(h:PB n q w M)(g:PS q w s m b p j)(k:b<=m.size)(l:a≠⟨#[]⟩):
 Az Aa 44 #[J (I ⟨w,0,N⟩),W (I ⟨d,0,N⟩) 1 1] (q.alloc (.cells #[S a] 9)) λf c=>Js (BS m a b) w q M (λe c=>e<=m.size/\PS c w s m e p j) f c:=by
 subst i;exact KY a h g k l
theorem Amv:Te n w s M m p 0 30:=by
 intro l k d a g f;have b:=Aqq f;have c:=LW M 13 a g;have i:=d.sy.dp;have h:=a.c2;go_enter func185,ntmps185;go_wp2_with (first
  |(refine c.mono ?_;rintro j w5 ⟨rfl,e⟩))
 go_ret2
 exact Cw.bad b (EF.bW e) rfl (Be rfl)
theorem Afe{d:Nat}(a5:j<30)(ag:Mc 231 n w s M m p d (j+1) (Dw m (pE m d)) #[]):Te n w s M m p (d+1) j:=by
 intro G t D B ao ai;have am:=Ako (d:=d) ai;have a3:=B.c2;have a4:=B.f 2 O1;have aw:=B.lt;have a6:((j:Int)==30)=false:=by rw[beq_eq_false_iff_ne];omega
 have a7:(0:Int)<=(j:Int):=O1;have a8:(j:Int)<30:=O1;have au:O9 (PS (G.setCell ⟨w,2,N⟩ (V C ((j:Int)+1))) w s m t p (j+1)):=by
  have:=B.dd (j+1);rw[show(((j+1:Nat):Int))=(j:Int)+1 by omega]at this;exact this
 have Y:O9 (EF w G (G.setCell ⟨w,2,N⟩ (V C ((j:Int)+1)))):=(EF.refl _ _).set _;have ae:=JF au.o ao;have ac:O9 (Bq m t≠⟨#[]⟩):=by show _≠_;rw[ai];exact Aho
 have ah:=Dr ao;clear B ai;match hf:Dw m (pE m d) (BC m t) with
 |P (c,a)=>
  have K:pE m (d+1) t=P (c,a):=by show _=_;rw[am,hf,DR]
  have H:=O0 hf;clear hf;go_enter func185,ntmps185;go_wp2_with (first
   |(go_at_call 47;refine ae.mono ?_;rintro r aq ⟨rfl,h,k⟩;have e:=Y.o.trans h;have z:=k ac.o;clear h k)
   |(go_at_call 231;refine(ag _ _ (D.ef e) z ah).mono ?_;intro r l b;obtain⟨ap,rfl,i,-⟩:=b.bY H.o;have v:=O0 (e.trans i);clear b i))
  go_ret2
  exact Cw.bad K v.o rfl (Be rfl)
 |.ok (x,q)=>
  have H:=O0 hf;have K:pE m (d+1) t=pb (BS m BO q) λ_ ak=>.ok (x,ak):=by show _=_;rw[am,hf,BQ]
  clear hf;match hc:BS m BO q with
  |P (c,a)=>
   have af:pE m (d+1) t=P (c,a):=by show _=_;rw[K,hc,DR]
   have U:=O0 hc;clear hc;go_enter func185,ntmps185;go_wp2_with (first
    |(go_at_call 47;refine ae.mono ?_;rintro r aq ⟨rfl,h,k⟩;have e:=Y.o.trans h;have z:=k ac.o;clear h k)
    |(go_at_call 231;refine(ag _ _ (D.ef e) z ah).mono ?_;intro r l b;obtain⟨ap,rfl,i,aj,g,an,E,O⟩:=b.isOk H.o;obtain⟨a1,a2,rfl⟩:=E.ch;have v:=O0 (e.trans i);have az:=g.c2;have av:=g.f 2 O1;have ad:PS (l.setCell ⟨w,2,N⟩ (V C (j:Int))) w s m q p j:=g.dd j;have y:O9 (EF w G (l.setCell ⟨w,2,N⟩ (V C (j:Int)))):=v.o.set _;have a0:((j+1:Nat):Int)-1=(j:Int):=O1;clear b i g E O)
    |(go_at_call 44;refine(P7 BO _ O2 (D.ef y.o) ad aj O4).mono ?_;intro r ar b;obtain⟨rfl,u⟩:=b.bY U.o;have ab:=y.o.trans u;clear b u))
   go_ret2
   exact Cw.bad af ab rfl (Axf ⟨_,_,rfl⟩)
  |.ok ((),ak)=>
   have af:pE m (d+1) t=.ok (x,ak):=by show _=_;rw[K,hc,BQ]
   have U:=O0 hc;clear hc;go_enter func185,ntmps185;go_wp2_with (first
    |(go_at_call 47;refine ae.mono ?_;rintro r aq ⟨rfl,h,k⟩;have e:=Y.o.trans h;have z:=k ac.o;clear h k)
    |(go_at_call 231;refine(ag _ _ (D.ef e) z ah).mono ?_;intro r l b;obtain⟨ap,rfl,i,aj,g,an,E,O⟩:=b.isOk H.o;obtain⟨a1,a2,rfl⟩:=E.ch;have v:=O0 (e.trans i);have az:=g.c2;have av:=g.f 2 O1;have ad:PS (l.setCell ⟨w,2,N⟩ (V C (j:Int))) w s m q p j:=g.dd j;have y:O9 (EF w G (l.setCell ⟨w,2,N⟩ (V C (j:Int)))):=v.o.set _;have a0:((j+1:Nat):Int)-1=(j:Int):=O1;have al:=O0 (O.low e.size);clear b i g O)
    |(go_at_call 44;refine(P7 BO _ O2 (D.ef y.o) ad aj O4).mono ?_;intro r ar b;obtain⟨rfl,u,ay,ax⟩:=b.isOk U.o;have aa:EF w l ar:=((EF.refl w l).set _).trans u;have ab:=y.o.trans u;clear b u))
   go_ret2
   refine Cw.ok af ab ⟨ay,ax,an,?_,al.o.up aa.size⟩;exact Dp _ _ _ _ E aa.size (al.o.fr aa aw)
def PC(a:Nat->Pr Ex)(b d:Nat):Pr Ex:=pb (a d) λc e=>pb (a e) λg f=>.ok (.op b c g,f)
theorem Aom(g:Nat)(K:Ho n w s M m p b j):Mc 261 n w s M m p b j (PC (pE m b) g) #[V C (9+(g:Int))]:=by
 intro ao u H G ag;have h:=K ao u H G ag;have U:=O0 H;have ad:=G.lt;clear H G;show Az _ _ #[J (I ⟨w,0,N⟩),V C (9+(g:Int))] _ _;match h1:pE m b u with
 |P (c,a)=>
  have k:PC (pE m b) g u=P (c,a):=by show pb _ _=_;rw[h1,DR]
  have ac:=O0 h1;clear h1;go_enter func261,ntmps261;go_wp2_with (first
   |(go_at_call 137;refine h.mono ?_;intro x z d;obtain⟨ab,rfl,e,-⟩:=d.bY ac.o;clear d))
  go_ret2
  exact Cw.bad k e rfl (Be rfl)
 |.ok (l,q1)=>
  match h2:pE m b q1 with
  |P (c,a)=>
   have k:PC (pE m b) g u=P (c,a):=by show pb _ _=_;rw[h1,BQ,h2,DR]
   have D:=O0 h2;clear h2;go_enter func261,ntmps261;go_wp2_with (first
    |(go_at_call 137;refine h.mono ?_;intro x z d;obtain⟨ab,rfl,e,O,q,E,t,y⟩:=d.isOk h1;obtain⟨am,an,rfl⟩:=t.ch;have v:=O0 e;have i:=K z q1 (U.o.ef e) q O;clear d e q t y h)
    |(go_at_call 137;refine i.mono ?_;intro x ap d;obtain⟨al,rfl,f,ai⟩:=d.bY D.o;have B:=v.o.trans f;clear d f i;rcases ai with rfl|⟨aj,ak,rfl⟩))
   all_goals
    go_ret2
    exact Cw.bad k B rfl (Axf ⟨_,_,rfl⟩)
  |.ok (r,q2)=>
   have k:PC (pE m b) g u=.ok (.op g l r,q2):=by show pb _ _=_;rw[h1,BQ,h2,BQ]
   have D:=O0 h2;clear h2;go_enter func261,ntmps261;go_wp2_with (first
    |(go_at_call 137;refine h.mono ?_;intro x z d;obtain⟨ab,rfl,e,O,q,E,t,y⟩:=d.isOk h1;obtain⟨am,an,rfl⟩:=t.ch;have v:=O0 e;have i:=K z q1 (U.o.ef e) q O;clear d e q h)
    |(go_at_call 137;refine i.mono ?_;intro x ap d;obtain⟨al,rfl,f,ah,ae,Y,aa,af⟩:=d.isOk D.o;obtain⟨aj,ak,rfl⟩:=aa.ch;have B:=v.o.trans f;clear d i))
   go_ret2
   refine Cw.ok k B ⟨ah,ae,E++Y,?_,y.b1 af v.o.size f.size⟩;exact⟨_,E,_,Y,rfl,Dp _ _ _ _ t f.size (y.fr f ad),aa,rfl⟩
theorem LR(b:(n.alloc v9).grownBy q x2)(hb:w<n.heap.size)(c:x2≠I w):q.heap[w]?=n.heap[w]?:=by
 rw[b.block w O5 (λa=>c a.symm)];exact Axo n v9 hb
theorem V2.bX{w':Q}(b:V2 n w p y)(a:w'.heap[w]?=n.heap[w]?):V2 w' w p y:=
 ⟨by rw[Ak a];exact b.1,by rw[Ak a];exact b.2.1,by rw[AJ a];exact b.2.2.1,by rw[AJ a];exact b.2.2.2⟩
theorem V2.cG(a:V2 n w p y)(b:X):V2 (n.setCell ⟨w,1,N⟩ b) w p b:=by
 refine⟨?_,Au _ _ _ a.2.1,?_,?_⟩
 ·rw[Ah _ _ _ _ (Cv O1)];exact a.1
 ·rw[Aq];exact a.2.2.1
 ·rw[Aq];exact a.2.2.2
theorem WT(d:Fr t n q)(hb:w∉t):Fr t n (q.setCell ⟨w,s,N⟩ p):=λa b=>by
 rw[AA _ _ _ _ (show a≠w from λc=>hb (c▸b))];exact d a b
variable{vo:PT}
theorem Aqe(b:PX w n vo)(d:DG s n vo.2.2)(hb:Ow n q):PX w q vo:=Dp _ _ _ _ b hb.size λa c=>hb.block a (d.2 a c).2
structure Mu (e k:Nat) (g:Oy) (n:X) (o l:Nat) (j p wr:Q) (a:Nat) (m:X) (d:List PT) (f:Nat) (i:Option Addr) (h:Nat):Prop where
 hq:f<=g.size
 ps:PS wr e k g f n o
 row:H5 (PX (l+1)) wr (a+1) (W i (L d) h) d
 c:V2 wr a m (W i (L d) h)
 ef:EF e j wr
 len:(L d)<=f
 hC:j.heap.size<=a
 Nn:∀b,b<a->b≠e->wr.heap[b]?=p.heap[b]?
theorem Mu.push{h k:Nat}{s:Oy}{u:X}{v m:Nat}{t w1 wr d j:Q}{g:Nat}{z:X}{b:List PT}{K r:Nat}{y:Option Addr}{w:Nat}{x:PT}{q:Obj}(c:Mu h k s u v m t w1 wr g z b K y w)(ag:h<t.heap.size)(ah:k<t.heap.size)(ae:K+1<=r/\r<=s.size)(e:EF h wr d)(Y:PS d h k s r u v)(af:PX (m+1) d x)(p:DG wr.heap.size d x.2.2)(i:(d.alloc q).grownBy j (W y (L b) w).ownBlock){f l:Nat}(aa:(W y (L b) w).ownBlock=I f\/f=(d.alloc q).heap.size)(ab:f<j.heap.size)(ad:j.ownsRow 0 142 1 (W (I ⟨f,0,N⟩) (L b+1) l) (L b+1) (b.flatMap Is++[x.1])):
 Mu h k s u v m t w1 (j.setCell ⟨g,1,N⟩ (W (I ⟨f,0,N⟩) (L b+1) l)) g z (b++[x]) r (I ⟨f,0,N⟩) l:=by
 have E:(b++[x]).length=L b+1:=O2;have aj:=λa hb=>(c.row.rg a (Ad _ (Ca.2 hb))).1;have U:=Am c.c.lt e.size;have B:=c.hC;have ai:=c.len;have H:H5 (PX (m+1)) j (g+1) (W (I ⟨f,0,N⟩) (L b+1) l) (b++[x]):=by
  have hb:Ow d (d.alloc q):=bA;refine c.row.push (Dp _) (by have:=c.c.lt;omega) (λa o=>?_) (Ay e.size hb.size) (Aqe af p hb) (λa o=>⟨(p.2 a o).1,Am (p.2 a o).2 hb.size⟩) p.1 i rfl aa ab ad;have n:=c.row.rg a o;rw[Axo d q (Am n.2 e.size)];exact e.block a n.2 O1
 refine⟨ae.2,?_,?_,?_,?_,O1,B,λa hb G=>?_⟩
 ·refine(Y.push (λa hb=>⟨O6,O6⟩) i).cM O1 O1
 ·rw[E];refine H.fr (Dp _) O2 (WT (Fr.refl _ _) λac=>?_);have:=(H.rg g ac).1;omega
 ·rw[E];have n:=c.c.ef e O1;have O:=n.bX (LR i U (λM=>O6));exact O.cG _
 ·exact JZ (Uv (c.ef.trans e) (λa hb=>O6) i) B
 ·have D:=Nat.lt_trans hb c.c.lt;rw[AA _ _ _ _ (show a≠g by omega),LR i (Am D e.size) (λM=>O6),e.block a D G];exact c.Nn a hb G
theorem OA:(Aa.info? 142).map (λa=>(a.zero,a.size,a.bytes))=I (I .nilIface,1,16):=O3
def Ii(b:Q)(a:Addr):Nat:=match b.cell? a with|some v=>KE v|none=>0
theorem NA(a:V2 n w p y):Ii n ⟨w,1,N⟩=KE y:=by unfold Ii;rw[a.2.1]
def J7(a:Oy)(b:Nat->Pr Ex)(g:Ex)(i:List Ex)(f:Nat):Pr Ex:=match i with
 |[]=>pb (b f) λe h=>pb (Eo a b (a.size+1) [g,e] h) λc d=>.ok (.call c,d)
 |e::r=>pb (Eo a b (a.size+1-L r) (g::e::r) f) λc d=>.ok (.call c,d)
theorem Aln(d:vt≠[])(c:(L vt)<=m.size+1)(b:Bq m w=BO):J7 m vg wo vt w=.ok (.call (wo::vt),BF m w):=by
 match vt,d with
 |y::r,_=>
  simp at c;unfold J7;simp only;rw[show m.size+1-L r=(m.size-L r)+1 by omega,Eo];rw[show(if Bq m w=BO then (Except.ok (wo::y::r,BF m w)) else pb (vg w) λa e=>Eo m vg (m.size-L r) ((wo::y::r)++[a]) e)=.ok (wo::y::r,BF m w) from if_pos b,BQ]
theorem Asv(f:(L vt)<=m.size)(g:vt=[]\/¬Bq m w=BO):J7 m vg wo vt w=pb (vg w) λd c=>J7 m vg wo (vt++[d]) c:=by
 match vt with
 |[]=>rfl
 |z::r=>
  have e:¬Bq m w=BO:=by
   grind
  simp at f;unfold J7;simp only;rw[show m.size+1-L r=(m.size-L r)+1 by omega,Eo];rw[show(if Bq m w=BO then (Except.ok (wo::z::r,BF m w)) else pb (vg w) λa b=>Eo m vg (m.size-L r) ((wo::z::r)++[a]) b)=pb (vg w) λa b=>Eo m vg (m.size-L r) ((wo::z::r)++[a]) b from if_neg e];match vg w with
  |P a=>rfl
  |.ok (d,c)=>
   simp only[BQ,Awy,Aw,AO,Bc];simp
theorem Adg(c:Oy)(a:Nat->Pr Ex)(b:Nat):Hg c a b=pb (a b) λe d=>J7 c a e [] d:=rfl
theorem As5(br:m.size<=2000)(a0:Ho n w s M m p b j):Mc 265 n w s M m p b j (Hg m (pE m b)) #[]:=by
 intro ae r ax h aZ;have an:=a0 ae r ax h aZ;have aO:=h.lt;have aQ:=h.dy;obtain⟨bd,aW,a4⟩:=AB.1 OA;simp only[Aw0]at a4;obtain⟨aS,aT,aV⟩:=a4;have bj:=Iz;clear h;show Az _ _ #[J (I ⟨w,0,N⟩)] _ _;go_enter func265,ntmps265;go_wp2_with (first
  |(go_at_call 137;refine an.mono ?_;intro g k i;clear an;rcases B:pE m b r with⟨aN,be⟩|⟨x,ak⟩;(·obtain⟨am,rfl,D,-⟩:=i.bY B;clear i;go_wp2;go_ret2;exact Cw.bad (by rw[Adg,B,DR]) D rfl (Be rfl));have z:O9 (Hg m (pE m b) r=J7 m (pE m b) x [] ak):=(by show _=_;rw[Adg,B,BQ]);obtain⟨am,rfl,D,ba,a2,U,aj,ai⟩:=i.isOk B;obtain⟨K,O,rfl⟩:=aj.ch;clear i))
 obtain⟨f,ay⟩:∃f,k.heap.size=f:=⟨_,rfl⟩;have ao:O9 (Mu w s m p j b ae k (k.alloc (.cells #[Z K O,W N 0 0] 352)) f (Z K O) [] ak N 0):=by
  have hb:Ow k (k.alloc (.cells #[Z K O,W N 0 0] 352)):=bA;subst ay;exact⟨ba,a2.below hb,Cm.nil _ _,⟨O2,O2,O2,O2⟩,D.trans (EF.bW hb),Ai _,D.size,λd aR _=>Axo _ _ aR⟩
 have aH:O9 (∀wr,k.heap.size<=wr.heap.size->(∀d,d<f->d≠w->wr.heap[d]?=k.heap[d]?)->PX (b+1) wr (Z K O,x,U)):=by
  intro wr bc aX;refine Dp _ _ _ _ aj bc λd hb=>?_;have:=ai.2 d hb;exact aX d O1 O1
 have aI:O9 (DG ae.heap.size k U):=ai;rw[ay];clear a2 aj ai;go_loopw [] (λwr=>∃(c:List PT) (e:Nat) (ad:Option Addr) (ac:Nat),O9 (Hg m (pE m b) r=J7 m (pE m b) x (c.map (λx:PT=>x.2.1)) e)/\O9 (Mu w s m p j b ae k wr f (Z K O) c e ad ac)) (λwr=>m.size+1-Ii wr ⟨f,1,N⟩)
 ·exact⟨[],ak,N,0,z.o,ao.o⟩
 ·clear ao z;obtain⟨c,e,ad,ac,z,a⟩:=hrel;rename Q=>wr
  have H:=a.o.hq;have bp:=a.o.len;obtain⟨c0,bk,bl,bm⟩:=id a.o.c;have aF:=O0 (ax.ef a.o.ef);have aq:(c.map (λx:PT=>x.2.1)).length=L c:=An ..;by_cases l:c≠[]/\Bq m e=BO
  ·have aK:O9 (Hg m (pE m b) r=.ok (.call (x::c.map (λx:PT=>x.2.1)),BF m e)):=by
    show _=_;rw[z.o,Aln (by intro g;exact l.1 (Axr.1 g)) (by rw[aq];omega) l.2]
   have aM:=IU JS l.2;have bo:0<L c:=Axd.2 l.1;have aD:((L c:Int)==0)=false:=by rw[beq_eq_false_iff_ne];omega
   have ag:=Hn a.o.ps H;clear l;go_wp2_with (first
    |(go_at_call 46;refine ag.mono ?_;rintro g af ⟨rfl,u⟩;have t:=O0 u;obtain⟨k0,bf,bg,bh⟩:=a.o.c.bG u;clear u))
   go_ret2
   have Y:=a.o.row.bG (Dp _) t.o;refine Cw.ok aK.o (a.o.ef.trans (EF.bW t.o)) ⟨HA H,(a.o.ps.below t.o).BF (OB m e),U++Dl FL (W ad (L c) ac) c,?_,?_⟩
   ·refine⟨x,_,_,U,_,c,rfl,rfl,?_,Y.low (Ai _),rfl,rfl⟩;refine aH.o _ (Ay (by have:=a.o.c.lt;omega) t.o.size) λd hb aY=>?_;rw[t.o.block d (by have:=a.o.c.lt;omega)];exact a.o.Nn d hb aY
   ·refine aI.o.b1 ⟨Y.nd,λd hb=>⟨?_,(Y.rg d hb).2⟩⟩ D.size ?_
    ·have:=(Y.rg d hb).1;omega
    ·have B:=a.o.c.lt;have aw:=t.o.size;omega
  ·have ap:Hg m (pE m b) r=pb (pE m b e) λv bi=>J7 m (pE m b) x (c.map (λx:PT=>x.2.1)++[v]) bi:=by
    show _=_;rw[z.o,Asv (by rw[aq];omega)];by_cases aB:c=[]
    ·exact Be (by rw[aB];rfl)
    ·exact Axf λh=>l ⟨aB,h⟩
   have aG:=λaf (hb:Ow wr af)=>a0 af e (aF.o.ef (EF.bW hb)) (a.o.ps.below hb) H;have a1:w<f:=by have:=a.o.hC;omega
   have az:f≠w:=Aws a1;have y:=O0 (Ae wr.heap.size wr);have ag:=Hn a.o.ps H;have a8:((L c:Int)==0)=false->((Bq m e).toList==[41])=false:=λh=>IA JS λaw=>l ⟨λg=>(by rw[g]at h;cases h),aw⟩;clear l;cases aD:((L c:Int)==0);all_goals
    try have aM:=a8 aD
    clear a8;go_wp2_with (first
     |(go_at_call 46;refine ag.mono ?_;rintro g af ⟨rfl,u⟩;replace y:=O0 u;clear u)
     |(go_at_call 137;refine(aG _ y.o).mono ?_;intro g aE i;rcases hy:pE m b e with⟨aN,be⟩|⟨v,al⟩;(·obtain⟨am,rfl,G,-⟩:=i.bY hy;have q:=(EF.bW (E:=w) y.o).trans G;clear i G;go_wp2;go_ret2;exact Cw.bad (by rw[ap,hy,DR]) (a.o.ef.trans q) rfl (Be rfl));have aL:Hg m (pE m b) r=J7 m (pE m b) x (c.map (λx:PT=>x.2.1)++[v]) al:=(by show _=_;rw[ap,hy,BQ]);have bb:=I9 m b e H v al hy;obtain⟨am,rfl,G,bq,aP,av,aC,a6⟩:=i.isOk hy;obtain⟨aa,ab,rfl⟩:=aC.ch;have q:=(EF.bW (E:=w) y.o).trans G;have aJ:=a6.low y.o.size;obtain⟨k0,bf,bg,bh⟩:=a.o.c.ef q az;have au:=O0 (a.o.row.ef (Dp _) q (Azr a1));clear i G a6)
     |(at_builtin;refine wpList_append_lies _ rfl (.tmp 38) (.tmp 40) 288 rfl 0 142 bd _ 1 16 underlying288 aW aS aT aV rfl O1 (W ad (L c) ac) (L c) (c.flatMap Is) rfl (au.o.own.alloc _) ⟨aE.heap.size,0,N⟩ 1 1 [Z aa ab] rfl rfl (by simpa using A5 (AM aE (AW #[Z aa ab] 142))) (by intro bz a9;simp at a9;subst a9;rfl) O1 O8 O1 (Ai _) _ rfl ?_;intro bn bs b0 a7 ah a3 a5;have ar:=O0 (a.o.push (x:=(Z aa ab,v,av)) aO aQ bb q aP aC aJ ah a3 a5 a7);obtain⟨bt,bu,bw,bx⟩:=(a.o.c.ef q az).bX (LR ah (Am a.o.c.lt q.size) (λg=>by have:=(au.o.rg f (Ad _ (Ca.2 g))).1;omega));clear a7 ah a3 a5))
    refine⟨⟨c++[(Z aa ab,v,av)],al,_,_,by show _=_;rw[aL,AC];rfl,ar⟩,?_⟩;rw[NA ar.o.c,NA a.o.c];simp[KE];omega
def I7(a:Oy)(c:Nat->Pr Ex)(g:Nat)(b:List Ex)(e:Nat):Pr Ex:=pb (EZ a c (a.size+1-L b) b e) λd f=>.ok (.CE g d,f)
theorem Asg(b:(L vt)<=m.size)(a:Bq m s=BO):I7 m vg w vt s=.ok (.CE w vt,BF m s):=by
 unfold I7;rw[show m.size+1-L vt=(m.size-L vt)+1 by omega,EZ,if_pos a,BQ]
theorem Avy(c:(L vt)<=m.size)(a:¬Bq m s=BO)(b:(L vt)=20):I7 m vg w vt s=P (3,B6 m s):=by
 unfold I7;rw[show m.size+1-L vt=(m.size-L vt)+1 by omega,EZ,if_neg a,if_pos b,DR]
theorem Av9(f:(L vt)<=m.size)(c:¬Bq m s=BO)(d:¬(L vt)=20):I7 m vg w vt s=pb (vg s) λb a=>I7 m vg w (vt++[b]) a:=by
 unfold I7;rw[show m.size+1-L vt=(m.size-L vt)+1 by omega,EZ,if_neg c,if_neg d];match vg s with
 |P e=>rfl
 |.ok (b,a)=>
  simp only[BQ,Aw,AO,Bc];simp
theorem Avm(bc:m.size<=2000)(aQ:Ho n w s M m p b j):Mc 263 n w s M m p b j (Gy m (pE m b)) #[]:=by
 intro aj k ao ac aZ;have ak:Az Aa 135 #[J (I ⟨w,0,N⟩),V C 255] aj λh aq=>E4 (D8 m 255 k) w aj M (V C 0) (λx g ag aq=>ag=V C (x.1:Int)/\g<=m.size/\PS aq w s m g p j) h aq:=SB 255 bc ao ac aZ;have aJ:=O0 ao;have aR:=ac.lt;have aS:=ac.dy;obtain⟨bd,aY,a9⟩:=AB.1 OA;simp only[Aw0]at a9;obtain⟨aV,aW,aX⟩:=a9;have bk:=Iz;clear ao ac;show Az _ _ #[J (I ⟨w,0,N⟩)] _ _;match z:D8 m 255 k with
 |P (c,a)=>
  have t:Gy m (pE m b) k=P (c,a):=by show pb _ _=_;rw[z,DR]
  have al:=O0 z;clear z;go_enter func263,ntmps263;go_wp2_with (first
   |(go_at_call 135;refine ak.mono ?_;intro h B i;obtain⟨rfl,U⟩:=i.bY al.o;have aL:=O0 U;clear i U))
  go_ret2
  exact Cw.bad t aL.o rfl (Be rfl)
 |.ok ((l,tpl),q1)=>
  have al:=O0 z;have t:O9 (Gy m (pE m b) k=I7 m (pE m b) l [] q1):=by show pb _ _=_;rw[z,BQ];rfl
  clear z;go_enter func263,ntmps263;go_wp2_with (first
   |(go_at_call 135;refine ak.mono ?_;intro h B i;obtain⟨ag,rfl,U,rfl,ba,a5⟩:=i.isOk al.o;clear i ak))
  obtain⟨q,a2⟩:∃q,B.heap.size=q:=⟨_,rfl⟩;have av:Mu w s m p j b aj B (B.alloc (.cells #[V C (l:Int),W N 0 0] 392)) q (V C (l:Int)) [] q1 N 0:=by
   have hb:Ow B (B.alloc (.cells #[V C (l:Int),W N 0 0] 392)):=bA;subst a2;exact⟨ba,a5.below hb,Cm.nil _ _,⟨O2,O2,O2,O2⟩,U.trans (EF.bW hb),Ai _,U.size,λan aT _=>Axo _ _ aT⟩
  rw[a2];clear a5;go_loopw [] (λwr=>∃(e:List PT) (g:Nat) (ai:Option Addr) (ah:Nat),O9 (Gy m (pE m b) k=I7 m (pE m b) l (e.map (λx:PT=>x.2.1)) g)/\O9 (Mu w s m p j b aj B wr q (V C (l:Int)) e g ai ah)) (λwr=>m.size+1-Ii wr ⟨q,1,N⟩)
  ·exact⟨[],q1,N,0,t.o,av⟩
  ·clear av t;obtain⟨e,g,ai,ah,t,d⟩:=hrel;rename Q=>wr
   have aa:=d.o.hq;have br:=d.o.len;obtain⟨c0,bl,bm,bn⟩:=id d.o.c;have au:=O0 (aJ.o.ef d.o.ef);have K:O9 ((e.map (λx:PT=>x.2.1)).length=L e):=An ..;have ab:=O0 (Hn d.o.ps aa);have a4:w<q:=by have:=d.o.hC;omega
   have a3:q≠w:=Aws a4;by_cases u:Bq m g=BO
   ·have O:Gy m (pE m b) k=.ok (.CE l (e.map (λx:PT=>x.2.1)),BF m g):=by
     show _=_;rw[t.o,Asg (by rw[K.o];omega) u]
    have aP:=IU JS u;clear u;go_wp2_with (first
     |(go_at_call 46;refine ab.o.mono ?_;rintro h G ⟨rfl,f⟩;have v:=O0 f;obtain⟨k0,aG,aH,aI⟩:=d.o.c.bG f;clear f))
    go_ret2
    have ad:=d.o.row.bG (Dp _) v.o;refine Cw.ok O (d.o.ef.trans (EF.bW v.o)) ⟨HA aa,(d.o.ps.below v.o).BF (OB m g),Dl FL (W ai (L e) ah) e,?_,?_⟩
    ·exact⟨_,e,rfl,ad.low (Ai _),rfl,rfl⟩
    ·refine⟨ad.nd,λan hb=>⟨?_,(ad.rg an hb).2⟩⟩;have z:=(ad.rg an hb).1;have bq:=d.o.hC;omega
   ·have aP:=IA JS u;by_cases a1:(L e)=20
    ·have O:Gy m (pE m b) k=P (3,B6 m g):=by
      show _=_;rw[t.o,Avy (by rw[K.o];omega) u (K.o▸a1)]
     have be:((L e:Int)==20)=true:=by rw[beq_iff_eq];omega
     clear u;go_wp2_with (first
      |(go_at_call 46;refine ab.o.mono ?_;rintro h G ⟨rfl,f⟩;have v:=O0 f;obtain⟨k0,aG,aH,aI⟩:=d.o.c.bG f;have bo:=(au.o.ef (EF.bW f)).sy.dp;clear f)
      |(go_at_call 83;refine(LW M 13 (d.o.ps.below v.o) aa).mono ?_;rintro h w5 ⟨rfl,a8⟩;have aK:=O0 (v.o.trans (a8.mono v.o.size));clear a8))
     go_ret2
     exact Cw.bad O (d.o.ef.trans (EF.bW aK.o)) rfl (Be rfl)
    ·have ax:Gy m (pE m b) k=pb (pE m b g) λH bj=>I7 m (pE m b) l (e.map (λx:PT=>x.2.1)++[H]) bj:=by
      show _=_;rw[t.o,Av9 (by rw[K.o];omega) u (K.o▸a1)]
     have be:((L e:Int)==20)=false:=by rw[beq_eq_false_iff_ne];omega
     have aw:=O0 (λG (hb:Ow wr G)=>aQ G g (au.o.ef (EF.bW hb)) (d.o.ps.below hb) aa);clear u;match hy:pE m b g with
     |P (c,a)=>
      have O:Gy m (pE m b) k=P (c,a):=by show _=_;rw[ax,hy,DR]
      have am:=O0 hy;clear hy;go_wp2_with (first
       |(go_at_call 46;refine ab.o.mono ?_;rintro h G ⟨rfl,f⟩;have D:=O0 f;obtain⟨bf,bg,bh,bi⟩:=d.o.c.bG f;clear f)
       |(go_at_call 137;refine(aw.o _ D.o).mono ?_;intro h ar i;obtain⟨ag,rfl,Y,-⟩:=i.bY am.o;have y:=O0 ((EF.bW (E:=w) D.o).trans Y);clear i Y))
      go_ret2
      exact Cw.bad O (d.o.ef.trans y.o) rfl (Be rfl)
     |.ok (H,r)=>
      have aO:Gy m (pE m b) k=I7 m (pE m b) l (e.map (λx:PT=>x.2.1)++[H]) r:=by show _=_;rw[ax,hy,BQ]
      have bb:=I9 m b g aa H r hy;have am:=O0 hy;clear hy;go_wp2_with (first
       |(go_at_call 46;refine ab.o.mono ?_;rintro h G ⟨rfl,f⟩;have D:=O0 f;obtain⟨bf,bg,bh,bi⟩:=d.o.c.bG f;clear f)
       |(go_at_call 137;refine(aw.o _ D.o).mono ?_;intro h ar i;obtain⟨ag,rfl,Y,bs,a6,a0,aF,aC⟩:=i.isOk am.o;obtain⟨ae,af,rfl⟩:=aF.ch;have y:=O0 ((EF.bW (E:=w) D.o).trans Y);have aN:=O0 a6;have aM:=O0 (aC.low D.o.size);obtain⟨k0,aG,aH,aI⟩:=d.o.c.ef y.o a3;have az:=O0 (d.o.row.ef (Dp _) y.o (Azr a4));clear i Y a6 aC)
       |(at_builtin;refine wpList_append_lies _ rfl (.tmp 39) (.tmp 41) 288 rfl 0 142 bd _ 1 16 underlying288 aY aV aW aX rfl O1 (W ai (L e) ah) (L e) (e.flatMap Is) rfl (az.o.own.alloc _) ⟨ar.heap.size,0,N⟩ 1 1 [Z ae af] rfl rfl (by simpa using A5 (AM ar (AW #[Z ae af] 142))) (by intro b0 aE;simp at aE;subst aE;rfl) O1 O8 O1 (Ai _) _ rfl ?_;intro bp bt b1 aD ap a7 aB;have ay:=O0 (d.o.push (x:=(Z ae af,H,a0)) aR aS bb y.o aN.o aF aM.o ap a7 aB aD);obtain⟨bu,bw,bx,bz⟩:=(d.o.c.ef y.o a3).bX (LR ap (Am d.o.c.lt y.o.size) (λh=>by have:=(az.o.rg q (Ad _ (Ca.2 h))).1;omega));clear aD ap a7 aB))
      refine⟨⟨e++[(Z ae af,H,a0)],r,_,_,by show _=_;rw[aO,AC];rfl,ay⟩,?_⟩;rw[NA ay.o.c,NA d.o.c];simp[KE];omega
structure V4 (b:Q) (a:Nat) (c d e g:X):Prop where
 c0:b.cell? ⟨a,0,N⟩=I c
 c1:b.cell? ⟨a,1,N⟩=I d
 c2:b.cell? ⟨a,2,N⟩=I e
 c3:b.cell? ⟨a,3,N⟩=I g
 f:∀j,b.frozen? ⟨a,j,N⟩=false
theorem V4.lt(a:V4 n w p y e G):w<n.heap.size:=AL a.c0
theorem V4.bX{w':Q}(b:V4 n w p y e G)(g:w'.heap[w]?=n.heap[w]?):V4 w' w p y e G:=by
 have c:=λd=>Ak (a:=⟨w,d,N⟩) g;exact⟨by rw[c];exact b.c0,by rw[c];exact b.c1,by rw[c];exact b.c2,by rw[c];exact b.c3,λd=>by rw[AJ g];exact b.f d⟩
theorem V4.ef{w:Q}{b a:Nat}(c:V4 w b p y e G)(d:EF a w n)(f:b≠a):V4 n b p y e G:=c.bX (d.block b c.lt f)
theorem V4.bG{w:Q}{a:Nat}(b:V4 w a p y e G)(hb:Ow w n):V4 n a p y e G:=b.bX (hb.block a b.lt)
theorem V4.cG(b:V4 n w p y e G)(d:X):V4 (n.setCell ⟨w,1,N⟩ d) w p d e G:=by
 have c:∀a,a≠1->(n.setCell ⟨w,1,N⟩ d).cell? ⟨w,a,N⟩=n.cell? ⟨w,a,N⟩:=λa g=>Ah _ _ _ _ (Cv (Aym g));exact⟨by rw[c _ O1];exact b.c0,Au _ _ _ b.c1,by rw[c _ O1];exact b.c2,by rw[c _ O1];exact b.c3,λa=>by rw[Aq];exact b.f a⟩
theorem V4.cE(b:V4 n w p y e G)(d:X):V4 (n.setCell ⟨w,2,N⟩ d) w p y d G:=by
 have c:∀a,a≠2->(n.setCell ⟨w,2,N⟩ d).cell? ⟨w,a,N⟩=n.cell? ⟨w,a,N⟩:=λa g=>Ah _ _ _ _ (Cv (Aym g));exact⟨by rw[c _ O1];exact b.c0,by rw[c _ O1];exact b.c1,Au _ _ _ b.c2,by rw[c _ O1];exact b.c3,λa=>by rw[Aq];exact b.f a⟩
theorem V4.KV(b:V4 n w p y e G)(d:X):V4 (n.setCell ⟨w,3,N⟩ d) w p y e d:=by
 have c:∀a,a≠3->(n.setCell ⟨w,3,N⟩ d).cell? ⟨w,a,N⟩=n.cell? ⟨w,a,N⟩:=λa g=>Ah _ _ _ _ (Cv (Aym g));exact⟨by rw[c _ O1];exact b.c0,by rw[c _ O1];exact b.c1,by rw[c _ O1];exact b.c2,Au _ _ _ b.c3,λa=>by rw[Aq];exact b.f a⟩
def IF(a:Oy)(b:Nat->Pr Ex)(d:Bs)(e:Nat):Pr ((Oy×Nat)×Ex):=pb (BS a B8 e) λ_ f=>pb (Dg a (d.map (·.1)) f) λj g=>pb (b g) λc h=>pb (BS a BO h) λ_ i=>.ok ((j,c),i)
structure Dk (h l:Nat) (j:Oy) (o:X) (p m:Nat) (k wr:Q) (a:Nat) (q:Bool) (i:Bs) (c:List PT) (g:Nat) (f d:X):Prop where
 hq:g<=j.size
 ps:PS wr h l j g o p
 v:V4 wr a (A q) f d .nilIface
 n:Dy wr (a+1) f i
 e:H5 (PX (m+1)) wr (a+1) d c
 nd:∀b,b∈vB f->b∉Dl FL d c
 ef:EF h k wr
 hL:k.heap.size<=a
 len:(L c)<=g
 same:(L i)=L c
theorem Sk(b:Dy n w p h):∀a∈vB p,w<=a/\a<n.heap.size:=λa hb=>b.rg a (Ad _ hb)
def MY(b i:Nat)(t:Oy)(n:X)(o l:Nat)(j:Nat->Addr)(f:Q)(g:Nat)(s:Bool)(p:Bs)(v:List PT)(h:Pr ((Oy×Nat)×Ex))(d:Ending)(e:Q):Prop:=EF b f e/\match h with
 |P (c,a)=>d=F (Fu j (Cq c) a)
 |.ok ((x,y),q)=>d=F .nilIface/\∃u k r m,Dk b i t n o l f e g s (p++[x]) (v++[(u,y,k)]) q r m
theorem Dk.below{c d:Nat}{o:Oy}{h:X}{i f:Nat}{q wr p:Q}{b:Nat}{m:Bool}{j:Bs}{r:List PT}{l:Nat}{k g:X}(a:Dk c d o h i f q wr b m j r l k g)(hb:Ow wr p):Dk c d o h i f q p b m j r l k g:=
 ⟨a.hq,a.ps.below hb,a.v.bG hb,a.n.bG EK hb,a.e.bG (Dp _) hb,a.nd,a.ef.trans (EF.bW hb),a.hL,a.len,a.same⟩
structure NN (j k:Nat) (a c:Q) (g:Nat) (f:X) (e:Bs) (i:Oy×Nat) (d h:Nat):Prop where
 os:c.os=a.os
 tape:c.tape=a.tape
 output:c.output=a.output
 size:a.heap.size<=c.heap.size
 block:∀b,b<a.heap.size->f.ownBlock≠I b->c.heap[b]?=a.heap[b]?
 n:Dy c (g+1) (W (I ⟨d,0,N⟩) (L e+1) h) (e++[i])
 at_:f.ownBlock=I d\/a.heap.size<=d
variable{w7:List PT}
theorem Dk.first{l:Q}(g:Dk w s m p b j l q wf w4 h w7 n1 y e)(B:w<l.heap.size)(i:EF w q Y)(hb:Ow Y n4)(f:n4.grownBy sn y.ownBlock)(k:y.ownBlock=I ns\/ns=n4.heap.size)(r:ns<sn.heap.size)(u:sn.ownsRow 0 131 2 (W (I ⟨ns,0,N⟩) (L h+1) v7) (L h+1) (h.flatMap wC++[S n0.1,V C (n0.2:Int)])):NN w s Y sn wf y h n0 ns v7:=by
 have x:=g.hL;have z:=g.v.lt;refine⟨f.os.trans hb.os,f.tape.trans hb.tape,f.output.trans hb.output,Ay hb.size f.size,λa d t=>?_,?_,?_⟩
 ·rw[f.block a (Am d hb.size) (λo=>t o.symm)];exact hb.block a d
 ·refine g.n.push EK O1 (λa d=>?_) (Ay i.size hb.size) trivial (λa d=>by cases d) Azi f rfl k r u;have c:=g.n.rg a d;rw[hb.block a (Am c.2 i.size)];exact i.block a c.2 O1
 ·rcases k with c|c
  ·exact Be c
  ·exact Axf (c▸hb.size)
theorem Dk.eH(c:Dk w s m p b j n q wf w4 h w7 n1 y e)(l:w<n.heap.size)(d:EF w q Y)(g:NN w s Y n4 wf y h n0 ns v7):H5 (PX (j+1)) n4 (wf+1) e w7:=by
 refine c.e.fr (Dp _) (Ay d.size g.size) λa hb=>?_;have f:=c.e.rg a hb;have k:=c.hL;rw[g.block a (Am f.2 d.size) (λi=>c.nd a (Ca.2 i) hb)];exact d.block a f.2 O1
theorem Dk.v4{d:Q}(a:Dk w s m p b j d q wf w4 h w7 n1 y e)(k:w<d.heap.size)(c:EF w q Y)(g:NN w s Y n4 wf y h n0 ns v7):V4 n4 wf (A w4) y e .nilIface:=by
 have i:=a.hL;refine(a.v.ef c O1).bX (g.block wf (Am a.v.lt c.size) λf=>?_);have:=(a.n.rg wf (Ad _ (Ca.2 f))).1;omega
theorem Dk.v5{w5:Q}(c:Dk w s m p b j n q wf w4 h w7 n1 y e)(g:w<n.heap.size)(f:EF w q Y)(k:NN w s Y n4 wf y h n0 ns v7)(hb:Ow n4 sn)(i:sn.grownBy w5 e.ownBlock):V4 w5 wf (A w4) y e .nilIface:=by
 have a:=c.v4 g f k;apply a.bX;rw[i.block wf (Am a.lt hb.size) (λd=>by have:=(c.e.rg wf (Ad _ (Ca.2 d.symm))).1;omega)];exact hb.block wf a.lt
theorem Dk.d9{U w5:Q}(g:Dk w s m p b j U q wf w4 h w7 n1 y e)(a6:w<U.heap.size)(a7:s<U.heap.size)(u:EF w q Y)(o:NN w s Y n4 wf y h n0 v7 xi)(hb:Ow n4 sn)(H:PS Y w s m ns p b)(az:n1+1<=ns/\ns<=m.size)(a0:PX (j+1) Y (G,wo,t))(x:DG q.heap.size Y t)(v:sn.grownBy w5 e.ownBlock)(ae:e.ownBlock=I xv\/xv=sn.heap.size)(av:xv<w5.heap.size)(ay:w5.ownsRow 0 142 1 (W (I ⟨xv,0,N⟩) (L w7+1) yj) (L w7+1) (w7.flatMap Is++[G])):
 Dk w s m p b j U ((w5.setCell ⟨wf,1,N⟩ (W (I ⟨v7,0,N⟩) (L h+1) xi)).setCell ⟨wf,2,N⟩ (W (I ⟨xv,0,N⟩) (L w7+1) yj)) wf w4 (h++[n0]) (w7++[(G,wo,t)]) ns (W (I ⟨v7,0,N⟩) (L h+1) xi) (W (I ⟨xv,0,N⟩) (L w7+1) yj):=by
 have ao:=g.hL;have a5:=g.v.lt;have au:(h++[n0]).length=L h+1:=O2;have aw:(w7++[(G,wo,t)]).length=L w7+1:=O2;have aj:=λc i=>g.n.rg c (Ad _ (Ca.2 i));have ap:=λc i=>g.e.rg c (Ad _ (Ca.2 i));have a9:=u.size;have aB:=o.size;have a8:=hb.size;have aC:=v.size;have K:∀c,c<Y.heap.size->y.ownBlock≠I c->e.ownBlock≠I c->w5.heap[c]?=Y.heap[c]?:=λc k l z=>by
  rw[v.block c O1 (λi=>z i.symm),hb.block c O1];exact o.block c k l
 have ak:∀c,c<Y.heap.size->y.ownBlock≠I c->sn.heap[c]?=Y.heap[c]?:=λc k l=>by
  rw[hb.block c O1];exact o.block c k l
 have r:∀c,c<wf+1->y.ownBlock≠I c/\e.ownBlock≠I c:=λc d=>⟨λi=>O6,λi=>O6⟩;have a1:=Dp _ _ _ _ a0 O1 λc d=>ak c (x.2 c d).2 λi=>by
  have k:=aj c i;have l:=(x.2 c d).1;omega
 have aa:H5 (PX (j+1)) w5 (wf+1) (W (I ⟨xv,0,N⟩) (L w7+1) yj) (w7++[(G,wo,t)]):=by
  refine g.e.push (Dp _) O1 (w1:=sn) (λc d=>?_) O1 a1 (λc d=>⟨(x.2 c d).1,by have:=(x.2 c d).2;omega⟩) x.1 v rfl ae av ay;have k:=g.e.rg c d;rw[ak c O1 (λi=>g.nd c (Ca.2 i) d)];exact u.block c k.2 O1
 have af:e.ownBlock≠I v7:=λi=>by
  rcases o.at_ with k|k
  ·exact g.nd v7 (Ca.2 k) (Ad _ (Ca.2 i))
  ·have:=ap v7 i;omega
 have aq:=(o.n.rg v7 (Ad _ (by rw[EV];simp))).2;have ab:Dy w5 (wf+1) (W (I ⟨v7,0,N⟩) (L h+1) xi) (h++[n0]):=by
  refine o.n.fr O1 λc d=>?_;rw[EV]at d;simp at d;subst d;rw[v.block c O1 (λi=>af i.symm),hb.block c aq]
 have ag:=λc d=>(aa.rg c d).1;have D:∀c,c≠wf->((w5.setCell ⟨wf,1,N⟩ (W (I ⟨v7,0,N⟩) (L h+1) xi)).setCell ⟨wf,2,N⟩ (W (I ⟨xv,0,N⟩) (L w7+1) yj)).heap[c]?=w5.heap[c]?:=λc d=>by
  rw[AA _ _ _ _ d,AA _ _ _ _ d]
 have M:w5.heap.size<=((w5.setCell ⟨wf,1,N⟩ (W (I ⟨v7,0,N⟩) (L h+1) xi)).setCell ⟨wf,2,N⟩ (W (I ⟨xv,0,N⟩) (L w7+1) yj)).heap.size:=O2;refine⟨az.2,?_,?_,?_,?_,?_,?_,ao,by have:=g.len;omega,by rw[au,aw,g.same]⟩
 ·refine(PS.cM (PS.cM ?_ O1 O1) O1 O1);let ⟨ac,an,k0,a2,a3,a4,am⟩:=H.c0
  have E:=K w O1 (r w O1).1 (r w O1).2;have ad:=K s O1 (r s O1).1 (r s O1).2;refine⟨⟨ac,an,?_,a2,a3,a4,λO ah=>⟨?_,?_⟩⟩,?_,?_,λal ar=>?_⟩
  ·rwa[Ak (a:=⟨w,0,N⟩) E]
  ·rw[Ak (a:=⟨s,ac+O*2,N⟩) ad];exact(am O ah).1
  ·rw[Ak (a:=⟨s,ac+O*2+1,N⟩) ad];exact(am O ah).2
  ·rw[Ak (a:=⟨w,1,N⟩) E];exact H.c1
  ·rw[Ak (a:=⟨w,2,N⟩) E];exact H.c2
  ·rw[AJ (a:=⟨w,al,N⟩) E];exact H.f al ar
 ·have z:=g.v.ef u O1;refine((z.bX (K wf ?_ (r wf ?_).1 (r wf ?_).2)).cG _).cE _<;>omega
 ·rw[show(L h+1)=(h++[n0]).length by omega];rw[show(L h+1)=(h++[n0]).length by omega]at ab M D;refine ab.fr M λc d=>D c λi=>?_;have:=(ab.rg c (Ad _ d)).1;omega
 ·rw[show(L w7+1)=(w7++[(G,wo,t)]).length by omega];rw[show(L w7+1)=(w7++[(G,wo,t)]).length by omega]at aa M D ag;refine aa.fr (Dp _) M λc d=>D c λi=>?_;have:=ag c d;omega
 ·intro c d ax;rw[EV]at d;simp at d;subst d;rcases Ag.1 ax with k|k
  ·rw[EV]at k;simp at k;subst k;rcases ae with l|l
   ·exact af l
   ·omega
  ·rw[AH]at k;rcases Ag.1 k with l|l
   ·have z:=g.e.rg c (Aj _ l);rcases o.at_ with B|B
    ·exact g.nd c (Ca.2 B) (Aj _ l)
    ·omega
   ·simp[FL]at l;have z:=x.2 c l;rcases o.at_ with B|B
    ·have:=aj c B;omega
    ·omega
 ·refine⟨?_,?_,?_,?_,λc d ai=>?_⟩
  ·exact(v.os.trans (hb.os.trans o.os)).trans (u.os.trans g.ef.os)
  ·exact(v.tape.trans (hb.tape.trans o.tape)).trans (u.tape.trans g.ef.tape)
  ·exact(v.output.trans (hb.output.trans o.output)).trans (u.output.trans g.ef.output)
  ·have:=g.ef.size;omega
  ·have k:=g.ef.size;rw[D c O1,K c O1 (r c O1).1 (r c O1).2,u.block c O1 ai];exact g.ef.block c d ai
def Fz(c:Q)(b:Nat)(d:List Nat):Prop:=∀a,a<256->c.cell? ⟨b,a,N⟩=I (A (decide (a∈d)))/\c.frozen? ⟨b,a,N⟩=false
theorem Fz.bX{w':Q}(b:Fz n w t)(a:w'.heap[w]?=n.heap[w]?):Fz w' w t:=λi c=>⟨by rw[Ak a];exact(b i c).1,by rw[AJ a];exact(b i c).2⟩
theorem Fz.lt(a:Fz n w t):w<n.heap.size:=AL (a 0 O1).1
theorem Fz.ef{w:Q}{a:Nat}(b:Fz w a t)(c:EF s w n)(d:a≠s):Fz n a t:=b.bX (c.block a b.lt d)
theorem Fz.set(c:Fz n w t){a:Nat}(e:a<256):Fz (n.setCell ⟨w,a,N⟩ (A true)) w (t++[a]):=λi d=>by
 refine⟨?_,by rw[Aq];exact(c i d).2⟩;by_cases b:i=a
 ·subst b;rw[Au _ _ _ (c i d).1];simp
 ·rw[Ah _ _ _ _ (Cv (Aym b)),(c i d).1];simp[b]
def GF(a:Oy)(c:Nat->Pr Ex)(d:List Nat)(g:Nat):Pr (Nat×Bs×Ex):=pb (BS a B8 g) λ_ h=>pb (D8 a 255 h) λb i=>if b.1∈d then P (5,b.2) else
 pb (FN a i) λf j=>pb (c j) λe k=>pb (BS a BO k) λ_ l=>.ok ((b.1,f,e),l)
structure Dn (c d:Nat) (a b:Q):Prop where
 os:b.os=a.os
 tape:b.tape=a.tape
 output:b.output=a.output
 size:a.heap.size<=b.heap.size
 block:∀k,k<a.heap.size->k≠c->k≠d->b.heap[k]?=a.heap[k]?
theorem Dn.cF(a:EF w n q):Dn w s n q:=⟨a.os,a.tape,a.output,a.size,λd c b _=>a.block d c b⟩
theorem Dn.trans{c S:Nat}{g h i:Q}(a:Dn c S g h)(b:Dn c S h i):Dn c S g i:=
 ⟨b.os.trans a.os,b.tape.trans a.tape,b.output.trans a.output,Ay a.size b.size,λd hb e f=>(b.block d (Am hb a.size) e f).trans (a.block d hb e f)⟩
theorem Dn.set{j:Nat}{u:X}(a:Dn w s n q):Dn w s n (q.setCell ⟨s,j,N⟩ u):=
 ⟨a.os,a.tape,a.output,by have:=a.size;simp;omega,λe d c b=>by rw[AA _ _ _ _ b];exact a.block e d c b⟩
theorem Dn.ef{c:Nat}{w:Q}(b:Dn c s w q)(a:EF c n w)(g:n.heap.size<=s):EF c n q:=
 ⟨b.os.trans a.os,b.tape.trans a.tape,b.output.trans a.output,Ay a.size b.size,λf e d=>by rw[b.block f (Am e a.size) d O1];exact a.block f e d⟩
def Nj(g o:Nat)(k:Oy)(t:X)(w s:Nat)(p:Nat->Addr)(l:Q)(h:Nat)(n:List Nat)(m:Pr (Nat×Bs×Ex))(j:Ending)(e:Q):Prop:=Dn g h l e/\match m with
 |P (c,a)=>∃(b:Int) (r:Option Addr) (v u:Nat) (d:X),MX d/\j=F (R #[T #[V C b,W r v u,d],Fu p (Cq c) a])
 |.ok ((b,ns,y),q)=>∃f d i,j=F (R #[T #[V C (b:Int),f,d],.nilIface])/\q<=k.size/\PS e g o k q t w/\Fz e h (n++[b])/\La (PX (s+1)) e (b,f,ns,d,y,i)/\DG l.heap.size e (vB f++i)
def Qo(o:Q)(a e:Nat)(h:Nat->Addr)(c:Oy)(i:X)(f j:Nat):Prop:=∀(b m:Q) (d:Nat) (l:Bool) (g:Bs) (n:List PT) (k:Nat) (r q:X),PB o b a h->a<b.heap.size->e<b.heap.size->Dk a e c i j f b m d l g n k r q->
 Az Aa 281 #[J (I ⟨a,0,N⟩),J (I ⟨d,0,N⟩)] m λp s=>MY a e c i j f h b d l g n (IF c (pE c f) g k) p s
def Kd(b:Oy)(e:Nat->Pr Ex)(a:Bs)(d:List Ex)(c:Nat):Pr (Bs×List Ex):=if a≠[]/\Bq b c=BO then .ok ((a,d),BF b c) else Fs b e (b.size+1-L a) a d c
theorem Aic(a:h≠[]/\Bq m w=BO):Kd m vg h vt w=.ok ((h,vt),BF m w):=by unfold Kd;rw[if_pos a]
theorem Ats(f:(L h)<=m.size)(d:¬(h≠[]/\Bq m w=BO)):Kd m vg h vt w=pb (IF m vg h w) λb c=>Kd m vg (h++[b.1]) (vt++[b.2]) c:=by
 unfold Kd;rw[if_neg d,show m.size+1-L h=(m.size-L h)+1 by omega,Fs];unfold IF Dg;match BS m B8 w with
 |P e=>rfl
 |.ok ((),q1)=>
  simp only[BQ];match Em m q1 with
  |P e=>rfl
  |.ok (b,q2)=>
   simp only[BQ];by_cases a:CV b.1 (h.map (·.1)) 0=true
   ·rw[if_pos a,if_pos a];rfl
   ·rw[if_neg a,if_neg a];simp only[BQ];match vg q2 with
    |P e=>rfl
    |.ok (e,q3)=>
     simp only[BQ];match BS m BO q3 with
     |P e=>rfl
     |.ok ((),c)=>
      simp only[BQ];simp
theorem Adl(a:Oy)(b:Nat->Pr Ex)(d:Bool)(c:Nat):EN a b d c=pb (BS a B8 c) λ_ g=>pb (Kd a b [] [] g) λe h=>pb (BS a BO h) λ_ i=>pb (b i) λf j=>.ok (.lets d e.1 e.2 f,j):=rfl
theorem MY.bY(a:MY w s m p b j M n wf w4 h w7 yr n2 q)(c:yr=P (n1,ns)):n2=F (Z 85 (He M (Cq n1) ns))/\EF w n q:=by
 subst c;exact⟨a.2,a.1⟩
theorem MY.isOk(d:MY w s m p b j M n wf w4 h w7 yr n2 q)(e:yr=.ok ((n0,wo),n1)):n2=F .nilIface/\∃g a f c,Dk w s m p b j n q wf w4 (h++[n0]) (w7++[(g,wo,a)]) n1 f c:=by
 subst e;exact d.2
theorem Wp(a:V4 n w p y e G):Ii n ⟨w,1,N⟩=KE y:=by unfold Ii;rw[a.c1]
theorem N7(a:X):(vB a).Nodup:=by unfold vB;grind
theorem Dk.fin{q wr:Q}(d:Dk w s m p b j q wr wf w4 h w7 n1 y e)(M:w<q.heap.size)(u:EF w wr Y)(B:PX (j+1) Y (G,wo,t))(i:DG wr.heap.size Y t):
 PX (j+2) (Y.setCell ⟨wf,3,N⟩ G) (Z 290 (T #[A w4,y,e,G]),.lets w4 h (w7.map (λD:PT=>D.2.1)) wo,vB y++(Dl FL e w7++t))/\DG q.heap.size (Y.setCell ⟨wf,3,N⟩ G) (vB y++(Dl FL e w7++t)):=by
 have H:=d.hL;have K:=d.v.lt;have O:=u.size;have z:Y.heap.size<=(Y.setCell ⟨wf,3,N⟩ G).heap.size:=O2;have v:∀a,a≠wf->(Y.setCell ⟨wf,3,N⟩ G).heap[a]?=Y.heap[a]?:=λa hb=>AA _ _ _ _ hb;have o:=Sk d.n;have l:=d.e.rg;have x:∀a,wf+1<=a->a<wr.heap.size->(Y.setCell ⟨wf,3,N⟩ G).heap[a]?=wr.heap[a]?:=λa c f=>by
  rw[v a O1];exact u.block a f O1
 refine⟨⟨y,e,w7,G,t,rfl,?_,?_,rfl,?_,rfl⟩,?_,?_⟩
 ·exact(d.n.fr O1 λa hb=>x a (o a hb).1 (o a hb).2).low (Ai _)
 ·exact(d.e.fr (Dp _) O1 λa hb=>x a (l a hb).1 (l a hb).2).low (Ai _)
 ·exact Dp _ _ _ _ B z λa hb=>v a (by have:=(i.2 a hb).1;omega)
 ·refine AY.2 ⟨N7 y,AY.2 ⟨d.e.nd,i.1,λg k a hb r=>?_⟩,λg k a hb r=>?_⟩
  ·have c:=(l g k).2;have f:=(i.2 a hb).1;omega
  ·subst r;rcases Ag.1 hb with c|c
   ·exact d.nd g k c
   ·have f:=(o g k).2;have E:=(i.2 g c).1;omega
 ·intro a hb;have U:=z;rcases Ag.1 hb with c|c
  ·have:=o a c;omega
  ·rcases Ag.1 c with f|f
   ·have:=l a f;omega
   ·have:=i.2 a f;omega
structure V3 (b:Q) (a:Nat) (c d e:X):Prop where
 c0:b.cell? ⟨a,0,N⟩=I c
 c1:b.cell? ⟨a,1,N⟩=I d
 c2:b.cell? ⟨a,2,N⟩=I e
 f:∀j,b.frozen? ⟨a,j,N⟩=false
theorem V3.lt(a:V3 n w p y e):w<n.heap.size:=AL a.c0
theorem V3.bX{w':Q}(b:V3 n w p y e)(g:w'.heap[w]?=n.heap[w]?):V3 w' w p y e:=by
 have c:=λd=>Ak (a:=⟨w,d,N⟩) g;exact⟨by rw[c];exact b.c0,by rw[c];exact b.c1,by rw[c];exact b.c2,λd=>by rw[AJ g];exact b.f d⟩
theorem V3.ef{w:Q}{b a:Nat}(c:V3 w b p y e)(d:EF a w n)(f:b≠a):V3 n b p y e:=c.bX (d.block b c.lt f)
theorem V3.a{b:Nat}(c:V3 n b p y e):(n.cell? ⟨b,0,N⟩=I p/\n.cell? ⟨b,1,N⟩=I y/\n.cell? ⟨b,2,N⟩=I e)/\n.frozen? ⟨b,0,N⟩=false/\n.frozen? ⟨b,1,N⟩=false/\n.frozen? ⟨b,2,N⟩=false:=⟨⟨c.c0,c.c1,c.c2⟩,c.f 0,c.f 1,c.f 2⟩
theorem V3.bG{w:Q}{a:Nat}(b:V3 w a p y e)(hb:Ow w n):V3 n a p y e:=b.bX (hb.block a b.lt)
theorem V3.cM{b c j:Nat}{u:X}(a:V3 n b p y e)(d:b≠c):V3 (n.setCell ⟨c,j,N⟩ u) b p y e:=a.bX (AA _ _ _ _ d)
theorem V3.put(a:V3 n w p y e)(u0 b c:X):V3 (((n.setCell ⟨w,0,N⟩ u0).setCell ⟨w,1,N⟩ b).setCell ⟨w,2,N⟩ c) w u0 b c:=by
 refine⟨?_,?_,Au _ _ _ (by rw[Ah _ _ _ _ (Cv O1),Ah _ _ _ _ (Cv O1)];exact a.c2),λd=>by rw[Aq,Aq,Aq];exact a.f d⟩
 ·rw[Ah _ _ _ _ (Cv O1),Ah _ _ _ _ (Cv O1)];exact Au _ _ _ a.c0
 ·rw[Ah _ _ _ _ (Cv O1)];exact Au _ _ _ (by rw[Ah _ _ _ _ (Cv O1)];exact a.c1)
theorem WN{u0:X}(b:EF w n q)(a:n.heap.size<=s):EF w n (((q.setCell ⟨s,0,N⟩ u0).setCell ⟨s,1,N⟩ y).setCell ⟨s,2,N⟩ e):=JZ (JZ (JZ b a) a) a
theorem Dn.cQ{u0:X}(a:Dn w s n q)(h:n.heap.size<=b):Dn w s n (((q.setCell ⟨b,0,N⟩ u0).setCell ⟨b,1,N⟩ y).setCell ⟨b,2,N⟩ e):=
 ⟨a.os,a.tape,a.output,by have:=a.size;simp;omega,λc g d f=>by rw[AA _ _ _ _ (show c≠b by omega),AA _ _ _ _ (show c≠b by omega),AA _ _ _ _ (show c≠b by omega)];exact a.block c g d f⟩
theorem Aij(a:D8 m 255 w=.ok ((s,b),j)):s<256/\b=B6 m w:=by
 unfold D8 at a;grind
theorem Ao1{aa a4:Nat}(bc:m.size<=2000)(aE:Ho n w s M m p aa a4){a:Q}{h:Nat}{Y:List Nat}{aj:Nat}(aC:PB n a w M)(a0:PS a w s m aj p a4)(bu:aj<=m.size)(aH:Fz a h Y)(ap:h≠w)(bo:h≠s)(bE:n.heap.size<=h):
 Az Aa 282 #[J (I ⟨w,0,N⟩),J (I ⟨h,0,N⟩)] a λr a7=>Nj w s m p a4 aa M a h Y (GF m (pE m aa) Y aj) r a7:=by
 have a1:=a0.lt;have aI:=a0.dy;have ba:=aH.lt;have l:=O0 aC;have q:=O0 aH;have bC:=Qg;obtain⟨aM,aK⟩:∃b5,b5=AW #[V C 0,W N 0 0,.nilIface] 297:=⟨_,rfl⟩;have aD:Ow a (a.alloc aM):=bA;have f:O9 (EF w a (a.alloc aM)):=EF.bW aD;have e:O9 (V3 (a.alloc aM) a.heap.size (V C 0) (W N 0 0) .nilIface):=by
  subst aK;exact⟨O2,O2,O2,λj=>O2⟩
 have aB:=O0 (P7 B8 (a.heap.size+1) O2 (aC.ef f.o) (a0.below aD) bu O4);rw[aK]at aB f e;have y:O9 (a.heap.size≠w):=Aws a1;have bi:O9 (¬h<n.heap.size):=by show ¬_;omega
 have ad:O9 (∀{ao:Act} {az:Q} {be bf bg v:X} {aw:Int} {t:Option Addr} {ar aq c G:Nat},ao.defers=[]->ao.tmps[4]?.getD Aw7=J (I ⟨a.heap.size,0,N⟩)->ao.tmps[5]?.getD Aw7=Z 85 (He M (Cq c) G)->V3 az a.heap.size be bf bg->Dn w h a az->GF m (pE m aa) Y aj=P (c,G)->MX v->bodyPost Aa Tryz.f282 (λr a7=>Nj w s m p a4 aa M a h Y (GF m (pE m aa) Y aj) r a7) .ret ao (((az.setCell ⟨a.heap.size,0,N⟩ (V C aw)).setCell ⟨a.heap.size,1,N⟩ (W t ar aq)).setCell ⟨a.heap.size,2,N⟩ v)):=by
  intro ao az be bf bg v aw t ar aq c G bs K O bq aE bp b1;obtain⟨aN,aO,aP,-⟩:=bq.put (V C aw) (W t ar aq) v;exact AZ (v:=R #[T #[V C aw,W t ar aq,v],Z 85 (He M (Cq c) G)]) (by simp[results,results282,go_sem,K,O,aN,aO,aP]) bs ⟨aE.cQ (Ac _),by rw[bp];exact⟨aw,t,ar,aq,v,b1,rfl⟩⟩
 clear aC a0 aK aH aD;go_enter func282,ntmps282;go_wp2_with (first
  |(go_at_call 44;first
   |(refine aB.o.mono ?_;intro r bS d;clear aB;rcases g:BS m B8 aj with⟨c,G⟩|⟨⟨⟩,b6⟩;(·obtain⟨rfl,ab⟩:=d.bY g;have k:=O0 (e.o.ef ab y.o);have E:=O0 (f.o.trans ab);have bh:=O0 g;clear d ab g;obtain⟨⟨ak,al,am⟩,af,ag,ah⟩:=k.o.a;go_wp2;exact ad.o rfl rfl rfl k.o (Dn.cF E.o) (by rw[GF,bh.o];rfl) (.inl rfl));obtain⟨rfl,ab,bb,aV⟩:=d.isOk g;replace e:=O0 (e.o.ef ab y.o);replace f:=O0 (f.o.trans ab);have i:=O0 aV;clear d ab aV)
   |(refine(KY BO l.o i.o bz O4).mono ?_;intro r a8 d;rcases O:BS m BO b9 with⟨c,G⟩|⟨⟨⟩,bO⟩;(·obtain⟨rfl,D⟩:=d.bY O;have k:=O0 (e.o.ef D y.o);have E:=O0 (x.o.trans (Dn.cF D));have a9:=O0 O;clear d D O;obtain⟨⟨ak,al,am⟩,af,ag,ah⟩:=k.o.a;go_wp2;exact ad.o rfl rfl rfl k.o E.o (by rw[GF,g,BQ,U.o,BQ,if_neg ae.o,an.o,BQ,ay.o,BQ,a9.o];rfl) (.inr ⟨_,_,rfl⟩));obtain⟨rfl,D,b0,aZ⟩:=d.isOk O;have a9:=O0 O;replace x:=O0 (x.o.trans (Dn.cF D));replace i:=O0 aZ;replace q:=O0 (q.o.ef D ap);have aS:=O0 (e.o.ef D y.o);obtain⟨⟨ak,al,am⟩,af,ag,ah⟩:=aS.o.a;clear d aZ O))
  |(go_at_call 46;refine(Hn i.o bb).mono ?_;rintro r bT ⟨rfl,a2⟩;replace i:=O0 (i.o.below a2);replace e:=O0 (e.o.bG a2);replace f:=O0 (f.o.trans (EF.bW a2));clear a2)
  |(go_at_call 135;refine(SB 255 bc (l.o.ef f.o) i.o bb).mono ?_;intro r ax d;rcases H:D8 m 255 b6 with⟨c,G⟩|⟨⟨o,bP⟩,b7⟩;(·obtain⟨rfl,ac⟩:=d.bY H;have k:=O0 (e.o.ef ac y.o);have E:=O0 (f.o.trans ac);have U:=O0 H;clear d ac H;obtain⟨⟨ak,al,am⟩,af,ag,ah⟩:=k.o.a;go_wp2;exact ad.o rfl rfl rfl k.o (Dn.cF E.o) (by rw[GF,g,BQ,U.o];rfl) (.inl rfl));obtain⟨v,rfl,ac,rfl,bw,aW⟩:=d.isOk H;obtain⟨bd,rfl⟩:=Aij H;have U:=O0 H;replace e:=O0 (e.o.ef ac y.o);replace f:=O0 (f.o.trans ac);replace i:=O0 aW;replace q:=O0 (q.o.ef f.o ap);obtain⟨aT,bD⟩:=q.o o bd;have bK:(0:Int)<=(o:Int):=O1;have bM:(o:Int)<256:=O1;clear d ac aW H;(by_cases ai:o∈Y;(·rw[decide_eq_true ai]at aT;have bQ:=(l.o.ef f.o).sy.tw;have ae:=O0 ai;clear ai;obtain⟨⟨ak,al,am⟩,af,ag,ah⟩:=e.o.a;go_wp2_with (go_at_call 25;refine(R0 _ _ _ _).mono ?_;rintro r a7 ⟨rfl,rfl⟩);exact ad.o (c:=5) rfl rfl rfl e.o (Dn.cF f.o) (by rw[GF,g,BQ,U.o,BQ,if_pos ae.o]) (.inl rfl));have ae:=O0 ai;rw[decide_eq_false ai]at aT;clear ai);have x:O9 (Dn w h a (ax.setCell ⟨h,o,N⟩ (A true))):=(Dn.cF f.o).set;replace i:=O0 (i.o.cM (b:=h) (j:=o) (u:=Value.bool true) ap bo);replace q:=O0 (q.o.set bd);have bk:=O0 e.o.lt;replace e:=O0 (e.o.cM (c:=h) (j:=o) (u:=Value.bool true) (Aws ba));replace l:O9 (PB n (ax.setCell ⟨h,o,N⟩ (A true)) w M):=⟨l.o.s,((l.o.ef f.o).b).setCell (Nat.le_of_not_lt (λbt=>bi.o bt)) _,l.o.e⟩;clear f)
  |(go_at_call 136;refine(Zu bc l.o i.o bw).mono ?_;intro r bB d;rcases h3:FN m b7 with⟨c,G⟩|⟨av,b8⟩;(·obtain⟨rfl,z⟩:=d.bY h3;have k:=O0 (e.o.ef z y.o);have E:=O0 (x.o.trans (Dn.cF z));have an:=O0 h3;clear d z h3;obtain⟨⟨ak,al,am⟩,af,ag,ah⟩:=k.o.a;go_wp2;exact ad.o rfl rfl rfl k.o E.o (by rw[GF,g,BQ,U.o,BQ,if_neg ae.o,an.o];rfl) (.inl rfl));obtain⟨bN,rfl,z,bx,aX,aJ⟩:=d.isOk h3;have an:=O0 h3;obtain⟨t,au,rfl⟩:=aJ.slice;have bj:=O0 z;replace x:=O0 (x.o.trans (Dn.cF z));replace i:=O0 aX;have aR:=O0 aJ;replace q:=O0 (q.o.ef z ap);replace e:=O0 (e.o.ef z y.o);replace l:=O0 (l.o.ef z);clear d z aX aJ h3)
  |(go_at_call 137;refine(aE _ _ l.o i.o bx).mono ?_;intro r w5 d;rcases K:pE m aa b8 with⟨c,G⟩|⟨bU,b9⟩;(·obtain⟨v,rfl,B,-⟩:=d.bY K;have k:=O0 (e.o.ef B y.o);have E:=O0 (x.o.trans (Dn.cF B));have ay:=O0 K;clear d B K;obtain⟨⟨ak,al,am⟩,af,ag,ah⟩:=k.o.a;go_wp2;exact ad.o rfl rfl rfl k.o E.o (by rw[GF,g,BQ,U.o,BQ,if_neg ae.o,an.o,BQ,ay.o];rfl) (.inl rfl));obtain⟨v,rfl,B,bz,aY,bn,aL,a3⟩:=d.isOk K;have ay:=O0 K;obtain⟨a5,a6,rfl⟩:=aL.ch;have aQ:=O0 B;replace x:=O0 (x.o.trans (Dn.cF B));replace i:=O0 aY;have bl:=O0 aL;replace q:=O0 (q.o.ef B ap);replace e:=O0 (e.o.ef B y.o);replace l:=O0 (l.o.ef B);clear d B aY aL K))
 obtain⟨aN,aO,aP,-⟩:=aS.o.put (V C (o:Int)) (W t (L av) au) (Z a5 a6);refine AZ (v:=R #[T #[V C (o:Int),W t (L av) au,Z a5 a6],.nilIface]) (by simp[results,results282,go_sem,aN,aO,aP]) rfl ?_;refine⟨x.o.cQ (Ac _),?_⟩;rw[GF,g,BQ,U.o,BQ,if_neg ae.o,an.o,BQ,ay.o,BQ,a9.o,BQ];have bG:a8.heap.size<=(((a8.setCell ⟨a.heap.size,0,N⟩ (V C (o:Int))).setCell ⟨a.heap.size,1,N⟩ (W t (L av) au)).setCell ⟨a.heap.size,2,N⟩ (Z a5 a6)).heap.size:=O2;have aF:∀b,b≠a.heap.size->(((a8.setCell ⟨a.heap.size,0,N⟩ (V C (o:Int))).setCell ⟨a.heap.size,1,N⟩ (W t (L av) au)).setCell ⟨a.heap.size,2,N⟩ (Z a5 a6)).heap[b]?=a8.heap[b]?:=λb hb=>by rw[AA _ _ _ _ hb,AA _ _ _ _ hb,AA _ _ _ _ hb]
 have bH:=bk.o;have b2:=bj.o.size;rw[show(ax.setCell ⟨h,o,N⟩ (A true)).heap.size=ax.heap.size by simp]at b2;have bI:=aQ.o.size;have bJ:=D.size;have aG:∀b∈vB (W t (L av) au),ax.heap.size<=b/\b<bB.heap.size:=λb hb=>by
  have:=Sk aR.o b hb;simpa using this
 refine⟨_,_,bn,rfl,b0,((i.o.cM (Aws a1) (Aws aI)).cM (Aws a1) (Aws aI)).cM (Aws a1) (Aws aI),q.o.bX (aF h (Nat.ne_of_lt ba)),⟨?_,?_⟩,?_⟩
 ·refine(aR.o.fr O1 λb hb=>?_).low (Ai _);have g:=aG b hb;rw[aF b O1,D.block b O1 O1,aQ.o.block b O1 O1]
 ·refine Dp _ _ _ _ bl.o O1 λb hb=>?_;have g:=a3.2 b hb;rw[aF b O1,D.block b O1 O1]
 ·refine⟨AY.2 ⟨N7 _,a3.1,λbm br b hb r=>?_⟩,λb hb=>?_⟩
  ·have g:=aG bm br;have H:=a3.2 b hb;omega
  ·rcases Ag.1 hb with g|g
   ·have:=aG b g;omega
   ·have:=a3.2 b g;omega
structure V5 (b:Q) (a:Nat) (c d e g h:X):Prop where
 c0:b.cell? ⟨a,0,N⟩=I c
 c1:b.cell? ⟨a,1,N⟩=I d
 c2:b.cell? ⟨a,2,N⟩=I e
 c3:b.cell? ⟨a,3,N⟩=I g
 c4:b.cell? ⟨a,4,N⟩=I h
 f:∀j,b.frozen? ⟨a,j,N⟩=false
theorem V5.bX{w':Q}(b:V5 n w p y e G wz)(g:w'.heap[w]?=n.heap[w]?):V5 w' w p y e G wz:=by
 have c:=λd=>Ak (a:=⟨w,d,N⟩) g;exact⟨(c _).trans b.c0,(c _).trans b.c1,(c _).trans b.c2,(c _).trans b.c3,(c _).trans b.c4,λd=>(AJ g).trans (b.f d)⟩
theorem V5.set{b:Nat}{g:X}(a:V5 n b p y g G wz)(i:Nat)(u:X):V5 (n.setCell ⟨b,i,N⟩ u) b (if i=0 then u else p) (if i=1 then u else y) (if i=2 then u else g) (if i=3 then u else G) (if i=4 then u else wz):=by
 have c:∀j d,n.cell? ⟨b,j,N⟩=I d->(n.setCell ⟨b,i,N⟩ u).cell? ⟨b,j,N⟩=I (if i=j then u else d):=λj d h=>by
  split
  ·next e=>subst e;exact Au _ _ _ h
  ·next e=>rwa[Ah _ _ _ _ (Cv e)]
 exact⟨c _ _ a.c0,c _ _ a.c1,c _ _ a.c2,c _ _ a.c3,c _ _ a.c4,λj=>by rw[Aq];exact a.f j⟩
abbrev TT:=Oy×(X×List Oy)×PT
def Cp(a:Oy):List X:=[S a]
def Gp(a:Oy×Int):List X:=[S a.1,V C a.2]
def Ll(a:TT):List X:=[S a.1,a.2.1.1,a.2.2.1]
def Ln(a:TT):BI:=(a.1,a.2.1.2,a.2.2.2.1)
structure Cc where
 W0:Q
 lo:Nat
 K:Nat
 U:Nat
 nm:Oy
 gv:X
 G:TT->Prop
 E:List As
abbrev kA(a:Cc)(c:X)(d:Int)(g:X):As:=⟨[a.K],λh=>V5 h a.K (J (I ⟨a.U,0,N⟩)) (S a.nm) c (V C d) g,λb _ f=>Ax.1 f▸cells_of_cell b.c0,λb _ e=>b.bX (e _ O2)⟩
abbrev uA(b:Nat)(f g c:X):As:=⟨[b],λh=>V3 h b f g c,λa _ e=>Ax.1 e▸cells_of_cell a.c0,λa _ d=>a.bX (d _ O2)⟩
abbrev aA(d:Hb):As:=⟨d.flatMap λa=>vB a.2,λh=>∀a∈d,h.ownsRow 0 184 2 a.2 (L a.1.alts) (a.1.alts.flatMap Gs),(λc _ g=>by obtain⟨a,b,hb⟩:=AU.1 g;exact .ce (c a b) hb),λc _ f a b=>G5 (c a b) λe hb=>f e (AU.2 ⟨a,b,hb⟩)⟩
abbrev cA(b:X)(a:Hb):As:=pA 182 3 b (L a) (a.flatMap Gx)
abbrev lA(b:X)(a:List (Oy×Int)):As:=pA 287 2 b (L a) (a.flatMap Gp)
abbrev nA(b:X)(a:List Oy):As:=pA 9 1 b (L a) (a.flatMap Cp)
abbrev tA(b:X)(a:List TT):As:=oA 170 3 b (L a) (a.flatMap Ll)
abbrev uL(d:Nat)(f:List Oy)(g:List TT)(a b e:X)(c:List As):List As:=uA d a b e::nA a f::tA b g::c
abbrev cL(a:Cc)(b:KS)(c:Hb)(g:List TT)(d e f h:X):List As:=kA a d b.Bn e::cA d c::lA e b.Br::aA c::uL a.U b.kn g f h a.gv a.E
def Hh(c:Q)(d:List Nat)(a:TT):Prop:=c.ownsRow 0 9 1 a.2.1.1 (L a.2.1.2) (a.2.1.2.flatMap Cp)/\∀b∈vB a.2.1.1,b<c.heap.size/\b∉d
abbrev Nb(d:Q)(b c:List Nat):Prop:=∀a∈c,a∈b\/d.heap.size<=a
theorem Nb.trans(b:Nb n t n8)(c:Nb q n8 st)(d:n.heap.size<=q.heap.size):Nb n t st:=λa hb=>(c a hb).elim (b a) λb=>.inr O1
variable{s5:TT}
theorem Hh.step(b:Hh n t s5)(d:AF t n q)(hb:Nb n t n8):Hh q n8 s5:=
 ⟨G5 b.1 λa c=>d.block a (b.2 a c).1 (b.2 a c).2,λa c=>⟨Am (b.2 a c).1 d.size,λe=>(hb a e).elim (b.2 a c).2 (by have:=b.2 a c;omega)⟩⟩
def LB(a:KS):Prop:=L a.Bj<=a.z/\L a.Br<=a.z/\L a.kn<=a.z/\L a.td<=a.z
structure Hi (c:Cc) (a:KS) (l:Q) (f:List Nat) (e:Hb) (d:List TT) (h j i k:X):Prop where
 s:Sp c.lo l (cL c a e d h j i k)
 b:f=fp (cL c a e d h j i k)
 hc:e.map (·.1)=a.Bj
 ht:d.map Ln=a.td
 g:∀x∈d,c.G x/\Hh l f x
 z:LB a
def CM(b:Cc)(g:KS)(j:Q)(a:List Nat):Prop:=∃c h d f e i,Hi b g j a c h d f e i
structure At (a:Cc) (b:List Nat) (c:Q) (d:KS) (wr:Q):Prop where
 af:AF b c wr
 low:Below a.lo a.W0 wr
 cm:∃B',CM a d wr B'/\Nb c b B'
variable{w3:List TT}
theorem Hi.k{c:Cc}{w:Q}(a:Hi c r w t vl w3 p y e G):V5 w c.K (J (I ⟨c.U,0,N⟩)) (S c.nm) p (V C r.Bn) y:=a.s.mem (A:=kA c p r.Bn y) O2
theorem Hi.rg{c:Cc}{a:List Nat}{e:Q}{j:KS}{f:Hb}{k:List TT}{g i h l:X}(d:Hi c j e a f k g i h l):∀b∈a,c.lo<=b/\b<e.heap.size:=d.b▸d.s.rg
theorem Hi.bG{d:Cc}{c:List Nat}{w w1:Q}{k:KS}{e:Hb}{l:List TT}{f j i m:X}(a:Hi d k w c e l f j i m)(hb:Ow w w1):Hi d k w1 c e l f j i m:=
 ⟨a.s.bG hb,a.b,a.hc,a.ht,λn h=>⟨(a.g n h).1,(a.g n h).2.step (.bW hb) λ_ hb=>.inl hb⟩,a.z⟩
variable{K:Cc}
theorem At.re{wr:Q}(c:At K t n r wr)(hb:Ow wr q):∃a,CM K r wr a/\At K a q r q/\(∀b∈a,(K.lo<=b/\b<wr.heap.size)/\(b∈t\/n.heap.size<=b))/\∀g h,At K a q g h->At K t n g h:=by
 let ⟨a,⟨l,w,m,v,u,x,d⟩,e⟩:=c.cm
 have o:=hb.size;have p:=c.af.size
 refine⟨a,⟨_,_,_,_,_,_,d⟩,⟨.refl,c.low.trans (hb.mono d.s.z),a,⟨_,_,_,_,_,_,d.bG hb⟩,λ_ hb=>.inl hb⟩,λb hb=>⟨d.rg b hb,e b hb⟩,λg h f=>?_⟩;let ⟨i,j,k⟩:=f.cm
 exact⟨(c.af.then hb).trans f.af e,f.low,i,j,e.trans k O1⟩
theorem At.bG{w w1 wr:Q}(a:At K t w r wr)(hb:Ow wr w1):At K t w r w1:=by
 obtain⟨d,-,b,-,c⟩:=a.re hb;exact c _ _ b
theorem CM.bG{b:Cc}{a:List Nat}{w w1:Q}{c:KS}(d:CM b c w a)(hb:Ow w w1):CM b c w1 a:=by
 let ⟨f,j,g,i,h,k,e⟩:=d
 exact⟨_,_,_,_,_,_,e.bG hb⟩
theorem CM.at{w:Q}(a:CM K r w t)(b:Below K.lo K.W0 w):At K t w r w:=⟨.refl,b,t,a,λ_ a=>.inl a⟩
theorem At.on{wr:Q}(a:At K t q r wr)(hb:Ow n q):At K t n r wr:=by
 let ⟨b,d,e⟩:=a.cm
 have:=hb.size;exact⟨(AF.bW hb).trans a.af λ_ a=>.inl a,a.low,b,d,λc hb=>(e c hb).imp id O1⟩
theorem At.cell{e:Cc}{b:List Nat}{d wr:Q}{i:KS}(f:At e b d i wr){a:Addr}{c:X}(h:d.cell? a=I c)(g:a.block∉b):wr.cell? a=I c:=f.af.cell h g
theorem AF.cK(a:AF t n q){f:Option Nat}(b:q.grownBy Y f)(i:∀e,f=I e->n.heap.size<=e):AF t n Y:=
 ⟨b.os.trans a.os,b.tape.trans a.tape,b.output.trans a.output,Ay a.size b.size,λd c g=>(b.block d (Am c a.size) λh=>O6).trans (a.block d c g)⟩
theorem At.cK{i:Cc}{l:List Nat}{h q wr:Q}{p:KS}(j:At i l h p wr){o:Option Nat}(a:wr.grownBy q o)(k:∀b,o=I b->h.heap.size<=b/\∃n,wr.heap[b]?=I n/\n.isCells=false)(H:i.lo<=h.heap.size):At i l h p q:=by
 let ⟨t,⟨u,D,v,B,y,E,c⟩,w⟩:=j.cm
 refine⟨j.af.cK a λb d=>(k b d).1,j.low.trans ⟨a.os,a.tape,a.output,a.size,λx G=>a.block x (by have:=c.s.z;omega) λd=>O6⟩,t,⟨u,D,v,B,y,E,c.s.turn a λb d=>(k b d).2,c.b,c.hc,c.ht,λr m=>⟨(c.g r m).1,?_⟩,c.z⟩,w⟩;have f:=(c.g r m).2;exact⟨G5 f.1 λe hb=>a.block e (f.2 e hb).1 (GH.ne (.ce f.1 hb) λb d=>(k b d).2),λe hb=>⟨Am (f.2 e hb).1 a.size,(f.2 e hb).2⟩⟩
theorem CM.keeps{wr:Q}(f:CM K r wr t)(b:AF t wr n)(h:Nat):KeepsFrom h wr n:=by
 let ⟨i,v,j,p,o,w,d⟩:=f
 refine⟨b.size,λe q _ c l=>(b.block e (A9.1 c).1 λhb=>?_).trans c⟩;rw[d.b]at hb;let ⟨a,g,hb⟩:=AU.1 hb
 let ⟨u,m,k⟩:=a.c (d.s.h a g) hb
 grind
theorem At.u{wr:Q}(d:At K t n r wr):∃a b,wr.cell? ⟨K.U,0,N⟩=I a/\wr.ownsRow 0 9 1 a (L r.kn) (r.kn.flatMap Cp)/\V3 wr K.U a b K.gv:=by
 let ⟨e,⟨f,j,g,i,a,b,c⟩,h⟩:=d.cm
 have u:=c.s.mem (A:=uA K.U a b K.gv) O2;exact⟨a,b,u.c0,c.s.mem (A:=nA a r.kn) O2,u⟩
theorem At.turn{wr:Q}{l:X}(b:At K t n r wr)(d:Hi K r wr n8 vl w3 p y e l)(i:Nb n t n8)(g:Hb)(f:List TT)(h k j m:X)(c:Bz K.lo wr (cL K r vl w3 p y e l) q (cL K w8 g f h k j m))(v:g.map (·.1)=w8.Bj)(w:f.map Ln=w8.td)(u:∀a∈f,a∈w3\/K.G a/\Hh q (fp (cL K w8 g f h k j m)) a)(z:LB w8):At K t n w8 q:=by
 have s:=d.b;subst s;exact⟨b.af.trans c.af i,b.low.trans (c.af.low (λo hb=>(d.rg o hb).1) d.s.z),_,⟨_,_,_,_,_,_,c.s,rfl,v,w,λa x=>(u a x).elim (λb=>⟨(d.g a b).1,(d.g a b).2.step c.af c.nb⟩) id,z⟩,i.trans c.nb b.af.size⟩
theorem At.dx{wr:Q}(d:At K t n r wr)(a:Hi K r wr n8 vl w3 p y e G)(f:Nb n t n8)(c:List As)(b:Bz K.lo wr (cL K r vl w3 p y e G) q (cL {K with E:=c} r vl w3 p y e G)):At {K with E:=c} t n r q:=by
 have k:=a.b;subst k;exact⟨d.af.trans b.af f,d.low.trans (b.af.low (λj hb=>(a.rg j hb).1) a.s.z),_,⟨_,_,_,_,_,_,b.s,rfl,a.hc,a.ht,λi h=>⟨(a.g i h).1,(a.g i h).2.step b.af b.nb⟩,a.z⟩,f.trans b.nb d.af.size⟩
theorem At.ed{b:Cc}{wr:Q}(d:At b t n r wr)(c:Int):At b t n {r with Bn:=c} (wr.setCell ⟨b.K,3,N⟩ (V C c)):=by
 let ⟨o,⟨e,l,f,j,i,m,a⟩,g⟩:=d.cm
 exact d.turn a g e l f j i m (a.s.ca.set (L1:=[]) rfl rfl (a.k.set 3 _)) a.hc a.ht (λp h=>.inl h) a.z
theorem At.dM{c:Cc}{wr:Q}(h:At c t n r wr)(d:Hi c r wr n8 vl w3 p y e G)(k:Nb n t n8)(hb:Ow wr Y){i:BJ}(j:i.alts=[])(l:DQ Y 182 3 p wz (L vl+1) (vl.flatMap Gx++[V C i.op,V C i.a,W N 0 0]) n4):At c t n {r with Bj:=r.Bj++[i],z:=r.z+1} (n4.setCell ⟨c.K,2,N⟩ wz):=by
 have f:=(d.s.ca.bG hb).cO (L1:=[_]) (n':=(vl++[(i,W N 0 0)]).length) (xs':=(vl++[(i,W N 0 0)]).flatMap Gx) (by simpa[Gx]using l);have g:=f.set (L1:=[]) (A':=kA c wz r.Bn y) rfl rfl (V5.set (f.mem (A:=kA c p r.Bn y) O2) 2 wz);refine h.turn d k (vl++[(i,W N 0 0)]) w3 wz y e G (g.same (L1:=[_,_,_]) (by simp[KX]) λx b=>?_) (by rw[AC,d.hc];rfl) d.ht (λx b=>.inl b) (by have:=d.z;unfold LB at*;simp;omega);rcases Ag.1 b with b|b
 ·exact g.mem (A:=aA vl) O2 x b
 ·obtain rfl:=Ax.1 b;rw[j];exact Axc _ _ _ _
structure GG where
 nm:Oy
 ar:Int
 ex:Bool
 cp:Option Addr
 cc:Nat
 cs:Hb
abbrev GG.cv(a:GG):X:=W a.cp (L a.cs) a.cc
def Ja(a:GG):List X:=[S a.nm,V C a.ar,A a.ex,a.cv]
def D1(a:Oy×Int):List X:=[S a.1,V C a.2]
abbrev gA(b:X)(a:List GG):As:=pA 97 4 b (L a) (a.flatMap Ja)
def gL(b:List GG):List As:=b.flatMap λa=>[cA a.cv a.cs,aA a.cs]
def Cn(a:GG):Bx:=⟨a.nm,a.ar,a.ex,a.cs.map (·.1)⟩
def BZ(b:List (Oy×Int)):List Dv:=b.map λa=>⟨a.1,a.2⟩
structure Ok (a:Cc):Prop where
 t:CJ a.W0
 l:24<a.lo
theorem At.Ph{b:List Nat}{wr:Q}(c:At K b n r wr)(a:Ok K):CJ wr:=λe d=>by
 rw[Ak (c.low.block _ a.l)];exact a.t e d
theorem At.k{c:Cc}{e:List Nat}{w wr:Q}{d:KS}(f:At c e w d wr):∃a b,V5 wr c.K (J (I ⟨c.U,0,N⟩)) (S c.nm) a (V C d.Bn) b:=by
 obtain⟨h,⟨i,l,a,b,j,m,g⟩,-⟩:=f.cm;exact⟨a,b,g.k⟩
theorem Ai2{c:Cc}{wr:Q}(ar:Ok c)(a:Nat)(e:Int)(av:a<21)(ae:At c t n r wr)(aB:r.z<9000000000):
 Az Aa 146 #[J (I ⟨c.K,0,N⟩),V C (a:Int),V C e] wr λD ax=>D=F (R #[])/\At c t n (BL a e r) ax:=by
 obtain⟨az,⟨p,aN,l,aw,aJ,aO,h⟩,ak⟩:=ae.cm;obtain⟨d,w⟩:∃d,d=wr.alloc (.cells #[V C (a:Int),V C e,W N 0 0] 182):=⟨_,rfl⟩;have u:Ow wr d:=by rw[w];exact bA
 have q:V3 d wr.heap.size (V C (a:Int)) (V C e) (W N 0 0):=by subst w;exact⟨O2,O2,O2,λaC=>O2⟩
 have E:wr.heap.size∉vB l/\wr.heap.size≠c.K:=⟨λau=>Az1 _ (h.rg _ (by rw[h.b];exact IM (A:=cA l p) O2 au)).2,λD=>by have:=AL h.k.c0;grind⟩;obtain⟨k0,U,Y,aa,ab,v⟩:=(h.bG u).k;obtain⟨H,M,O,-⟩:=id q;have aH:=v 2;have ao:∀B k y,Ow d B->DQ B 182 3 l y (L p+1) (p.flatMap Gx++[V C (a:Int),V C e,W N 0 0]) k->At c t n {r with Bj:=r.Bj++[⟨(a:Int),e,[]⟩],z:=r.z+1} (k.setCell ⟨c.K,2,N⟩ y)/\V3 (k.setCell ⟨c.K,2,N⟩ y) wr.heap.size (V C (a:Int)) (V C e) (W N 0 0)/\k.cell? ⟨c.K,2,N⟩=I l/\k.frozen? ⟨c.K,2,N⟩=false:=λB k y G o=>by
  have aj:=u.trans (G.mono u.size);have am:=((h.s.ca.bG aj).cO (L1:=[_]) o).mem (A:=kA c l r.Bn aw) O2;refine⟨ae.dM h ak aj (i:=⟨(a:Int),e,[]⟩) rfl o,q.bX ?_,am.c2,am.f 2⟩;rw[AA _ _ _ _ E.2,o.af.block _ (by have:=G.size;have:=q.lt;omega) E.1,G.block _ q.lt]
 have a9:(L p)<9000000000:=by have:=h.z.1;rw[<-h.hc,An]at this;omega
 have ap:=h.s.bG u|>.mem (A:=cA l p) O2;have ad:∀g,Ow d (d.alloc g):=λg=>bA;have aG:=λg=>BM d g _ _ _ Y;have aD:=λg=>BM d g _ _ _ H;have aE:=λg=>BM d g _ _ _ M;have aF:=λg=>BM d g _ _ _ O;clear u ak q E v k0 U aa ab;go_enter func146,ntmps146;go_upto_region 1 with(fail)
 rw[<-w];clear w;go_cut [] (λj=>O9 (At c t n {r with Bj:=r.Bj++[⟨(a:Int),e,[]⟩],z:=r.z+1} j/\V3 j wr.heap.size (V C (a:Int)) (V C e) (W N 0 0)))
 case first=>
  go_region_law (first
   |(refine HD Xu (ap.alloc _) (AM d _) (m:=1) (c:=1) (s:=.tmp 14) (x:=.tmp 16) Od Od rfl rfl rfl (by intro aP al;simp at al;rcases al with rfl|rfl|rfl<;>rfl) O1 O1 ?_;intro a8 a0 k o;obtain⟨ag,ah,a6,a7⟩:=ao _ _ _ (by first|exact ad _|exact(ad _).drew) o;have aq:=O0 (Aw6 ag ah);clear o ag ah))
  all_goals
   go_wp2_with fail
   go_meet
   exact aq
 case rest=>
  rename Q=>j
  obtain⟨a1,aK,k0,U,Y,aa,ab,v⟩:=hcut.o.1.k;have aI:=v 3;obtain⟨H,M,O,-⟩:=id hcut.o.2;have a2:j.drew.cell? ⟨c.K,3,N⟩=_:=aa;have a3:j.drew.cell? ⟨wr.heap.size,0,N⟩=_:=H;have a4:j.drew.cell? ⟨wr.heap.size,1,N⟩=_:=M;have a5:j.drew.cell? ⟨wr.heap.size,2,N⟩=_:=O;clear v k0 U Y ab;go_wp2_with fail
  go_region_with ((go_at_call 202;refine(O0 (MS a e r.Bn (W N 0 0) j.drew av (hcut.o.1.Ph ar))).o.mono ?_;rintro D ay ⟨rfl,ai⟩;have ac:=hcut.o.1.bG (w1:=ay) ((Ae _ j).drew.trans ai);obtain⟨-,-,-,-,-,aL,-,an⟩:=ac.k;have aM:=an 3;clear ai an))
  all_goals(try go_wp2)
  all_goals exact bF ⟨rfl,ac.ed _⟩ O2 rfl rfl
structure JT (c:Nat) (d:X) (a b:Q):Prop where
 os:b.os=a.os
 tape:b.tape=a.tape
 output:b.output=a.output
 size:a.heap.size<=b.heap.size
 block:∀k,k<a.heap.size->k≠c->d.ownBlock≠I k->b.heap[k]?=a.heap[k]?
def Ng(b m:Nat)(i:Oy)(n:Nat->Addr)(j:Q)(h:X)(k:Bs)(o:Nat)(l:Pr (Oy×Nat))(g:Ending)(f:Q):Prop:=JT b h j f/\match l with
 |P (c,a)=>g=F (R #[T #[S ⟨#[]⟩,V C 0],Fu n (Cq c) a])
 |.ok (x,q)=>∃e,g=F (R #[T #[S x.1,V C (x.2:Int)],.nilIface])/\q<=i.size/\PS f b m i q e o/\Dy f (b+1) e (k++[x])/\∀d,e.ownBlock=I d->h.ownBlock=I d\/j.heap.size<=d
structure Ns (d h:Nat) (k:Oy) (f:X) (c:Bs) (i j:Nat) (x:Oy×Nat) (g b:Q) (N R:Nat) (a e:Nat):Prop where
 ef:JT d f g b
 ps:PS b d h k j (W (I ⟨a,0,none⟩) (L c+1) e) i
 row:Dy b (d+1) (W (I ⟨a,0,none⟩) (L c+1) e) (c++[x])
 at_:f.ownBlock=I a\/g.heap.size<=a
 n:V2 b N (S x.1) (V C (x.2:Int))
 r:V2 b R (S ⟨#[]⟩) (V C 0)
 ne:a≠R
theorem V2.dO(b:V2 n w p y)(a:q.heap[w]?=n.heap[w]?):V2 q w p y:=
 ⟨by rw[Ak a];exact b.1,by rw[Ak a];exact b.2.1,by rw[AJ a];exact b.2.2.1,by rw[AJ a];exact b.2.2.2⟩
theorem Ns.make{gv:X}{x:Oy×Nat}{N R:Nat}(al:w<n.heap.size)(an:s<n.heap.size)(aa:gv.ownBlock≠I s)(v:Dy n (w+1) gv h)(i:EF w n q)(o:PS q w s m j gv b)(G:V2 Y N (S x.1) (V C (x.2:Int)))(ak:n.heap.size<=N)(y:V2 Y R (S ⟨#[]⟩) (V C 0))(am:n.heap.size<=R)(hb:Ow q Y)(g:Y.grownBy n4 gv.ownBlock)(t:gv.ownBlock=I wf\/wf=Y.heap.size)(af:wf<n4.heap.size)(ag:n4.ownsRow 0 131 2 (W (I ⟨wf,0,none⟩) (L h+1) n1) (L h+1) (h.flatMap wC++[S x.1,V C (x.2:Int)])):
 Ns w s m gv h b j x n (n4.setCell ⟨w,1,none⟩ (W (I ⟨wf,0,none⟩) (L h+1) n1)) N R wf n1:=by
 have D:=λc e=>v.rg c (Ad _ (Ca.2 e));have aq:=i.size;have ar:=hb.size;have au:=g.size;have u:∀c,c<q.heap.size->gv.ownBlock≠I c->n4.heap[c]?=q.heap[c]?:=λc d r=>by
  rw[g.block c O1 (λe=>r e.symm)];exact hb.block c d
 have ac:gv.ownBlock≠I w:=λe=>O6;have H:Dy n4 (w+1) (W (I ⟨wf,0,none⟩) (L h+1) n1) (h++[x]):=by
  refine v.push EK O1 (w1:=Y) (λc k=>?_) O1 trivial (λc k=>by cases k) Azi g rfl t af ag;have d:=v.rg c k;rw[hb.block c O1];exact i.block c d.2 O1
 have ap:=(H.rg wf (Ad _ (by rw[EV];simp))).1;have ab:gv.ownBlock≠I N:=λe=>O6;refine⟨⟨?_,?_,?_,?_,λM ae d r=>?_⟩,?_,?_,?_,?_,?_,?_⟩
 ·exact(g.os.trans hb.os).trans i.os
 ·exact(g.tape.trans hb.tape).trans i.tape
 ·exact(g.output.trans hb.output).trans i.output
 ·simp;omega
 ·rw[AA _ _ _ _ d,u M O1 r];exact i.block M ae d
 ·refine PS.ew (gv:=gv) ?_ _;obtain⟨z,U,k0,ah,ai,aj,O⟩:=o.c0;have l:=u w O1 ac;have B:=u s O1 aa;refine⟨⟨z,U,?_,ah,ai,aj,λp E=>⟨?_,?_⟩⟩,?_,?_,λK ad=>?_⟩
  ·rwa[Ak (a:=⟨w,0,none⟩) l]
  ·rw[Ak (a:=⟨s,z+p*2,none⟩) B];exact(O p E).1
  ·rw[Ak (a:=⟨s,z+p*2+1,none⟩) B];exact(O p E).2
  ·rw[Ak (a:=⟨w,1,none⟩) l];exact o.c1
  ·rw[Ak (a:=⟨w,2,none⟩) l];exact o.c2
  ·rw[AJ (a:=⟨w,K,none⟩) l];exact o.f K ad
 ·refine Dy.fr H O2 λc k=>?_;rw[EV]at k;have ao:c=wf:=by simpa using k
  exact AA _ _ _ _ (show c≠w by omega)
 ·rcases t with d|d
  ·exact Be d
  ·exact Axf O1
 ·exact V2.cM (V2.dO G (g.block N G.lt (λe=>ab e.symm))) O1
 ·exact V2.cM (V2.dO y (g.block R y.lt (λe=>by have:=D R e.symm;omega))) O1
 ·rcases t with d|d
  ·have:=D wf d;omega
  ·have:=y.lt;omega
theorem PS.dN(c:PS n w s m b p j)(hb:Ow n q)(d:q.grownBy Y y.ownBlock)(e:y.ownBlock≠I w):Y.cell? ⟨w,1,N⟩=I p/\Y.frozen? ⟨w,1,N⟩=false:=by
 have a:Y.heap[w]?=n.heap[w]?:=by
  rw[d.block w (Am c.lt hb.size) (λa=>e a.symm)];exact hb.block w c.lt
 exact⟨by rw[Ak a];exact c.c1,by rw[AJ a];exact c.f 1 O1⟩
theorem JT.new(a:JT w p n q)(g:n.heap.size<=s):JT w p n (q.setCell ⟨s,b,N⟩ y):=
 ⟨a.os,a.tape,a.output,by have:=a.size;simp;omega,λc f d e=>by rw[AA _ _ _ _ (show c≠s by omega)];exact a.block c f d e⟩
theorem GW(a:Below w n q):Below w n q.drew:=⟨a.os,a.tape,a.output,a.size,a.block⟩
theorem Avz{a5 w:Q}{e:Nat}(aD:m.size<=2000)(a8:(L h)<=2000)(av:PB a5 w e M)(o:PS w e s m b p j)(aB:b<=m.size)(k:Dy w (e+1) p h)(aw:p.ownBlock≠I s):
 Az Aa 134 #[J (I ⟨e,0,none⟩)] w λB aR=>Ng e s m M w p h j (Dg m (h.map (·.1)) b) B aR:=by
 have al:=o.lt;have ai:=o.dy;obtain⟨U,O,rfl⟩:=k.slice;have af:=O0 (λaS (hb:Ow w aS)=>VT h aD (Ay a8 O1) (av.ef (EF.bW hb)) (o.below hb) aB ((Dy.nm k).bG hb));have ag:=O0 k;obtain⟨a4,a2,a3⟩:=AB.1 L4;simp only[Aw0]at a3;obtain⟨az,a0,a1⟩:=a3;have Y:O9 (∀c,Ow w (w.alloc c)):=λc=>bA;have ar:O9 (V2 (w.alloc (.cells #[S ⟨#[]⟩,V C 0] 131)) w.heap.size (S ⟨#[]⟩) (V C 0)):=⟨O2,O2,O2,O2⟩;have ah:O9 (w.heap.size≠e):=Aws al;have aV:=λc=>BM w c _ _ _ o.c1;have aq:O9 ((W U (L h) O).ownBlock≠I e):=λB=>by
  have:=(k.rg e (Ad _ (Ca.2 B))).1;omega
 clear av k;match hx:Dg m (h.map (·.1)) b with
 |P (K,a)=>
  have H:=O0 hx;clear hx;go_enter func134,ntmps134;go_upto_region 2 with(first
   |(go_at_call 45;refine(af.o _ (Y.o _)).mono ?_;rintro B d ⟨k,ay⟩;obtain⟨rfl,D⟩:=k.bY H.o;have t:=(o.below (Y.o _)).below (ay K a H.o);have z:=O0 ((EF.bW (E:=e) (Y.o _)).trans D);have ak:=O0 (ar.o.ef D ah.o);have am:=t.c1;have aF:=t.f 1 O1;have an:=λc=>BM d c _ _ _ am;have aE:=λc u=>BM (d.alloc c) u _ _ _ (an c);clear k D ay af))
  have i:O9 (∀c u,Ow d ((d.alloc c).alloc u)):=λc u=>bA.alloc O2 _;go_cut [] (λae=>∃y au,O9 (Ns e s m (W U (L h) O) h j b (⟨#[]⟩,0) w ae d.heap.size w.heap.size y au))
  case first=>
   go_region_law
    (first
    |(refine step_append_lies _ rfl (.tmp 19) (.tmp 21) 78 rfl 0 131 a4 _ 2 24 underlying78 a2 az a0 a1 rfl O1 (W U (L h) O) (L h) (h.flatMap wC) Od (((ag.o.ef EK z.o (Ayd e)).own.alloc _).alloc _) ⟨d.heap.size+1,0,none⟩ 1 1 [S (⟨#[]⟩:Oy),V C (0:Int)] Od rfl (by have o:=A5 (AM (d.alloc (AW #[S (⟨#[]⟩:Oy),V C (0:Int)] 131)) (AW #[S (⟨#[]⟩:Oy),V C (0:Int)] 131));simpa using o) (by intro aO ad;simp at ad;rcases ad with rfl|rfl<;>rfl) O1 O8 O1 (Ai _) _ rfl ?_;intro a7 a6 aT ac G aa ab;have aj:=O0 (Ns.make (x:=(⟨#[]⟩,0)) (N:=d.heap.size) (R:=w.heap.size) al ai aw ag.o z.o t (V2.bG (w:=d.alloc (AW #[S (⟨#[]⟩:Oy),V C (0:Int)] 131)) ⟨O2,O2,O2,O2⟩ (by first|exact bA|exact GW bA)) z.o.size (ak.o.bG (by first|exact i.o _ _|exact GW (i.o _ _))) (Ac _) (by first|exact i.o _ _|exact GW (i.o _ _)) G aa ab ac);obtain⟨aP,aQ⟩:=t.dN (by first|exact i.o _ _|exact GW (i.o _ _)) G aq.o;clear ac G aa ab))
   all_goals
    go_wp2_with fail
    go_meet
    exact⟨_,_,aj⟩
  case rest=>
   rename Q=>ae
   obtain⟨y,au,g⟩:=hcut;obtain⟨aG,aH,aI,aJ⟩:=id g.o.n;obtain⟨aK,aL,aM,aN⟩:=id g.o.r;go_wp2;obtain⟨ao,ap,-,-⟩:=g.o.r.put (S (⟨#[]⟩:Oy)) (V C (0:Int));refine AZ (v:=.tuple #[T #[S (⟨#[]⟩:Oy),V C (0:Int)],Z 85 (He M (Cq K) a)]) (by simp[results,results134,go_sem,ao,ap]) rfl ?_;refine⟨(g.o.ef.new (Ac _)).new (Ac _),?_⟩;rw[H.o];rfl
 |.ok (x,q)=>
  have H:=O0 hx;clear hx;go_enter func134,ntmps134;go_upto_region 2 with(first
   |(go_at_call 45;refine(af.o _ (Y.o _)).mono ?_;rintro B d ⟨k,-⟩;obtain⟨v,rfl,D,rfl,aC,t⟩:=k.isOk H.o;have z:=O0 ((EF.bW (E:=e) (Y.o _)).trans D);have ak:=O0 (ar.o.ef D ah.o);have am:=t.c1;have aF:=t.f 1 O1;have an:=λc=>BM d c _ _ _ am;have aE:=λc u=>BM (d.alloc c) u _ _ _ (an c);clear k D af))
  have i:O9 (∀c u,Ow d ((d.alloc c).alloc u)):=λc u=>bA.alloc O2 _;go_cut [] (λae=>∃y K,O9 (Ns e s m (W U (L h) O) h j q x w ae d.heap.size w.heap.size y K))
  case first=>
   go_region_law
    (first
    |(refine step_append_lies _ rfl (.tmp 19) (.tmp 21) 78 rfl 0 131 a4 _ 2 24 underlying78 a2 az a0 a1 rfl O1 (W U (L h) O) (L h) (h.flatMap wC) Od (((ag.o.ef EK z.o (Ayd e)).own.alloc _).alloc _) ⟨d.heap.size+1,0,none⟩ 1 1 [S x.1,V C (x.2:Int)] Od rfl (by have o:=A5 (AM (d.alloc (AW #[S x.1,V C (x.2:Int)] 131)) (AW #[S x.1,V C (x.2:Int)] 131));simpa using o) (by intro aO ad;simp at ad;rcases ad with rfl|rfl<;>rfl) O1 O8 O1 (Ai _) _ rfl ?_;intro a7 a6 aT ac G aa ab;have aj:=O0 (Ns.make (x:=x) (N:=d.heap.size) (R:=w.heap.size) al ai aw ag.o z.o t (V2.bG (w:=d.alloc (AW #[S x.1,V C (x.2:Int)] 131)) ⟨O2,O2,O2,O2⟩ (by first|exact bA|exact GW bA)) z.o.size (ak.o.bG (by first|exact i.o _ _|exact GW (i.o _ _))) (Ac _) (by first|exact i.o _ _|exact GW (i.o _ _)) G aa ab ac);obtain⟨aP,aQ⟩:=t.dN (by first|exact i.o _ _|exact GW (i.o _ _)) G aq.o;clear ac G aa ab))
   all_goals
    go_wp2_with fail
    go_meet
    exact⟨_,_,aj⟩
  case rest=>
   rename Q=>ae
   obtain⟨y,K,g⟩:=hcut;obtain⟨aG,aH,aI,aJ⟩:=id g.o.n;obtain⟨aK,aL,aM,aN⟩:=id g.o.r;go_wp2;obtain⟨ao,ap,-,-⟩:=g.o.r.put (S x.1) (V C (x.2:Int));refine AZ (v:=.tuple #[T #[S x.1,V C (x.2:Int)],.nilIface]) (by simp[results,results134,go_sem,ao,ap]) rfl ?_;have a9:∀l,(W (I ⟨y,0,none⟩) (L h+1) K).ownBlock=I l->(W U (L h) O).ownBlock=I l\/w.heap.size<=l:=λl B=>by
    have:y=l:=Axi B;subst this;exact g.o.at_
   refine⟨(g.o.ef.new (Ac _)).new (Ac _),?_⟩;rw[H.o];refine⟨_,rfl,aC,(g.o.ps.cM ah.o (Aws ai)).cM ah.o (Aws ai),?_,a9⟩;refine Dy.fr g.o.row O2 λl ax=>?_;rw[EV]at ax;have aW:l=y:=by simpa using ax
   have aX:=g.o.ne;rw[AA _ _ _ _ (show l≠w.heap.size by omega),AA _ _ _ _ (show l≠w.heap.size by omega)]
abbrev IT:=(Oy×Nat)×Nat
abbrev DT:=(Oy×Nat)×X×Bs×PT
def Mw(a:IT):List X:=[S a.1.1,V C (a.1.2:Int),V C (a.2:Int)]
def Ml(a:DT):List X:=[S a.1.1,V C (a.1.2:Int),a.2.1,a.2.2.2.1]
def Lu(a:DT):List Nat:=vB a.2.1++a.2.2.2.2.2
def Ri(b:Q)(a:DT):Prop:=Dy b 0 a.2.1 a.2.2.1/\PX 31 b a.2.2.2
theorem Hc:Ht Lu Ri:=by
 intro e f g a c b;exact⟨a.1.fr c (b.sub λd hb=>Ad _ hb),Dp 31 e f _ a.2 c (b.sub λd hb=>Aj _ hb)⟩
theorem JB:Ht (α:=IT) (λ_=>[]) (λ_ _=>True):=λ_ _ _ _ _ _=>trivial
abbrev I0(c:Q)(a:Nat)(b:X)(d:List IT):Prop:=Cm Mw (λ_=>[]) (λ_ _=>True) 140 3 c a b d
abbrev Ie(c:Q)(a:Nat)(b:X)(d:List DT):Prop:=Cm Ml Lu Ri 144 4 c a b d
theorem Avo:(Aa.info? 140).map (λa=>(a.zero,a.size,a.bytes))=I (I (T #[S ⟨#[]⟩,V C 0,V C 0]),3,32):=O3
theorem Asq:(Aa.info? 144).map (λa=>(a.zero,a.size,a.bytes))=I (I (T #[S ⟨#[]⟩,V C 0,W N 0 0,.nilIface]),4,64):=O3
structure CP (j l:Nat) (o:Oy) (h wr:Q) (a:Nat) (r:X) (p:Bs) (q:List IT) (k:List DT) (n:Nat) (e f c:X):Prop where
 hq:n<=o.size
 ps:PS wr j l o n e 0
 m:V3 wr a r f c
 g:Dy wr (a+1) e p
 i:I0 wr (a+1) f q
 d:Ie wr (a+1) c k
 gi:∀b,e.ownBlock=I b->f.ownBlock≠I b
 gd:∀b,e.ownBlock=I b->b∉Dl Lu c k
 id:∀b,f.ownBlock=I b->b∉Dl Lu c k
 ef:EF j h wr
 hM:h.heap.size<=a
 hP:j<h.heap.size
 hW:l<h.heap.size
variable{we:List IT}{wc:List DT}
theorem CP.gr{wr:Q}(d:CP w s m n wr b p h we wc j y e G):∀a,y.ownBlock=I a->b+1<=a/\a<wr.heap.size:=λa c=>d.g.rg a (Ad _ (Ca.2 c))
theorem CP.ir{wr:Q}(d:CP w s m n wr b p h we wc j y e G):∀a,e.ownBlock=I a->b+1<=a/\a<wr.heap.size:=λa c=>d.i.rg a (Ad _ (Ca.2 c))
theorem CP.move{f:Oy}{wr:Q}(a:CP w s f n wr b p h we wc j y e G){l:Q}{k:Nat}(c:EF w wr l)(t:k<=f.size)(r:PS l w s f k y 0):CP w s f n l b p h we wc k y e G:=by
 have o:=a.hM;have q:=a.hP;exact⟨t,r,a.m.ef c O1,a.g.ef EK c O1,a.i.ef JB c O1,a.d.ef Hc c O1,a.gi,a.gd,a.id,a.ef.trans c,o,q,a.hW⟩
theorem CP.Ly{t:Oy}{wr:Q}(c:CP w s t n wr b p h we wc j y e G){u:Q}{B:Nat}{H:Oy×Nat}{q:X}(g:JT w y wr u)(aa:B<=t.size)(O:PS u w s t B q 0)(r:Dy u (w+1) q (h++[H]))(v:∀a,q.ownBlock=I a->y.ownBlock=I a\/wr.heap.size<=a):CP w s t n u b p (h++[H]) we wc B q e G:=by
 have K:=c.hM;have M:=c.hP;have Y:=c.m.lt;have x:∀a∈Dl (λ_:IT=>[]) e we,a<wr.heap.size/\a≠w/\y.ownBlock≠I a:=λa hb=>by
  have o:=c.i.rg a hb;refine⟨o.2,O1,λf=>?_⟩;rcases Ag.1 hb with l|l
  ·exact c.gi a f (Ca.1 l)
  ·simp at l
 refine⟨aa,O,c.m.bX (g.block b Y O1 (λf=>by have:=c.gr b f;omega)),⟨r.own,r.it,r.nd,λa hb=>?_⟩,c.i.fr JB g.size λa hb=>g.block a (x a hb).1 (x a hb).2.1 (x a hb).2.2,c.d.fr Hc g.size λa hb=>?_,λa f D=>?_,λa f hb=>?_,c.id,?_,K,M,c.hW⟩
 ·have o:=r.rg a hb;refine⟨?_,o.2⟩;rcases Ag.1 hb with l|l
  ·rcases v a (Ca.1 l) with k|k
   ·exact(c.gr a k).1
   ·omega
  ·simp at l
 ·have o:=c.d.rg a hb;exact g.block a o.2 O1 (λf=>c.gd a f hb)
 ·rcases v a f with k|k
  ·exact c.gi a k D
  ·have:=c.ir a D;omega
 ·rcases v a f with k|k
  ·exact c.gd a k hb
  ·have:=c.d.rg a hb;omega
 ·refine⟨g.os.trans c.ef.os,g.tape.trans c.ef.tape,g.output.trans c.ef.output,Ay c.ef.size g.size,λz U E=>?_⟩;have o:=c.ef.size;rw[g.block z O1 E (λf=>by have:=c.gr z f;omega)];exact c.ef.block z U E
theorem V3.cG(b:V3 n w p y e)(c:X):V3 (n.setCell ⟨w,1,N⟩ c) w p c e:=by
 have d:∀a,a≠1->(n.setCell ⟨w,1,N⟩ c).cell? ⟨w,a,N⟩=n.cell? ⟨w,a,N⟩:=λa g=>Ah _ _ _ _ (Cv (Aym g));exact⟨by rw[d _ O1];exact b.c0,Au _ _ _ b.c1,by rw[d _ O1];exact b.c2,λa=>by rw[Aq];exact b.f a⟩
theorem V3.cE(b:V3 n w p y e)(c:X):V3 (n.setCell ⟨w,2,N⟩ c) w p y c:=by
 have d:∀a,a≠2->(n.setCell ⟨w,2,N⟩ c).cell? ⟨w,a,N⟩=n.cell? ⟨w,a,N⟩:=λa g=>Ah _ _ _ _ (Cv (Aym g));exact⟨by rw[d _ O1];exact b.c0,by rw[d _ O1];exact b.c1,Au _ _ _ b.c2,λa=>by rw[Aq];exact b.f a⟩
theorem PS.cS(c:PS n w s m b p j)(a:q.heap[w]?=n.heap[w]?)(d:q.heap[s]?=n.heap[s]?):PS q w s m b p j:=by
 let ⟨u,i,k0,o,r,t,h⟩:=c.c0
 refine⟨⟨u,i,?_,o,r,t,λg e=>⟨?_,?_⟩⟩,?_,?_,λl k=>?_⟩
 ·rwa[Ak a]
 ·rw[Ak d];exact(h g e).1
 ·rw[Ak d];exact(h g e).2
 ·rw[Ak a];exact c.c1
 ·rw[Ak a];exact c.c2
 ·rw[AJ a];exact c.f l k
theorem CP.eI{K:Oy}{wr:Q}(c:CP w s K n wr b p h we wc j y e G){u o:Q}{x:IT}{k q:Nat}(hb:Ow wr u)(t:u.grownBy o e.ownBlock)(aa:e.ownBlock=I k\/k=u.heap.size)(ac:k<o.heap.size)(af:o.ownsRow 0 140 3 (W (I ⟨k,0,N⟩) (L we+1) q) (L we+1) (we.flatMap Mw++Mw x)):
 CP w s K n (o.setCell ⟨b,1,N⟩ (W (I ⟨k,0,N⟩) (L we+1) q)) b p h (we++[x]) wc j y (W (I ⟨k,0,N⟩) (L we+1) q) G:=by
 have O:=c.hM;have U:=c.hP;have Y:=c.hW;have ad:=c.m.lt;have ah:=hb.size;have al:=t.size;have ai:=c.ef.size;have z:∀a,a<wr.heap.size->e.ownBlock≠I a->o.heap[a]?=wr.heap[a]?:=λa l r=>by
  rw[t.block a O1 (λg=>r g.symm)];exact hb.block a l
 have v:∀a,a≠b->(o.setCell ⟨b,1,N⟩ (W (I ⟨k,0,N⟩) (L we+1) q)).heap[a]?=o.heap[a]?:=λa f=>AA _ _ _ _ f;have E:∀a,a<b+1->e.ownBlock≠I a:=λa f g=>by have:=c.ir a g;omega
 have ag:o.heap.size<=(o.setCell ⟨b,1,N⟩ (W (I ⟨k,0,N⟩) (L we+1) q)).heap.size:=O2;have D:I0 o (b+1) (W (I ⟨k,0,N⟩) (L we+1) q) (we++[x]):=
  c.i.push JB O1 (w1:=u) (λa f=>hb.block a (c.i.rg a f).2) ah trivial (λa f=>by cases f) Azi t rfl aa ac af
 have ak:=(D.rg k (Ad _ (by rw[EV];simp))).1;have H:∀a,(W (I ⟨k,0,N⟩) (L we+1) q).ownBlock=I a->e.ownBlock=I a\/wr.heap.size<=a:=λa g=>by
  have aj:k=a:=Axi g;grind
 refine⟨c.hq,?_,?_,?_,?_,?_,?_,c.gd,?_,?_,O,U,Y⟩
 ·refine c.ps.cS ?_ ?_
  ·grind
  grind
 ·exact(c.m.bX (z b ad (E b O1))).cG _
 ·refine Cm.fr EK c.g O1 λa f=>?_;have l:=c.g.rg a f;have r:y.ownBlock=I a:=by
   rcases Ag.1 f with r|r
   ·exact Ca.1 r
   ·simp at r
  rw[v a O1,z a l.2 (c.gi a r)]
 ·exact D.fr JB ag λa f=>v a (by have:=(D.rg a f).1;omega)
 ·refine c.d.fr Hc O1 λa f=>?_;have l:=c.d.rg a f;rw[v a O1,z a l.2 (λg=>c.id a g f)]
 ·intro a g M;rcases H a M with l|l
  ·exact c.gi a g l
  ·have:=c.gr a g;omega
 ·intro a g f;rcases H a g with l|l
  ·exact c.id a l f
  ·have:=c.d.rg a f;omega
 ·refine⟨(t.os.trans hb.os).trans c.ef.os,(t.tape.trans hb.tape).trans c.ef.tape,(t.output.trans hb.output).trans c.ef.output,O1,λB ab ae=>?_⟩;rw[v B O1,z B O1 (E B O1)];exact c.ef.block B ab ae
theorem CP.eB{U:Oy}{wr:Q}(c:CP w s U n wr b p h we wc j y e G){H o u:Q}{x:DT}{l r aa:Nat}(z:EF w wr u)(ap:aa<=U.size)(ah:PS u w s U aa y 0)(ar:Ri u x)(E:DG wr.heap.size u (Lu x))(hb:Ow u H)(D:H.grownBy o G.ownBlock)(ab:G.ownBlock=I l\/l=H.heap.size)(al:l<o.heap.size)(ao:o.ownsRow 0 144 4 (W (I ⟨l,0,N⟩) (L wc+1) r) (L wc+1) (wc.flatMap Ml++Ml x)):
 CP w s U n (o.setCell ⟨b,2,N⟩ (W (I ⟨l,0,N⟩) (L wc+1) r)) b p h we (wc++[x]) aa y e (W (I ⟨l,0,N⟩) (L wc+1) r):=by
 have af:=c.hM;have ag:=c.hP;have ai:=c.hW;have an:=c.m.lt;have ay:=z.size;have av:=hb.size;have az:=D.size;have ax:=c.ef.size;have aw:=λa k=>c.d.rg a (Ad _ (Ca.2 k));have Y:∀a,a<u.heap.size->G.ownBlock≠I a->o.heap[a]?=u.heap[a]?:=λa q f=>by
  rw[D.block a O1 (λk=>f k.symm)];exact hb.block a q
 have M:∀a,a<wr.heap.size->a≠w->G.ownBlock≠I a->o.heap[a]?=wr.heap[a]?:=λa q f t=>by
  rw[Y a O1 t];exact z.block a q f
 have B:∀a,a≠b->(o.setCell ⟨b,2,N⟩ (W (I ⟨l,0,N⟩) (L wc+1) r)).heap[a]?=o.heap[a]?:=λa g=>AA _ _ _ _ g;have K:∀a,a<b+1->G.ownBlock≠I a:=λa g k=>O6;have aq:o.heap.size<=(o.setCell ⟨b,2,N⟩ (W (I ⟨l,0,N⟩) (L wc+1) r)).heap.size:=O2;have au:=Hc _ _ _ ar av λa g=>hb.block a (E.2 a g).2;have ae:Ie o (b+1) (W (I ⟨l,0,N⟩) (L wc+1) r) (wc++[x]):=by
  refine c.d.push Hc O1 (w1:=H) (λa g=>?_) O1 au (λa g=>⟨(E.2 a g).1,by have:=(E.2 a g).2;omega⟩) E.1 D rfl ab al ao;have q:=c.d.rg a g;rw[hb.block a O1];exact z.block a q.2 O1
 have ad:∀a,a<wr.heap.size->a∉Dl Lu G wc->a∉Dl Lu (W (I ⟨l,0,N⟩) (L wc+1) r) (wc++[x]):=λa q f am=>by
  rcases Ag.1 am with t|t
  ·rw[EV]at t;have aj:a=l:=by simpa using t
   subst aj;rcases ab with v|v
   ·exact f (Ad _ (Ca.2 v))
   ·omega
  ·rw[AH]at t;rcases Ag.1 t with v|v
   ·exact f (Aj _ v)
   ·have:=(E.2 a (by simpa using v)).1;omega
 refine⟨ap,?_,?_,?_,?_,?_,c.gi,λa k=>ad a (c.gr a k).2 (c.gd a k),λa k=>ad a (c.ir a k).2 (c.id a k),?_,af,ag,ai⟩
 ·refine ah.cS ?_ ?_
  ·rw[B w O1,Y w O1 (K w O1)]
  ·rw[B s O1,Y s O1 (K s O1)]
 ·exact(c.m.bX (M b an O1 (K b O1))).cE _
 ·refine Cm.fr EK c.g O1 λa g=>?_;have q:=c.g.rg a g;have f:y.ownBlock=I a:=by
   rcases Ag.1 g with f|f
   ·exact Ca.1 f
   ·simp at f
  rw[B a O1,M a q.2 O1 (λk=>c.gd a f (Ad _ (Ca.2 k)))]
 ·refine c.i.fr JB O1 λa g=>?_;have q:=c.i.rg a g;have f:e.ownBlock=I a:=by
   rcases Ag.1 g with f|f
   ·exact Ca.1 f
   ·simp at f
  rw[B a O1,M a q.2 O1 (λk=>c.id a f (Ad _ (Ca.2 k)))]
 ·exact ae.fr Hc aq λa g=>B a (by have:=(ae.rg a g).1;omega)
 ·refine⟨((D.os.trans hb.os).trans z.os).trans c.ef.os,((D.tape.trans hb.tape).trans z.tape).trans c.ef.tape,((D.output.trans hb.output).trans z.output).trans c.ef.output,O1,λO ak ac=>?_⟩;rw[B O O1,M O O1 ac (K O O1)];exact c.ef.block O ak ac
def Lh(a:Oy)(b:Bs)(c:Nat):Pr IT:=pb (Dg a (b.map (·.1)) c) λh d=>pb (D8 a 20 d) λg e=>pb (BS a BO e) λ_ f=>.ok ((h,g.1),f)
theorem Ng.bY(a:Ng w s m M n p h b ys n2 q)(c:ys=P (j,wf)):n2=F (R #[T #[S ⟨#[]⟩,V C 0],Z 85 (He M (Cq j) wf)])/\JT w p n q:=by
 subst c;exact⟨a.2,a.1⟩
theorem Ng.isOk(d:Ng w s m M n p h b ys n2 q)(g:ys=.ok (n0,j)):∃a,n2=F (R #[T #[S n0.1,V C (n0.2:Int)],.nilIface])/\JT w p n q/\j<=m.size/\PS q w s m j a b/\Dy q (w+1) a (h++[n0])/\∀c,a.ownBlock=I c->p.ownBlock=I c\/n.heap.size<=c:=by
 subst g;let ⟨a,e,f⟩:=d.2;exact⟨a,e,d.1,f⟩
def KC(i:Q)(a:Nat)(h:X):Prop:=∃c d e b f g,V3 i a h (W c d e) (W b f g)
theorem KC.ef{w f:Q}{a d:Nat}{e:X}(c:KC w a e)(l:EF d w f)(m:a≠d):KC f a e:=by
 let ⟨g,b,h,i,j,k,c⟩:=c
 exact⟨g,b,h,i,j,k,c.ef l m⟩
theorem CP.dQ{c:Oy}{wr:Q}(a:CP w s c n wr b p h we wc j y e G):KC wr b p:=by
 obtain⟨l,k,rfl⟩:=a.i.slice;obtain⟨g,f,rfl⟩:=a.d.slice;exact⟨_,_,_,_,_,_,a.m⟩
theorem CP.ek{g:Oy}{wr:Q}(a:CP w s g n wr b p h we wc j y e G)(f:JT w y wr Y):KC Y b p:=by
 have o:=a.hM;have q:=a.hP;obtain⟨t,r,rfl⟩:=a.i.slice;obtain⟨l,k,rfl⟩:=a.d.slice;exact⟨_,_,_,_,_,_,a.m.bX (f.block b a.m.lt O1 (λc=>by have:=a.gr b c;omega))⟩
def Aei(e k:Nat)(s:Oy)(l:Nat->Addr)(h:Q)(d:Nat)(g:X)(i:Bs)(p:List IT)(m:List DT)(n:X)(j:Pr IT)(f:Ending)(b:Q):Prop:=EF e h b/\match j with
 |P (c,a)=>f=F (Fu l (Cq c) a)/\KC b d g
 |.ok (x,q)=>f=F .nilIface/\∃o r,CP e k s h b d g (i++[x.1]) (p++[x]) m q o r n
theorem CP.eW{wr:Q}(a:CP w s m n wr b p h we wc j y e G){g:Q}(c:JT w y wr g):EF w n g:=by
 have o:=a.hM;refine⟨c.os.trans a.ef.os,c.tape.trans a.ef.tape,c.output.trans a.ef.output,Ay a.ef.size c.size,λd k f=>?_⟩;have l:=a.ef.size;rw[c.block d O1 f (λi=>by have:=a.gr d i;omega)];exact a.ef.block d k f
theorem CP.mZ{l:Oy}{wr:Q}(a:CP w s l n wr b p h we wc j y e G){c f:Q}{d:X}(hb:Ow wr c)(i:c.grownBy f d.ownBlock)(k:d.ownBlock≠I b):V3 f b p e G:=by
 refine a.m.bX ?_;rw[i.block b (Am a.m.lt hb.size) (λg=>k g.symm)];exact hb.block b a.m.lt
theorem CP.d4{wr:Q}(a:CP w s m n wr b p h we wc j y e G){f:Q}{d:Nat->Addr}(l:m.size<=2000)(k:(L h)<=2000)(i:PB f n w d):
 Az Aa 134 #[J (I ⟨w,0,N⟩)] wr λc o=>Ng w s m d wr y h 0 (Dg m (h.map (·.1)) j) c o:=by
 have q:=a.hM;have r:=a.hP;have t:=a.hW;exact Avz l k (i.ef a.ef) a.ps a.hq (a.g.low O1) (λc=>by have:=a.gr s c;omega)
theorem Apc{d:Nat}{g:Oy}{w:Q}{k:Nat}{a6:X}(au:g.size<=2000)(a8:(L h)<=2000)(aV:(L we)<=2000)(aa:PB n q d M)(c:CP d s g q w k p h we wc j a6 e G):
 Az Aa 86 #[J (I ⟨d,0,N⟩),J (I ⟨k,0,N⟩)] w λt aN=>Aei d s g M q k p h we wc G (Lh g h j) t aN:=by
 have ae:=c.d4 au a8 aa;have ad:=O0 aa;have a9:=Am c.hP c.ef.size;have ab:k≠d:=by
  have l:=c.hM;have u:=c.hP;omega
 obtain⟨ax,aw,rfl⟩:=c.i.slice;obtain⟨aI,aE,ao⟩:=AB.1 Avo;simp only[Aw0]at ao;obtain⟨aB,aC,aD⟩:=ao;clear aa;go_enter func86,ntmps86;go_upto_region 7 with(first
  |(go_at_call 134;refine ae.mono ?_;intro t z a;clear ae;rcases l:Dg g (h.map (·.1)) j with⟨ag,az⟩|⟨x,aM⟩;(·obtain⟨rfl,H⟩:=a.bY l;clear a;go_wp2;go_ret;exact⟨(c.eW H).trans (EF.bW bA),by rw[Lh,l,DR];exact⟨rfl,(c.ek H).ef (EF.bW (E:=d) bA) ab⟩⟩);obtain⟨a7,rfl,H,ar,aj,ai,an⟩:=a.isOk l;have B:=O0 (c.Ly H ar aj ai an);have aH:=Am a9 H.size;clear a aj ai an)
  |(go_at_call 135;refine(SB 20 au (ad.o.ef (B.o.ef.trans (EF.bW bA))) (B.o.ps.below bA) ar).mono ?_;intro t o a;rcases u:D8 g 20 aM with⟨ag,az⟩|⟨⟨Y,bf⟩,a1⟩;(·obtain⟨rfl,v⟩:=a.bY u;have K:=(EF.bW (E:=d) ((Ae z.heap.size z).alloc (Ac _) (AW #[S x.1,V C (x.2:Int)] 131))).trans v;clear a v;go_wp2;go_ret;exact⟨B.o.ef.trans K,by rw[Lh,l,BQ,u,DR];exact⟨rfl,B.o.dQ.ef K ab⟩⟩);obtain⟨bh,rfl,v,rfl,aF,ak⟩:=a.isOk u;have K:=O0 ((EF.bW (E:=d) ((Ae z.heap.size z).alloc (Ac _) (AW #[S x.1,V C (x.2:Int)] 131))).trans v);have D:=B.o.move K.o aF ak;obtain⟨aK,aL,bc,bd⟩:=V2.ef (w:=z.alloc (.cells #[S x.1,V C (x.2:Int)] 131)) (b:=z.heap.size) (x:=Value.string x.1) (y:=Value.int C (x.2:Int)) ⟨O2,O2,O2,O2⟩ v (Aws aH);clear a v ak))
 obtain⟨aW,aJ,aY,a0⟩:=id D.m;have aZ:=a0 1;clear a0;have aX:=λf=>BM o f _ _ _ aJ;have ba:=λf=>BM o f _ _ _ aK;have bb:=λf=>BM o f _ _ _ aL;have a3:(W ax (L we) aw).ownBlock≠I k:=λt=>by
  have:=D.ir k t;omega
 have O:∀f,Ow o (o.alloc f):=λf=>bA;go_cut [] (λa2=>∃ay,O9 (CP d s g q a2 k p (h++[x]) (we++[(x,Y)]) wc a1 a7 ay G))
 case first=>
  go_region_law
   (first
   |(refine step_append_lies _ rfl (.tmp 28) (.tmp 32) 42 rfl 0 140 aI _ 3 32 underlying42 aE aB aC aD rfl O1 (W ax (L we) aw) (L we) (we.flatMap Mw) Od (D.i.own.alloc _) ⟨o.heap.size,0,N⟩ 1 1 [S x.1,V C (x.2:Int),V C (Y:Int)] Od rfl (by have c:=A5 (AM o (AW #[S x.1,V C (x.2:Int),V C (Y:Int)] 140));simpa using c) (by intro bg av;simp at av;rcases av with rfl|rfl|rfl<;>rfl) O1 O8 O1 (Ai _) _ rfl ?_;intro aT aO bi aq ac am ap;have a4:=O0 (D.eI (x:=(x,Y)) (by first|exact O _|exact GW (O _)) ac am ap aq);obtain⟨aP,aQ,aR,ah⟩:=D.mZ (by first|exact O _|exact GW (O _)) ac a3;have aS:=ah 1;clear ah aq ac am ap))
  all_goals
   go_wp2_with fail
   go_meet
   exact⟨_,a4⟩
 case rest=>
  rename Q=>a2
  obtain⟨ay,r⟩:=hcut;have a5:=KY BO (ad.o.ef r.o.ef) r.o.ps r.o.hq nofun;go_wp2_with (first
   |(go_at_call 44;refine a5.mono ?_;intro t w5 a;rcases h3:BS g BO a1 with⟨ag,az⟩|⟨⟨⟩,be⟩;(·obtain⟨rfl,U⟩:=a.bY h3;clear a;go_wp2;go_ret;exact⟨r.o.ef.trans U,by rw[Lh,l,BQ,u,BQ,h3,DR];exact⟨rfl,r.o.dQ.ef U ab⟩⟩);obtain⟨rfl,U,aG,al⟩:=a.isOk h3;have af:=r.o.move U aG al;clear a al))
  go_ret;exact⟨af.ef,by rw[Lh,l,BQ,u,BQ,h3,BQ];exact⟨rfl,_,_,af⟩⟩
theorem V3.d8(a:V3 n w p y e)(hb:Ow n q)(c:q.grownBy Y G.ownBlock)(d:G.ownBlock≠I w):V3 Y w p y e:=by
 refine a.bX ?_;rw[c.block w (Am a.lt hb.size) (λb=>d b.symm)];exact hb.block w a.lt
def Hf(a:Oy)(b:Bs)(e:Nat):Pr ((Oy×Nat)×Bs×Ex):=pb (Dg a (b.map (·.1)) e) λj f=>pb (FN a f) λd g=>pb (pE a 30 g) λc h=>pb (BS a BO h) λ_ i=>.ok ((j,d,c),i)
def Aej(e k:Nat)(u:Oy)(l:Nat->Addr)(h:Q)(d:Nat)(g:X)(i:Bs)(r:List IT)(n:List DT)(s:X)(j:Pr ((Oy×Nat)×Bs×Ex))(f:Ending)(b:Q):Prop:=EF e h b/\match j with
 |P (c,a)=>f=F (Fu l (Cq c) a)/\KC b d g
 |.ok ((x,ns,y),q)=>f=F .nilIface/\∃p o t v m,CP e k u h b d g (i++[x]) r (n++[(x,t,ns,v,y,m)]) q p s o
def LA(i:Q)(b e:Nat)(f:Nat->Addr)(a:Oy):Prop:=∀(g:X) (h:Nat) (k:Bs) (d:Nat),h<=a.size->FN a h=.ok (k,d)->∀c:Q,PB i c b f->PS c b e a d g 0->d<=a.size->
 Az Aa 137 #[J (I ⟨b,0,N⟩)] c λj l=>Cw (pE a 30 d) b c f (XV (30+1) a b e g 0 c) j l
theorem LA.of(b:∀a,Ho n w s M m a 30 0):LA n w s M m:=λa _ _ c _ _ d=>b a d c
theorem Akw{l:Nat}{i:Oy}{w:Q}{t:Nat}{aT:X}(aB:i.size<=2000)(aV:LA n l s M i)(aW:(L h)<=2000)(b1:(L wc)<=2000)(an:PB n q l M)(o:CP l s i q w t p h we wc j aT e G):
 Az Aa 87 #[J (I ⟨l,0,N⟩),J (I ⟨t,0,N⟩)] w λu br=>Aej l s i M q t p h we wc e (Hf i h j) u br:=by
 have ax:=o.d4 aB aW an;have av:=O0 an;have al:=O0 o;have aX:=Am o.hP o.ef.size;have ae:t≠l:=by
  have c:=o.hM;have r:=o.hP;omega
 obtain⟨ai,ah,rfl⟩:=o.d.slice;obtain⟨bk,be,a7⟩:=AB.1 Asq;simp only[Aw0]at a7;obtain⟨bb,bc,bd⟩:=a7;clear an o;go_enter func87,ntmps87;go_upto_region 10 with(first
  |(go_at_call 134;refine ax.mono ?_;intro u z a;clear ax;rcases c:Dg i (h.map (·.1)) j with⟨ac,au⟩|⟨x,aF⟩;(·obtain⟨rfl,ad⟩:=a.bY c;clear a;go_wp2;go_ret;exact⟨(al.o.eW ad).trans (EF.bW bA),by rw[Hf,c,DR];exact⟨rfl,(al.o.ek ad).ef (EF.bW (E:=l) bA) ae⟩⟩);obtain⟨am,rfl,ad,ar,a3,a2,a6⟩:=a.isOk c;have f:=al.o.Ly ad ar a3 a2 a6;have bj:=Am aX ad.size;have ak:O9 (EF l z (z.alloc (AW #[S x.1,V C (x.2:Int)] 131))):=EF.bW bA;have aw:=O0 (av.o.ef (f.ef.trans ak.o));have aP:PS (z.alloc (AW #[S x.1,V C (x.2:Int)] 131)) l s i aF am 0:=f.ps.below bA;clear a a3 a2 a6)
  |(go_at_call 136;refine(Zu aB aw.o aP ar).mono ?_;intro u bJ a;rcases r:FN i aF with⟨ac,au⟩|⟨g,bp⟩;(·obtain⟨rfl,B⟩:=a.bY r;have ab:=ak.o.trans B;clear a B;go_wp2;go_ret;exact⟨f.ef.trans ab,by rw[Hf,c,BQ,r,DR];exact⟨rfl,f.dQ.ef ab ae⟩⟩);obtain⟨bo,rfl,B,bf,aY,ao⟩:=a.isOk r;obtain⟨U,O,rfl⟩:∃aS ac,bo=W aS (L g) ac:=ao.slice;have ab:=O0 (ak.o.trans B);have aJ:=aw.o.ef B;clear a)
  |(go_at_call 137;refine(aV am _ _ _ ar r _ aJ aY bf).mono ?_;intro u k a;rcases h3:pE i 30 bp with⟨ac,au⟩|⟨y,aG⟩;(·obtain⟨aH,rfl,D,-⟩:=a.bY h3;have H:=ab.o.trans D;clear a D;go_wp2;go_ret;exact⟨f.ef.trans H,by rw[Hf,c,BQ,r,BQ,h3,DR];exact⟨rfl,f.dQ.ef H ae⟩⟩);obtain⟨aH,rfl,D,bg,aZ,ag,aD,aq⟩:=a.isOk h3;obtain⟨Y,aa,rfl⟩:∃bq bs,aH=Z bq bs:=aD.ch;have H:=ab.o.trans D;obtain⟨bm,bn,bE,bG⟩:=V2.ef (w:=z.alloc (AW #[S x.1,V C (x.2:Int)] 131)) (b:=z.heap.size) (x:=Value.string x.1) (y:=Value.int C (x.2:Int)) ⟨O2,O2,O2,O2⟩ (B.trans D) (Aws bj);clear a))
 have az:V3 k t p e (W ai (L wc) ah):=f.m.ef H ae;obtain⟨b7,b8,bl,aE⟩:=id az;have bB:=aE 2;clear aE;have b9:=λv=>BM k v _ _ _ bl;have bC:=λv=>BM k v _ _ _ bm;have bD:=λv=>BM k v _ _ _ bn;have aK:(W ai (L wc) ah).ownBlock≠I t:=λu=>by
  have:=(f.d.rg t (Ad _ (Ca.2 u))).1;omega
 have af:∀v,Ow k (k.alloc v):=λv=>bA;have aO:Ie k (t+1) (W ai (L wc) ah) wc:=f.d.ef Hc H (by have c:=f.hM;have r:=f.hP;omega);have b5:z.heap.size<(z.alloc (AW #[S x.1,V C (x.2:Int)] 131)).heap.size:=O2;have aN:Ri k (x,W U (L g) O,g,Z Y aa,y,ag):=⟨(ao.ef EK D O1).low (Ai _),aD⟩;have aM:DG z.heap.size k (Lu (x,W U (L g) O,g,Z Y aa,y,ag)):=by
  have bi:=Sk ao;have b2:=D.size;have b6:=B.size;refine⟨AY.2 ⟨N7 _,aq.1,λaR ba b hb u=>?_⟩,λb hb=>?_⟩
  ·have c:=bi aR ba;have r:=aq.2 b hb;omega
  ·rcases Ag.1 hb with c|c
   ·grind
   ·have:=aq.2 b c;omega
 go_cut [] (λaI=>∃a0,O9 (CP l s i q aI t p (h++[x]) we (wc++[(x,W U (L g) O,g,Z Y aa,y,ag)]) aG am e a0))
 case first=>
  go_region_law
   (first
   |(refine step_append_lies _ rfl (.tmp 37) (.tmp 42) 43 rfl 0 144 bk _ 4 64 underlying43 be bb bc bd rfl O1 (W ai (L wc) ah) (L wc) (wc.flatMap Ml) Od (aO.own.alloc _) ⟨k.heap.size,0,N⟩ 1 1 [S x.1,V C (x.2:Int),W U (L g) O,Z Y aa] Od rfl (by have o:=A5 (AM k (AW #[S x.1,V C (x.2:Int),W U (L g) O,Z Y aa] 144));simpa using o) (by intro bI aC;simp at aC;rcases aC with rfl|rfl|rfl|rfl<;>rfl) O1 O8 O1 (Ai _) _ rfl ?_;intro b0 bt bK a9 ap a5 a8;have aL:=O0 (f.eB (x:=(x,W U (L g) O,g,Z Y aa,y,ag)) H bg aZ aN aM (by first|exact af _|exact GW (af _)) ap a5 a8 a9);obtain⟨bu,bw,bx,a1⟩:=V3.d8 az (by first|exact af _|exact GW (af _)) ap aK;have bz:=a1 2;clear a1 a9 ap a5 a8))
  all_goals
   go_wp2_with fail
   go_meet
   exact⟨_,aL⟩
 case rest=>
  rename Q=>aI
  obtain⟨a0,K⟩:=hcut;have aQ:=KY BO (av.o.ef K.o.ef) K.o.ps K.o.hq nofun;go_wp2_with (first
   |(go_at_call 44;refine aQ.mono ?_;intro u w5 a;rcases h4:BS i BO aG with⟨ac,au⟩|⟨⟨⟩,bH⟩;(·obtain⟨rfl,aj⟩:=a.bY h4;clear a;go_wp2;go_ret;exact⟨K.o.ef.trans aj,by rw[Hf,c,BQ,r,BQ,h3,BQ,h4,DR];exact⟨rfl,K.o.dQ.ef aj ae⟩⟩);obtain⟨rfl,aj,bh,a4⟩:=a.isOk h4;have ay:=K.o.move aj bh a4;clear a a4))
  go_ret;exact⟨ay.ef,by rw[Hf,c,BQ,r,BQ,h3,BQ,h4,BQ];exact⟨rfl,_,_,_,_,_,ay⟩⟩
def Kp:Oy:=⟨#[105,109,112,111,114,116]⟩
def GA:Oy:=⟨#[100,101,102]⟩
def ND:Oy:=⟨#[109,111,100,117,108,101]⟩
theorem Zb:Kp.toList=[105,109,112,111,114,116]:=by rw[Axe];rfl
def pG(a:Oy)(e:Bs)(f:Bool)(b:Nat):Pr (IT ⊕ ((Oy×Nat)×Bs×Ex)):=
 if Bq a b=Kp/\f=true then pb (Lh a e (BC a b)) λd c=>.ok (.inl d,c) else pb (BS a GA b) λ_ g=>pb (Hf a e g) λd c=>.ok (.inr d,c)
def Kr(e m:Nat)(p:Oy)(s:Nat->Addr)(k:Q)(d:Nat)(j:X)(l:Bs)(o:List IT)(n:List DT)(r:Pr (IT ⊕ ((Oy×Nat)×Bs×Ex)))(g:Ending)(b:Q):Prop:=EF e k b/\match r with
 |P (c,a)=>g=F (Fu s (Cq c) a)/\KC b d j
 |.ok (.inl x,q)=>g=F .nilIface/\∃h i f,CP e m p k b d j (l++[x.1]) (o++[x]) n q h i f
 |.ok (.inr (x,ns,y),q)=>g=F .nilIface/\∃h i f u v t,CP e m p k b d j (l++[x]) o (n++[(x,u,ns,v,y,t)]) q h i f
variable{x4:Pr (IT ⊕ ((Oy×Nat)×Bs×Ex))}
theorem Kr.one{f:Q}(d:Kr w s m M n b p h we wc x4 n2 f):∃e,n2=F e:=by
 match x4,d with
 |P (c,a),d=>exact⟨_,d.2.1⟩
 |.ok (.inl x,q),d=>exact⟨_,d.2.1⟩
 |.ok (.inr (x,ns,y),q),d=>exact⟨_,d.2.1⟩
theorem Atj{f:Oy}{aj:X}(a1:f.size<=2000)(aC:LA n w s M f)(ax:(L h)<=2000)(aD:(L we)<=2000)(aB:(L wc)<=2000)(aw:PB n q w M)(x:CP w s f q Y b p h we wc j aj e G):
 Az Aa 48 #[J (I ⟨w,0,N⟩),J (I ⟨b,0,N⟩)] Y λi z=>Kr w s f M q b p h we wc (pG f h (decide (L wc=0)) j) i z:=by
 have aa:=x.hq;have ag:=Hn x.ps aa;have ad:=O0 aw;have l:=O0 x;have aK:=Iz;have aE:b≠w:=by
  have t:=x.hM;have U:=x.hP;omega
 obtain⟨av,au,rfl⟩:=x.d.slice;clear aw x;by_cases B:Bq f j=Kp/\L wc=0
 ·have a6:O9 (Bq f j≠⟨#[]⟩):=by show _≠_;rw[B.1];decide
  have O:=IU Zb B.1;have a2:((L wc:Int)==0)=true:=by rw[B.2];rfl
  have ae:∀r,CP w s f q r b p h we wc (BC f j) aj e (W av (L wc) au)->Az Aa 86 #[J (I ⟨w,0,N⟩),J (I ⟨b,0,N⟩)] r λi z=>Kr w s f M q b p h we wc (pG f h (decide (L wc=0)) j) i z:=by
   intro r U;refine(Apc a1 ax aD ad.o U).mono λi z g=>?_;have aF:pG f h (decide (L wc=0)) j=pb (Lh f h (BC f j)) λK H=>.ok (.inl K,H):=by
    unfold pG;grind
   rw[aF];match hx:Lh f h (BC f j) with
   |P (c,a)=>rw[hx]at g;exact g
   |.ok (K,H)=>
    rw[hx]at g;obtain⟨al,am,ak,aH,an⟩:=g;exact⟨al,am,ak,aH,_,an⟩
  clear B;go_enter func48,ntmps48;go_wp2_with (first
   |(go_at_call 46;refine ag.mono ?_;rintro i ac ⟨rfl,k⟩;have u:=O0 k;obtain⟨a3,a4,a5,D⟩:=l.o.m.bG k;clear k D)
   |(go_at_call 47;refine(JF (l.o.ps.below u.o) aa).mono ?_;rintro i r ⟨rfl,v,ay⟩;have af:=l.o.move ((EF.bW (E:=w) u.o).trans v) (Dr aa) (ay a6.o);clear v ay)
   |(go_at_call 86;refine(ae _ af).mono ?_;intro i aJ g;have ah:=O0 g;obtain⟨ao,rfl⟩:=g.one;clear g))
  go_ret;exact ah.o
 ·have aq:pG f h (decide (L wc=0)) j=pb (BS f GA j) λ_ ab=>pb (Hf f h ab) λK H=>.ok (.inr K,H):=by
   show _=_;unfold pG;grind
  have a0:((Bq f j).toList==[105,109,112,111,114,116])=false\/(((Bq f j).toList==[105,109,112,111,114,116])=true/\((L wc:Int)==0)=false):=by
   by_cases t:Bq f j=Kp
   ·grind
   ·exact Be (IA Zb t)
  have ar:=λac (hb:Ow Y ac)=>KY GA (ad.o.ef (l.o.ef.trans (EF.bW hb))) (l.o.ps.below hb) aa nofun;clear B;match t:BS f GA j with
  |P (c,a)=>
   have a7:pG f h (decide (L wc=0)) j=P (c,a):=by show _=_;rw[aq,t,DR]
   have ai:=O0 t;clear t;rcases a0 with O|⟨O,a2⟩;all_goals
    go_enter func48,ntmps48;go_wp2_with (first
     |(go_at_call 46;refine ag.mono ?_;rintro i ac ⟨rfl,k⟩;have u:=O0 k;obtain⟨a3,a4,a5,D⟩:=l.o.m.bG k;clear k D)
     |(go_at_call 44;refine(ar _ u.o).mono ?_;rintro i r g;obtain⟨rfl,v⟩:=g.bY ai.o;have ap:=(EF.bW (E:=w) u.o).trans v;clear g v))
    go_ret;exact⟨l.o.ef.trans ap,by rw[a7];exact⟨rfl,l.o.dQ.ef ap aE⟩⟩
  |.ok ((),ab)=>
   have ai:=O0 t;have ae:∀r,CP w s f q r b p h we wc ab aj e (W av (L wc) au)->Az Aa 87 #[J (I ⟨w,0,N⟩),J (I ⟨b,0,N⟩)] r λi z=>Kr w s f M q b p h we wc (pG f h (decide (L wc=0)) j) i z:=by
    intro r U;refine(Akw a1 aC ax aB ad.o U).mono λi z g=>?_;rw[aq,t,BQ];match hx:Hf f h ab with
    |P (c,a)=>rw[hx]at g;exact g
    |.ok ((K,ns,y),H)=>
     rw[hx]at g;obtain⟨al,am,ak,a9,aI,ao,a8,an⟩:=g;exact⟨al,am,ak,_,a9,aI,ao,a8,an⟩
   clear t;rcases a0 with O|⟨O,a2⟩;all_goals
    go_enter func48,ntmps48;go_wp2_with (first
     |(go_at_call 46;refine ag.mono ?_;rintro i ac ⟨rfl,k⟩;have u:=O0 k;obtain⟨a3,a4,a5,D⟩:=l.o.m.bG k;clear k D)
     |(go_at_call 44;refine(ar _ u.o).mono ?_;rintro i r g;obtain⟨rfl,v,aG,az⟩:=g.isOk ai.o;have af:=l.o.move ((EF.bW (E:=w) u.o).trans v) aG az;clear g v az)
     |(go_at_call 87;refine(ae _ af).mono ?_;intro i aJ g;have ah:=O0 g;obtain⟨ao,rfl⟩:=g.one;clear g))
    go_ret;exact ah.o
theorem Ui(a:Pr wa)(c:wa->Nat->Pr n3)(d:n3->Nat->Pr y3):pb (pb a c) d=pb a λb f=>pb (c b f) d:=by
 match a with
 |P e=>rfl
 |.ok (b,f)=>rfl
abbrev MK(a:BT):Nat×Bs×Ex:=(a.1,a.2.2.1,a.2.2.2.2.1)
def JK(b:Oy)(d:Nat->Pr Ex)(a:List (Nat×Bs×Ex))(c:Nat):Pr (List (Nat×Bs×Ex)):=if a≠[]/\Bq b c=BO then .ok (a,BF b c) else Fm b d (b.size+1-L a) a c
theorem Ar2(a:sa≠[]/\Bq m w=BO):JK m vg sa w=.ok (sa,BF m w):=by unfold JK;rw[if_pos a]
theorem Abt(a:List (Nat×Bs×Ex))(b:Nat):(a.any (λc=>decide (c.1=b))=true)↔b∈a.map (·.1):=by
 simp
theorem Ah7(g:(L sa)<=m.size)(d:¬(sa≠[]/\Bq m w=BO)):JK m vg sa w=pb (GF m vg (sa.map (·.1)) w) λb c=>JK m vg (sa++[b]) c:=by
 unfold JK;rw[if_neg d,show m.size+1-L sa=(m.size-L sa)+1 by omega,Fm];unfold GF;match BS m B8 w with
 |P e=>rfl
 |.ok ((),q1)=>
  simp only[BQ];match D8 m 255 q1 with
  |P e=>rfl
  |.ok (x,q2)=>
   simp only[BQ];by_cases a:sa.any (λb=>decide (b.1=x.1))=true
   ·rw[if_pos a,if_pos ((Abt sa x.1).1 a)];rfl
   ·rw[if_neg a,if_neg (λf=>a ((Abt sa x.1).2 f))];match FN m q2 with
    |P e=>rfl
    |.ok (ns,q3)=>
     simp only[BQ];match vg q3 with
     |P e=>rfl
     |.ok (e,q4)=>
      simp only[BQ];match BS m BO q4 with
      |P e=>rfl
      |.ok ((),c)=>
       simp only[BQ];simp
theorem Ac5(c:Oy)(a:Nat->Pr Ex)(b:Nat):G3 c a b=pb (a b) λd f=>pb (JK c a [] f) λe g=>.ok (.case d e,g):=rfl
structure Lc (e l:Nat) (h:Oy) (o:X) (p m:Nat) (k q wr:Q) (d f:Nat) (n:X) (a:List BT) (g:Nat) (j:Option Addr) (i:Nat):Prop where
 hq:g<=h.size
 ps:PS wr e l h g o p
 row:Qr (La (PX (m+1))) wr (f+1) (W j (L a) i) a
 c:V2 wr d n (W j (L a) i)
 seen:Fz wr f (a.map (·.1))
 ef:EF e k wr
 len:(L a)<=g
 hC:k.heap.size<=d
 hS:d<f
 Nn:∀b,b<d->b≠e->wr.heap[b]?=q.heap[b]?
theorem Lc.below{e f:Nat}{n:Oy}{j:X}{l h:Nat}{q s wr r:Q}{d b:Nat}{i:X}{t:List BT}{m:Nat}{p:Option Addr}{o:Nat}(a:Lc e f n j l h q s wr d b i t m p o)(hb:Ow wr r):Lc e f n j l h q s r d b i t m p o:=
 ⟨a.hq,a.ps.below hb,a.row.bG (L7 (Dp _)) hb,a.c.bG hb,a.seen.bX (hb.block b a.seen.lt),a.ef.trans (EF.bW hb),a.len,a.hC,a.hS,λg k u=>by rw[hb.block g (Nat.lt_trans k a.c.lt)];exact a.Nn g k u⟩
theorem Lc.push{k m:Nat}{t:Oy}{v:X}{w o:Nat}{u w1 wr d l:Q}{g i:Nat}{D:X}{c:List BT}{O s:Nat}{z:Option Addr}{y:Nat}{x:BT}{r:Obj}(b:Lc k m t v w o u w1 wr g i D c O z y)(al:k<u.heap.size)(am:m<u.heap.size)(ah:O+1<=s/\s<=t.size)(e:Dn k i wr d)(ab:PS d k m t s v w)(ai:Fz d i (c.map (·.1)++[x.1]))(aj:La (PX (o+1)) d x)(q:DG wr.heap.size d (NR x))(j:(d.alloc r).grownBy l (W z (L c) y).ownBlock){h n:Nat}(ad:(W z (L c) y).ownBlock=I h\/h=(d.alloc r).heap.size)(ae:h<l.heap.size)(ag:l.ownsRow 0 297 3 (W (I ⟨h,0,N⟩) (L c+1) n) (L c+1) (c.flatMap Li++Li x)):
 Lc k m t v w o u w1 (l.setCell ⟨g,1,N⟩ (W (I ⟨h,0,N⟩) (L c+1) n)) g i D (c++[x]) s (I ⟨h,0,N⟩) n:=by
 have H:(c++[x]).length=L c+1:=O2;have ao:=λa hb=>(b.row.rg a (Ad _ (Ca.2 hb))).1;have Y:=b.hS;have E:=b.hC;have aa:=Am b.c.lt e.size;have ac:=Am b.seen.lt e.size;have an:=b.len;have hb:Ow d (d.alloc r):=bA;have ak:=L7 (Dp _) _ _ _ aj hb.size λa f=>hb.block a (q.2 a f).2;have M:Qr (La (PX (o+1))) l (i+1) (W (I ⟨h,0,N⟩) (L c+1) n) (c++[x]):=by
  refine b.row.push (L7 (Dp _)) (by have:=b.seen.lt;omega) (λa f=>?_) (Ay e.size hb.size) ak (λa f=>⟨(q.2 a f).1,Am (q.2 a f).2 hb.size⟩) q.1 j rfl ad ae ag;have p:=b.row.rg a f;rw[Axo d r (Am p.2 e.size)];exact e.block a p.2 O1 O1
 refine⟨ah.2,?_,?_,?_,?_,?_,O1,E,Y,λa f K=>?_⟩
 ·refine(ab.push (λa hb=>⟨O6,O6⟩) j).cM O1 O1
 ·rw[H];refine M.fr (L7 (Dp _)) O2 (WT (Fr.refl _ _) λaf=>?_);have:=(M.rg g af).1;omega
 ·rw[H];have p:=b.c.bX (e.block g b.c.lt O1 O1);have U:=p.bX (LR j aa (λB=>O6));exact U.cG _
 ·rw[AC];refine ai.bX ?_;rw[AA _ _ _ _ (show i≠g by omega)];exact LR j ac (λB=>O6)
 ·exact JZ (Uv (e.ef b.ef O1) (λa hb=>O6) j) E
 ·have G:=Nat.lt_trans f b.c.lt;rw[AA _ _ _ _ (show a≠g by omega),LR j (Am G e.size) (λB=>O6),e.block a G K O1];exact b.Nn a f K
theorem Aeu:(Aa.info? 297).map (λa=>(a.zero,a.size,a.bytes))=I (I (T #[V C 0,W N 0 0,.nilIface]),3,48):=O3
theorem Aqa{g:Nat×Bs×Ex}(n:s<=m.size)(a:GF m (pE m w) t s=.ok (g,b)):s+1<=b/\b<=m.size:=by
 let ⟨v,c,h,a⟩:=Bp a
 have o:=Cl O4 s n v c h;let ⟨x,d,i,a⟩:=Bp a
 have p:=Ic c o.2 x d i;split at a
 ·cases a
 ·let ⟨y,e,j,a⟩:=Bp a
  have q:=LJ d p.2 y e j;let ⟨z,f,k,a⟩:=Bp a
  have r:=I9 m w e q.2 z f k;let ⟨B,u,l,a⟩:=Bp a
  have D:=Cl O4 f r.2 B u l;cases a;omega
theorem Nj.bY(g:Nj w s m p b j M n wf t yt n2 q)(k:yt=P (n1,ns)):∃f c e d a,n2=F (R #[T #[V C f,W c e d,a],Z 85 (He M (Cq n1) ns)])/\Dn w wf n q/\MX a:=by
 subst k;let ⟨f,c,e,d,a,h,i⟩:=g.2;exact⟨f,c,e,d,a,i,g.1,h⟩
theorem Nj.isOk(e:Nj w s m p b j M n wf t yt n2 q)(i:yt=.ok ((n1,h,wo),ns)):∃a d c,n2=F (R #[T #[V C (n1:Int),a,d],.nilIface])/\Dn w wf n q/\ns<=m.size/\PS q w s m ns p b/\Fz q wf (t++[n1])/\La (PX (j+1)) q (n1,a,h,d,wo,c)/\DG n.heap.size q (vB a++c):=by
 subst i;let ⟨a,d,c,f,g⟩:=e.2;exact⟨a,d,c,f,e.1,g⟩
theorem Ajg(a:EF w n q):EF w n (q.alloc v9):=a.trans (EF.bW bA)
theorem Aum:zeroCells421=Array.replicate 256 (A false):=O3
theorem Fz.zero(a:Q):Fz (a.alloc (.cells zeroCells421 421)) a.heap.size []:=λc b=>⟨by rw[Aum];simp[b],O2⟩
theorem Ae6{l:Nat}(b1:m.size<=2000)(aD:Ho n l s M m p b j):Mc 264 n l s M m p b j (G3 m (pE m b)) #[]:=by
 intro w Y ao r bx;have af:=aD w Y ao r bx;have bm:=r.lt;have bo:=r.dy;obtain⟨b2,bu,aK⟩:=AB.1 Aeu;simp only[Aw0]at aK;obtain⟨br,bs,bt⟩:=aK;have bG:=Iz;clear r;show Az _ _ #[J (I ⟨l,0,N⟩)] _ _;go_enter func264,ntmps264;go_wp2_with (first
  |(go_at_call 137;refine af.mono ?_;intro i e t;clear af;rcases K:pE m b Y with⟨an,b5⟩|⟨x,ax⟩;(·obtain⟨ay,rfl,ab,-⟩:=t.bY K;have aZ:=O0 ab;have af:=O0 K;clear t ab K;go_wp2;go_ret2;exact Cw.bad (by rw[Ac5,af.o,DR]) aZ.o rfl (Be rfl));have ad:O9 (G3 m (pE m b) Y=pb (JK m (pE m b) [] ax) λU aa=>.ok (.case x U,aa)):=(by show _=_;rw[Ac5,K,BQ]);obtain⟨ay,rfl,ab,bz,aG,ag,aw,au⟩:=t.isOk K;obtain⟨o,q,rfl⟩:=aw.ch;have a8:=O0 aw;have a6:=O0 aG;clear t aG aw K))
 obtain⟨f,ap⟩:∃f,e.heap.size=f:=⟨_,rfl⟩;obtain⟨h,aq⟩:∃h,f+1=h:=⟨_,rfl⟩;have a0:O9 (Lc l s m p j b w e ((e.alloc (.cells #[Z o q,W N 0 0] 294)).alloc (.cells zeroCells421 421)) f h (Z o q) [] ax N 0):=by
  have hb:Ow e ((e.alloc (.cells #[Z o q,W N 0 0] 294)).alloc (.cells zeroCells421 421)):=bA.alloc O2 _;have D:Ow (e.alloc (.cells #[Z o q,W N 0 0] 294)) ((e.alloc (.cells #[Z o q,W N 0 0] 294)).alloc (.cells zeroCells421 421)):=bA;have aj:=Fz.zero (e.alloc (.cells #[Z o q,W N 0 0] 294));rw[show(e.alloc (.cells #[Z o q,W N 0 0] 294)).heap.size=e.heap.size+1 by simp]at aj;subst ap;subst aq;exact⟨bz,a6.o.below hb,Cm.nil _ _,V2.bG (w:=e.alloc (.cells #[Z o q,W N 0 0] 294)) ⟨O2,O2,O2,O2⟩ D,aj,ab.trans (EF.bW hb),Ai _,ab.size,Ayd _,λd bp _=>hb.block d bp⟩
 have ba:O9 (∀wr,e.heap.size<=wr.heap.size->(∀d,d<f->d≠l->wr.heap[d]?=e.heap[d]?)->PX (b+1) wr (Z o q,x,ag)):=by
  intro wr aj bw;refine Dp _ _ _ _ a8.o aj λd hb=>?_;have:=au.2 d hb;exact bw d O1 O1
 have bb:O9 (DG w.heap.size e ag):=au;rw[ap,aq];clear a6 a8 au;go_loopw [] (λwr=>∃(c:List BT) (k:Nat) (al:Option Addr) (ak:Nat),O9 (G3 m (pE m b) Y=pb (JK m (pE m b) (c.map MK) k) λU aa=>.ok (.case x U,aa))/\O9 (Lc l s m p j b w e wr f h (Z o q) c k al ak)) (λwr=>m.size+1-Ii wr ⟨f,1,N⟩)
 ·exact⟨[],ax,N,0,ad.o,a0.o⟩
 ·clear a0 ad;obtain⟨c,k,al,ak,ad,a⟩:=hrel;rename Q=>wr
  have ai:=a.o.hq;have bS:=a.o.len;obtain⟨c0,bM,bN,bO⟩:=id a.o.c;have aY:=O0 (ao.ef a.o.ef);have a5:=Hn a.o.ps ai;have a2:O9 ((c.map MK).length=L c):=An ..;have aE:l<f:=by have:=a.o.hC;omega
  have aB:f≠l:=Aws aE;have aC:f≠h:=Nat.ne_of_lt a.o.hS;have aF:l<h:=Nat.lt_trans aE a.o.hS;by_cases O:c.map MK≠[]/\Bq m k=BO
  ·have bf:O9 (G3 m (pE m b) Y=.ok (.case x (c.map MK),BF m k)):=by
    show _=_;rw[ad.o,Ar2 O,BQ]
   have bi:=IU JS O.2;have aT:((L c:Int)==0)=false:=by
    rw[beq_eq_false_iff_ne];have:=Axd.2 O.1;rw[a2.o]at this;omega
   clear O;go_wp2_with (first
    |(go_at_call 46;refine a5.mono ?_;rintro i am ⟨rfl,D⟩;have aW:=O0 D;obtain⟨k0,aS,b6,b7⟩:=a.o.c.bG D;clear D))
   go_ret2
   have B:=a.o.below aW.o;have aR:e.heap.size<=am.heap.size:=by have:=B.c.lt;omega
   refine Cw.ok bf.o B.ef ⟨HA ai,B.ps.BF (OB m k),ag++Dl NR (W al (L c) ak) c,?_,?_⟩
   ·exact⟨_,ag,_,c,rfl,ba.o _ aR B.Nn,B.row.low (Ai _),rfl,rfl⟩
   ·refine bb.o.b1 ⟨B.row.nd,λd hb=>⟨?_,(B.row.rg d hb).2⟩⟩ ab.size aR;have:=(B.row.rg d hb).1;omega
  ·have a1:O9 (G3 m (pE m b) Y=pb (GF m (pE m b) (c.map (·.1)) k) λd bC=>pb (JK m (pE m b) (c.map MK++[d]) bC) λU aa=>.ok (.case x U,aa)):=by
    show _=_;rw[ad.o,Ah7 (by rw[a2.o];omega) O,A4];show pb (pb (GF m (pE m b) (c.map (·.1)) k) _) _=_;rw[Ui]
   have bl:n.heap.size<=h:=by
    have K:=ao.b.size;have bj:=a.o.hC;have bk:=a.o.hS;omega
   have bn:h≠s:=by
    have bj:=a.o.hC;have bk:=a.o.hS;omega
   have aX:=λam (hb:Ow wr am)=>Ao1 b1 aD (aY.o.ef (EF.bW hb)) (a.o.ps.below hb) ai (a.o.seen.bX (hb.block h a.o.seen.lt)) (Aws aF) bn bl;have aJ:((L c:Int)==0)=true\/(((L c:Int)==0)=false/\((Bq m k).toList==[41])=false):=by
    by_cases av:c=[]
    ·exact Be (by rw[av];rfl)
    ·refine Axf ⟨?_,IA JS λr=>O ⟨λi=>av (Axr.1 i),r⟩⟩;rw[beq_eq_false_iff_ne];have:=Axd.2 av;omega
   clear O ap aq;have ac:=O0 (Ae wr.heap.size wr);have aO:((L c:Int)==0)=false->((Bq m k).toList==[41])=false:=λr=>aJ.elim (λi=>by rw[i]at r;cases r) λi=>i.2;clear aJ;cases aT:((L c:Int)==0);all_goals
    try have bi:=aO aT
    clear aO;go_wp2_with (first
     |(go_at_call 46;refine a5.mono ?_;rintro i am ⟨rfl,D⟩;replace ac:=O0 D;clear D)
     |(go_at_call 282;refine(aX _ ac.o).mono ?_;intro i H t;rcases hbd:GF m (pE m b) (c.map (·.1)) k with⟨an,b5⟩|⟨⟨u,g,az⟩,aV⟩;(·obtain⟨bK,bJ,bI,bH,bv,rfl,ae,bq⟩:=t.bY hbd;have z:=O0 ae;clear t ae;(rcases bq with rfl|⟨v,y,rfl⟩<;>(go_wp2;go_ret2;exact Cw.bad (by rw[a1.o,hbd,DR]) (Ajg ((Dn.ef z.o (a.o.ef.trans (EF.bW ac.o)) (Ay a.o.hC (Azp a.o.hS))))) rfl (Be rfl))));have bg:O9 (G3 m (pE m b) Y=pb (JK m (pE m b) (c.map MK++[(u,g,az)]) aV) λU aa=>.ok (.case x U,aa)):=(by show _=_;rw[a1.o,hbd,BQ]);have b0:=Aqa ai hbd;obtain⟨b9,ay,a9,rfl,ae,bT,aH,aP,ah,aM⟩:=t.isOk hbd;obtain⟨G,E,rfl⟩:∃bh an,b9=W bh (L g) an:=ah.1.slice;obtain⟨v,y,rfl⟩:∃bD bE,ay=Z bD bE:=ah.2.ch;have z:O9 (Dn l h wr H):=(Dn.cF (EF.bW ac.o)).trans ae;have be:=O0 aH;have a7:=O0 aP;have bc:=O0 ah;have a3:=O0 (aM.low ac.o.size);obtain⟨k0,aS,b6,b7⟩:=a.o.c.bX (z.o.block f a.o.c.lt aB aC);have ca:=λbB=>BM H bB _ _ _ aS;have bd:=a.o.row.fr (L7 (Dp _)) z.o.size λd hb=>z.o.block d (a.o.row.rg d hb).2 (Aws (Am (Azr aF) (a.o.row.rg d hb).1)) (Aws (Am (Ayd h) (a.o.row.rg d hb).1));obtain⟨cd,ce,cf,b8⟩:=(show V3 (H.alloc (.cells #[V C (u:Int),W G (L g) E,Z v y] 297)) H.heap.size (V C (u:Int)) (W G (L g) E) (Z v y) from⟨O2,O2,O2,λbU=>O2⟩);clear t ae aH aP ah aM b8)
     |(at_builtin;refine wpList_append_lies _ rfl (.tmp 39) (.tmp 41) 292 rfl 0 297 b2 _ 3 48 underlying292 bu br bs bt rfl O1 (W al (L c) ak) (L c) (c.flatMap Li) rfl ((bd.own.alloc _).alloc _) ⟨H.heap.size+1,0,N⟩ 1 1 [V C (u:Int),W G (L g) E,Z v y] rfl rfl (by simpa using A5 (AM (H.alloc (AW #[V C (u:Int),W G (L g) E,Z v y] 297)) (AW #[V C (u:Int),W G (L g) E,Z v y] 297))) (by intro ch aQ;simp at aQ;rcases aQ with rfl|rfl|rfl<;>rfl) O1 O8 O1 (Ai _) _ rfl ?_;intro bP bZ ci aN ar aI aL;have a4:=a.o.push (x:=(u,W G (L g) E,g,Z v y,az,a9)) bm bo b0 (z.o.trans (Dn.cF (EF.bW bA))) (be.o.below bA) (a7.o.bX (Axo _ _ a7.o.lt)) (L7 (Dp _) _ _ _ bc.o O2 λd hb=>Axo _ _ (a3.o.2 d hb).2) (a3.o.up O2) ar aI aL aN;obtain⟨bV,bW,bX,bY⟩:=((a.o.c.bX (z.o.block f a.o.c.lt aB aC)).bG ((Ae H.heap.size H).alloc (Ac _) (AW #[V C (u:Int),W G (L g) E,Z v y] 297))).bX (LR ar (by simp;exact Azr (Am a.o.c.lt z.o.size)) (λi=>by have:=(a.o.row.rg f (Ad _ (Ca.2 i))).1;have bQ:=a.o.hS;omega));clear aN ar aI aL))
    refine⟨⟨c++[(u,W G (L g) E,g,Z v y,az,a9)],aV,_,_,by show _=_;rw[bg.o,AC];rfl,(O0 a4)⟩,?_⟩;rw[NA a4.c,NA a.o.c];simp[KE];omega
theorem WD{ab:Q}(e:Bool)(aK:Ho ab w s M m p b j)(aJ:Qo ab w s M m p b j):Mc 262 ab w s M m p b j (EN m (pE m b) e) #[A e]:=by
 intro o z af r aP;have ah:=r.lt;have aM:=r.dy;have be:=Iz;obtain⟨a9,ai⟩:∃aZ,aZ=AW #[A e,W N 0 0,W N 0 0,.nilIface] 290:=⟨_,rfl⟩;have x:O9 (Ow o (o.alloc a9)):=bA;have ad:O9 (V4 (o.alloc a9) o.heap.size (A e) (W N 0 0) (W N 0 0) .nilIface):=by
  subst ai;exact⟨O2,O2,O2,O2,λbn=>O2⟩
 have ae:=O0 (P7 B8 (o.heap.size+1) O2 (af.ef (EF.bW x.o)) (r.below x.o) aP O4);rw[ai]at ae x ad;clear ai;show Az _ _ #[J (I ⟨w,0,N⟩),A e] _ _;go_enter func262,ntmps262;go_wp2_with (first
  |(go_at_call 44;refine ae.o.mono ?_;intro k bc g;clear ae;rcases h1:BS m B8 z with⟨ay,a6⟩|⟨⟨⟩,am⟩;(·obtain⟨rfl,D⟩:=g.bY h1;clear g;go_wp2;go_ret2;exact Cw.bad (by rw[Adl,h1,DR]) ((EF.bW x.o).trans D) rfl (Be rfl));have B:O9 (EN m (pE m b) e z=pb (Kd m (pE m b) [] [] am) λa u=>pb (BS m BO u) λ_ v=>pb (pE m b v) λi f=>.ok (.lets e a.1 a.2 i,f)):=(by show _=_;rw[Adl,h1,BQ]);obtain⟨rfl,D,aQ,a2⟩:=g.isOk h1;clear g))
 obtain⟨q,Y⟩:∃q,o.heap.size=q:=⟨_,rfl⟩;have av:O9 (Dk w s m p j b o bc q e [] [] am (W N 0 0) (W N 0 0)):=by
  subst Y;exact⟨aQ,a2,ad.o.ef D (Aws ah),Cm.nil _ _,Cm.nil _ _,(λi hb=>by simp[KX]at hb),(EF.bW x.o).trans D,Ac _,Ai _,rfl⟩
 rw[Y];clear a2 ad;go_loopw [] (λwr=>∃(d:Bs) (t:List PT) (h:Nat) (a8 a0:X),O9 (EN m (pE m b) e z=pb (Kd m (pE m b) d (t.map (λa:PT=>a.2.1)) h) λa u=>pb (BS m BO u) λ_ v=>pb (pE m b v) λi f=>.ok (.lets e a.1 a.2 i,f))/\O9 (Dk w s m p j b o wr q e d t h a8 a0)) (λwr=>m.size+1-Ii wr ⟨q,1,N⟩)
 ·exact⟨[],[],am,_,_,B.o,av.o⟩
 ·clear av B D x;obtain⟨d,t,h,a8,a0,B,c⟩:=hrel;rename Q=>wr
  have aj:=c.o.hq;have bm:=c.o.len;have aN:(L d)<=m.size:=by rw[c.o.same];omega
  obtain⟨bq,bo,rfl⟩:=c.o.n.slice;obtain⟨bl,bk,rfl⟩:=c.o.e.slice;obtain⟨c0,bf,bg,bh,az⟩:=id c.o.v;have bi:=az 1;clear az;have aw:=O0 (Hn c.o.ps aj);have ac:q≠w:=by show q≠w;omega
  have aC:=O0 (af.ef c.o.ef);clear Y;by_cases l:d≠[]/\Bq m h=BO
  ·have aG:=IU JS l.2;have a7:((L d:Int)==0)=false:=by
    rw[beq_eq_false_iff_ne];have:=Axd.2 l.1;omega
   have aD:O9 (Bq m h≠⟨#[]⟩):=by show _≠_;rw[l.2];decide
   have ax:EN m (pE m b) e z=pb (pE m b (BC m h)) λi f=>.ok (.lets e d (t.map (λa:PT=>a.2.1)) i,f):=by
    show _=_;rw[B.o,Aic l,BQ,Tq (by rw[Lr];exact l.2),BQ,KI]
   have aO:=Dr aj;clear l;go_wp2_with (first
    |(go_at_call 46;refine aw.o.mono ?_;rintro k aa ⟨rfl,H⟩;have ap:=O0 H;clear H)
    |(go_at_call 47;refine(JF (c.o.ps.below ap.o) aj).mono ?_;rintro k bd ⟨rfl,U,a1⟩;have O:=O0 ((EF.bW (E:=w) ap.o).trans U);have aE:=O0 (a1 aD.o);clear U a1)
    |(go_at_call 137;refine(aK _ _ (aC.o.ef O.o) aE.o aO).mono ?_;intro k bs g;rcases hb:pE m b (BC m h) with⟨ay,a6⟩|⟨ao,f⟩;(·obtain⟨an,rfl,G,aS⟩:=g.bY hb;have y:=O0 (O.o.trans G);obtain⟨k0,aT,aV,aW,K⟩:=c.o.v.ef y.o ac;have aX:=K 3;clear g G K;(rcases aS with rfl|⟨ba,bb,rfl⟩<;>(go_wp2;go_ret2;exact Cw.bad (by rw[ax,hb,DR]) (JZ (c.o.ef.trans y.o) c.o.hL) rfl (Axf ⟨_,_,rfl⟩))));obtain⟨an,rfl,G,aR,aL,bj,al,a4⟩:=g.isOk hb;obtain⟨ba,bb,rfl⟩:=al.ch;have y:=O0 (O.o.trans G);obtain⟨k0,aT,aV,aW,K⟩:=c.o.v.ef y.o ac;have aX:=K 3;have ar:=O0 (c.o.fin ah y.o al (a4.low O.o.size));clear g G K al a4))
   go_ret2
   have Y:=c.o.hL;exact Cw.ok (by rw[ax,hb,BQ]) (JZ (c.o.ef.trans y.o) c.o.hL) ⟨aR,aL.cM ac O1,_,ar.o.1,ar.o.2⟩
  ·have au:EN m (pE m b) e z=pb (IF m (pE m b) d h) λa f=>pb (Kd m (pE m b) (d++[a.1]) (t.map (λa:PT=>a.2.1)++[a.2]) f) λa u=>pb (BS m BO u) λ_ v=>pb (pE m b v) λi f=>.ok (.lets e a.1 a.2 i,f):=by
    show _=_;rw[B.o,Ats aN l];match IF m (pE m b) d h with
    |P k=>rfl
    |.ok (a,f)=>rfl
   have aB:=O0 (λaa (hb:Ow wr aa)=>aJ o aa q e d t h _ _ af ah aM (c.o.below hb));have a3:((L d:Int)==0)=true\/(((L d:Int)==0)=false/\((Bq m h).toList==[41])=false):=by
    by_cases ak:d=[]
    ·exact Be (by rw[ak];rfl)
    ·refine Axf ⟨?_,IA JS λr=>l ⟨ak,r⟩⟩;rw[beq_eq_false_iff_ne];have:=Axd.2 ak;omega
   clear l;have aq:=O0 (Ae wr.heap.size wr);have a5:((L d:Int)==0)=false->((Bq m h).toList==[41])=false:=λr=>a3.elim (λk=>by rw[k]at r;cases r) λk=>k.2;clear a3;cases a7:((L d:Int)==0);all_goals
    try have aG:=a5 a7
    clear a5;go_wp2_with (first
     |(go_at_call 46;refine aw.o.mono ?_;rintro k aa ⟨rfl,H⟩;replace aq:=O0 H;clear H)
     |(go_at_call 281;refine(aB.o _ aq.o).mono ?_;intro k bd g;rcases hbd:IF m (pE m b) d h with⟨ay,a6⟩|⟨⟨a,ao⟩,f⟩;(·obtain⟨rfl,U⟩:=g.bY hbd;clear g;go_wp2;go_ret2;exact Cw.bad (by rw[au,hbd,DR]) U rfl (Be rfl));have aF:O9 (EN m (pE m b) e z=pb (Kd m (pE m b) (d++[a]) (t.map (λa:PT=>a.2.1)++[ao]) f) λa u=>pb (BS m BO u) λ_ v=>pb (pE m b v) λi f=>.ok (.lets e a.1 a.2 i,f)):=(by show _=_;rw[au,hbd,BQ]);obtain⟨rfl,an,aH,aY,aI,ag⟩:=g.isOk hbd;clear g))
    refine⟨⟨d++[a],t++[(an,ao,aH)],f,aY,aI,by show _=_;rw[aF.o,AC];rfl,(O0 ag)⟩,?_⟩;obtain⟨br,bp,rfl⟩:=ag.n.slice;rw[Wp ag.v,Wp c.o.v];simp[KE];omega
end Go.Proofs.YtpkbnogifdlcmaaGreatDoor
