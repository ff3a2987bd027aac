import Derived.Test.YtnghccjoicmabaaGreatDoorYgJ
import Derived.Test.YtnghccjoicmabaaGreatDoorYkJ
set_option maxRecDepth 100000
set_option maxHeartbeats 16000000
open Except renaming error->P
open Go renaming Calls->Adg,TypeId->Ad5,Value->X,World->Q,below_drewN->Aeu,maxLen->Aed
open Go.Act renaming eval->Aef
open Go.ByteArray renaming toList_eq->Adw
open Go.Ending renaming returned->F
open Go.IntKind renaming i64->C
open Go.Proofs.Tryz renaming prog->Acs
open Go.RowKit renaming wrap64->Aer
open Go.Value renaming agg->T,bool->A,iface->Z,int->V,pointer->J,slice->W,string->S,tuple->R
namespace Go.Proofs.YtnghccjoicmabaaGreatDoor
open Go.RowKit Go.Sort
variable{n p h:World}{w v b d:Nat}{nn:TT->Prop}{y wy:List ByteArray}{nr:List Dd}{m q j f wv vc:Value}{wa:List As}{ws:List TT}{L:Option Addr}{D:List DT}{s wn:ByteArray}{vj:ByteArray×List IT×List DD}{o:Nat->Addr}{we w7 nk:Int}{wo:ByteArray->Bool}{t wg w9:List Nat}{r ny:KS}{wm xi:List Int}{w2:Bool}{np:List (ByteArray×Int)}{N sm:Ex}{xw:Ex×Av}{w8:List G7}{wz xg:List Bp}{n4 si:Bp}{v6:List B3}{n2:B3}{n6:Dd}{G:List IT}{vh:List DD}{n5:KU}{wd:Type}{ni:List GG}{wb:List Value}{wx:Es}{wk:J8}{wf:DR}{H:Dn}
def tk(a:DT):Dd:=(a.1.1,a.2.2.1.map (·.1),a.2.2.2.2.1)
def u0(b:List (ByteArray×Int))(a:List DT):KU:=⟨b.map (·.1)++a.map (·.1.1),a.map tk,[],b.length+a.length⟩
def Ha(a:GG):CH:=⟨a.nm,a.ar,a.ex,a.cs.map (·.1)⟩
structure Yh (k:Nat) (i:List IT) (g:List DT) (l:Q) (j h:X) (c:List (ByteArray×Int)) (d:KU) (e:List ByteArray) (f:List GG):Prop where
 lp:c.Perm (i.map ia)
 ls:c.Pairwise λa b=>CJ a.1 b.1<=0
 r:∃N,Ka N (u0 c g)/\EP N (u0 c g)=d
 sp:e.Perm (d.kn.drop c.length)
 ss:e.Pairwise λa b=>a.data.toList<=b.data.toList
 gp:(f.map Ha).Perm d.gs
 gz:f.Pairwise λa b=>CJ a.nm b.nm<=0
 s:Sp k l (gA h (f.map (HX d.kn (d.kn.take c.length++e)))::(gL (f.map (HX d.kn (d.kn.take c.length++e)))++[pA 55 2 j c.length (c.flatMap KN)]))
theorem US.start{G:TT->Prop}(b:V3 n v (W none 0 0) (W none 0 0) (W none 0 0))(g:w<=v):US n w v G [] [] 0 (W none 0 0) [] n [] (W none 0 0) (W none 0 0):=by
 have h:v<n.heap.size:=Adt b.c0;refine⟨⟨by omega,λf a=>?_,by simp[fp,EM],λe d=>?_⟩,Acv _ _,rfl,(λ_ c=>by cases c),Acu _,Acu _⟩
 ·simp[uL,or_false]at a;rcases a with rfl|rfl|rfl
  ·exact b
  ·exact Ad1 _ _ _ _
  ·exact .inl (Ad1 _ _ _ _)
 ·obtain rfl:e=v:=by simpa[fp,EM]using d
  omega
theorem US.gM(a:US n w v nn y nr b (W none 0 0) wa p ws m q):US n w v nn y nr b (W none 0 0) (gA (W none 0 0) []::(gL []++wa)) p ws m q:=
 a.by (a.s.dv.OT (λf=>.refl) λc e=>by
  by_cases d:c=gA (W none 0 0) []
  ·subst d;exact Ad1 _ _ _ _
  ·refine a.s.h c ?_;simp[uL,gL]at e ⊢;grind)
theorem US.add{t:ByteArray}{pl:List ByteArray}{bt:Ad5}{bx:X}{be:Ex}{bb:List Nat}(a:US n w v nn y nr b m wa p ws q j)(G:b<8000000000)(e:GL 9 1 p h (W L pl.length d) pl.length (pl.flatMap Br))(x:nn (t,(W L pl.length d,pl),(Z bt bx,be,bb))):
 Adg Acs 32 #[J (some ⟨v,0,none⟩),T #[S t,W L pl.length d,Z bt bx]] h λr o=>r=F (R #[])/\AF (fp (uL v y ws q j m wa)) p o/\∃E k l,US n w v nn (y++[t]) (nr++[(t,pl,be)]) (b+1) m wa o E k l:=by
 have s:=a.cJ e.b;have z:=congrArg List.length a.t;rw[Adf]at z;have H:=a.z;refine(OI (pl:=pl) (be:=be) (bb:=bb) s.s (by omega) (by omega)).mono ?_;rintro r o ⟨rfl,k,l,f⟩;refine⟨rfl,(AF.cI e.b).trans f.af λg i=>.inl i,_,k,l,s.to f (by rw[Adq,a.t];rfl) (λI c=>?_) (by simp;omega)⟩;rcases Acz.1 c with c|c
 ·exact .inl c
 ·obtain rfl:=Ac9.1 c;have D:P3 h (fp (uL v y ws q j m wa)) (t,(W L pl.length d,pl),(Z bt bx,be,bb)):=⟨e.own,λg i=>by
   have u:=e.s.rg g (F9 (A:=pA 9 1 (W L pl.length d) pl.length (pl.flatMap Br)) (by simp) i);exact⟨u.2,λB=>by have:=(a.s.rg g B).2;omega⟩⟩
  exact .inr ⟨x,D.step f.af f.nb⟩
theorem Sp.low(a:Sp w n wa)(c:v<=w):Sp v n wa:=⟨Ac5 c a.z,a.h,a.nd,λd b=>⟨Ac5 c (a.rg d b).1,(a.rg d b).2⟩⟩
abbrev HN(d:Q)(a:Nat)(u0 b c:X):Q:=((d.setCell ⟨a,0,none⟩ u0).setCell ⟨a,1,none⟩ b).setCell ⟨a,2,none⟩ c
theorem Ng(a:v≠w)(u0 b c:X):(HN n w u0 b c).heap[v]?=n.heap[v]?:=by
 rw[Ac4 _ _ _ _ a,Ac4 _ _ _ _ a,Ac4 _ _ _ _ a]
theorem Hb(e:n.cell? ⟨v,b,none⟩=some m)(f:v≠w)(u0 c d:X):(HN n w u0 c d).cell? ⟨v,b,none⟩=some m:=(Ac1 (a:=⟨v,b,none⟩) (Ng f u0 c d)).trans e
theorem Oc{a:KU}(c:a.td=[]):∀b,EP b a=a
 |0=>rfl
 |b+1=>by rw[EP,show FH a=a by unfold FH;rw[c]];exact Oc c b
structure TdI (d:Q) (c:Nat) (h:List As) (i:KU) (g:Nat) (wr:Q) (a:KU) (b:List GG) (j:List TT) (e f k:X):Prop where
 ro:Ka g a
 rn:EP g a=i
 ge:b.map Ha=a.gs
 us:US d c c (G0 d c) a.kn a.td a.z e (gA e b::(gL b++h)) wr j f k
 k0:a.kn=[]->f=W none 0 0/\b=[]/\a.td=[]
theorem Zc{b:World}{lo0:Nat}{nm:ByteArray}{dp:Option Addr}{dc:Nat}{h:List IT}(bR:Jl b lo0 (W L h.length w) h)(aD:Ie b lo0 (W dp D.length dc) D)(dI:h.length<=2000)(eo:D.length<=2000)(dL:nm.size<=100000)(cM:∀x∈h,x.1.1.size<=100000)(bX:∀B∈D,Oo B.1.1/\B.2.2.1.length<=2000/\XK b b.heap.size 31 B.2.2.2)(b5:VN b b.heap.size)(c8:∀i,i.Perm (h.map ia)->∃ac,Ka ac (u0 i D)/\(EP ac (u0 i D)).kn.length<=100000/\(EP ac (u0 i D)).gs.length<=100000/\i.length<=(EP ac (u0 i D)).kn.length/\∀g∈(EP ac (u0 i D)).gs,g.code.length<=1000000000/\∀a0∈g.code,a0.op=1->0<=a0.a/\a0.a<((EP ac (u0 i D)).kn.length:Int)):
 Adg Acs 18 #[T #[S nm,W L h.length w,W dp D.length dc]] b λax ab=>∃L w z c5 y,ax=F (T #[S nm,W L h.length w,W z c5 y])/\Hid (Below b.heap.size b ab)/\∃i ae a9 k,Hid (Yh b.heap.size h D ab (W L h.length w) (W z c5 y) i ae a9 k):=by
 obtain⟨q,b1⟩:∃q,q=((b.alloc (.cells #[S nm,W L h.length w,W dp D.length dc] 72)).alloc (.cells #[S ⟨#[]⟩,W none 0 0,W none 0 0] 39)).alloc (.cells #[W none 0 0,W none 0 0,W none 0 0] 112):=⟨_,rfl⟩;have br:∀(b:World) (o:Obj),Below b.heap.size b (b.alloc o):=λb o=>bA;have cY:(b.alloc (.cells #[S nm,W L h.length w,W dp D.length dc] 72)).heap.size=b.heap.size+1:=by simp
 have cZ:((b.alloc (.cells #[S nm,W L h.length w,W dp D.length dc] 72)).alloc (.cells #[S ⟨#[]⟩,W none 0 0,W none 0 0] 39)).heap.size=b.heap.size+2:=by simp
 have bC:=((V3.new b (S nm) (W L h.length w) (W dp D.length dc) 72).cK ((br _ (.cells #[S ⟨#[]⟩,W none 0 0,W none 0 0] 39)).block _ (by omega))).cK ((br _ (.cells #[W none 0 0,W none 0 0,W none 0 0] 112)).block _ (by omega));have bE:=(V3.new (b.alloc (.cells #[S nm,W L h.length w,W dp D.length dc] 72)) (S ⟨#[]⟩) (W none 0 0) (W none 0 0) 39).cK ((br _ (.cells #[W none 0 0,W none 0 0,W none 0 0] 112)).block _ (by omega));have bD:=V3.new ((b.alloc (.cells #[S nm,W L h.length w,W dp D.length dc] 72)).alloc (.cells #[S ⟨#[]⟩,W none 0 0,W none 0 0] 39)) (W none 0 0) (W none 0 0) (W none 0 0) 112;have ag:Below b.heap.size b q:=by rw[b1];exact(bA.alloc (by omega) _).alloc (by omega) _
 rw[<-b1]at bC bE bD;rw[cY]at bE;rw[cZ]at bD;have c9:∀B∈D,G0 q (b.heap.size+2) (B.1.1,(.nilIface,B.2.2.1.map (·.1)),B.2.2.2):=λB aV=>by
  obtain⟨ap,aR,aa⟩:=bX B aV;exact⟨ap,by grind,Ch 31 _ _ _ aa.px ag.size λj r=>ag.block j (aa.bl j r),λj r=>by have:=aa.bl j r;omega,aa.bn,aa.ln,aa.wt,aa.fx⟩
 have bM:Hid (VN q (b.heap.size+2)):=⟨b5.t.cJ ag,by have:=b5.l;omega,λab d5=>b5.b ab (ag.trans (d5.mono (by omega)))⟩;have cv:=hid (λ(dn:Nat) (dz:Option Addr) (dc:Nat)=>KL (nm:=nm) (dp:=dz) (dn:=dn) (dc:=dc) (AZ.fr (λ_ _ _ _ _ _=>trivial) bR ag.size λj r=>ag.block j (bR.rg j r).2) dI cM);have cq:=hid ((Cn (f:=Zi) (λ_=>rfl) aD.own).2.cJ ag);have cr:Hid (∀B∈D,B0 q B.2.1 B.2.2.1/\(∀j,B.2.1.ownBlock=some j->j<b.heap.size+2)/\∃t x,B.2.2.2.1=Z t x):=λB aV=>⟨(aD.it B aV).1.nm.cJ ag,λj r=>by have:=(aD.rg j (Acx _ (Ada.2 ⟨B,aV,Acw _ (Ah.2 r)⟩))).2;omega,(aD.it B aV).2.dd⟩;have cs:Hid (∀j∈pB dp,j<b.heap.size+2):=λj r=>by have:=(aD.rg j (Acw _ (M4 r))).2;omega
 have c4:=hid c9;have c0:=hid (US.start (G:=G0 q (b.heap.size+2)) bD (Acu _));have c2:=hid bC;have c3:=hid bE;have cw:=hid c8;have co:=hid bX;have cn:=hid ag;obtain⟨bg,dV,dX,-⟩:=id bC;clear bR aD cM b5 c8 bX c9 cY cZ bC bE bD ag br;go_enter Tryz.func18,Tryz.ntmps18;go_upto_region 2 with(fail)
 rw[<-b1];clear b1;go_upto_region 3 with(go_at_call 31;refine(cv.out _ _ _).mono ?_;rintro _ eh ⟨am,al,i,rfl,a8⟩;clear cv bg dV dX)
 have aI:i.length=h.length:=by rw[a8.out.1.length_eq,Adf]
 obtain⟨Y,bQ⟩:∃Y,Y=[pA 55 2 (W am h.length al) h.length (i.flatMap KN)]:=⟨_,rfl⟩;have bI:=hid bQ;have c1:Hid (US q (b.heap.size+2) (b.heap.size+2) (G0 q (b.heap.size+2)) [] [] 0 (W none 0 0) (gA (W none 0 0) []::(gL []++Y)) eh [] (W none 0 0) (W none 0 0)):=by rw[bQ];exact(c0.out.row a8.out.2.2).gM
 have bK:Hid (∀(dS:List ByteArray) (ee:List Dd) (ek:Nat) (ao:X) (db:List As) (wr:World) (p:List TT) (E K:X),US q (b.heap.size+2) (b.heap.size+2) (G0 q (b.heap.size+2)) dS ee ek ao db wr p E K->V3 wr b.heap.size (S nm) (W L h.length w) (W dp D.length dc)/\V3 wr (b.heap.size+1) (S ⟨#[]⟩) (W none 0 0) (W none 0 0)):=λ_ _ _ _ _ wr _ _ _ I=>⟨c2.out.cK (I.l.block _ (by omega)),c3.out.cK (I.l.block _ (by omega))⟩;clear bQ c0 c2 c3;go_wp2;go_loopw [14] (λa1 wr=>∃(d:Nat) (bf:Option Addr) (bc:Nat) (K:X),d<=h.length/\a1=V C (d:Int)/\Hid (US q (b.heap.size+2) (b.heap.size+2) (G0 q (b.heap.size+2)) ((i.map (·.1)).take d) [] d (W none 0 0) (gA (W none 0 0) []::(gL []++Y)) wr [] (W bf d bc) K/\(d=0->W bf d bc=W none 0 0))) (λa1 _=>h.length-(intOf a1).toNat)
 case atStart=>exact⟨0,none,0,_,Ac0 _,rfl,c1.out,λ_=>rfl⟩
 case round=>
  clear c1;obtain⟨d,bf,bc,K,cd,rfl,ad⟩:=hrel;rename World=>wr
  by_cases aj:d<h.length
  ·have dP:(0:Int)<=(d:Int):=by omega
   have dQ:(d:Int)<(h.length:Int):=by omega
   have cN:d<i.length:=by omega
   have aK:wr.ownsRow 0 55 2 (W am h.length al) h.length (i.flatMap KN):=ad.out.1.mem (A:=pA 55 2 (W am h.length al) h.length (i.flatMap KN)) (by rw[bI.out];simp);rw[<-aI]at aK;obtain⟨j,o,rfl,-,O⟩:=(Cn (f:=KN) (λ_=>rfl) aK).2 (λI=>by rw[Aa4.1 I]at cN;simp at cN);have d0:wr.cell? ⟨j,o+d*2,none⟩=some (.string i[d].1):=O d (by grind) 0 _ (by rw[Aep];rfl);have d1:wr.cell? ⟨j,o+d*2+1,none⟩=some (.int C i[d].2):=O d (by grind) 1 _ (by rw[Aep];rfl);have cO:((i.map (·.1)).take d).length=d:=by grind
   have di:Hid ((i.map (·.1)).take (d+1)=(i.map (·.1)).take d++[i[d].1]):=by show _=_;rw[Ade (by grind),Aep]
   generalize i[d].1=t at*;generalize i[d].2=a at*;obtain⟨au,b7⟩:∃au,au=wr.alloc (.cells #[S t,V C a] 55):=⟨_,rfl⟩;have cC:Below wr.heap.size wr au:=by rw[b7];exact bA
   have bJ:=hid (ad.out.1.cJ cC);have u0:=bJ.out.u.c0;have e1:=λo=>alloc_old au o _ _ _ u0;have es:au.cell? ⟨wr.heap.size,0,none⟩=some (S t):=by rw[b7];simp
   have bL:Hid (∀o,(au.alloc o).ownsRow 0 9 1 (W bf d bc) d (((i.map (·.1)).take d).flatMap Br)):=λo=>by have:=bJ.out.k.alloc (o:=o);grind
   have dj:=hid (λ(H:World) v' (az:IY (au.alloc (.cells #[S t] 9)) 9 1 (W bf d bc) v' (d+1) (((i.map (·.1)).take d).flatMap Br++[S t]) H)=>bJ.out.eA (x:=t) (v':=v') bA (by rw[cO];exact az));clear cC O aK cO;go_upto_region 6 with(fail)
   rw[<-b7];clear b7 d0 d1;go_wp2_with (first
    |(at_builtin;refine Cp NL (bL.out _) (Adp au _) (m:=1) (c:=1) (s:=.tmp 19) (x:=.tmp 22) (by rfl) (by rfl) rfl rfl rfl (by intro e aY;simp at aY;subst aY;rfl) (by omega) (by omega) ?_;intro d4 dR bH az;obtain⟨⟨e2,-,-,cW⟩,ar⟩:=dj.out _ _ az;have bN:=hid ar;have e3:=cW 0;clear az ar cW))
   exact⟨⟨d+1,_,_,_,by omega,by go_num,by rw[di.out];exact bN.out,λI=>by omega⟩,by simp[intOf];omega⟩
  ·obtain rfl:d=h.length:=by omega
   have dG:¬(h.length:Int)<(h.length:Int):=by omega
   have cp:Hid (∃p E K,US q (b.heap.size+2) (b.heap.size+2) (G0 q (b.heap.size+2)) (i.map (·.1)++(D.take 0).map (·.1.1)) ((D.take 0).map tk) (h.length+0) (W none 0 0) (gA (W none 0 0) []::(gL []++Y)) wr p E K/\(h.length+0=0->E=W none 0 0)):=by
    have:=ad.out;rw[Aav (by rw[Adf];omega)]at this;exact⟨[],_,_,by simpa using this.1,this.2⟩
   obtain⟨⟨-,-,a4,-⟩,-⟩:=bK.out _ _ _ _ _ _ _ _ _ ad.out.1;clear ad cd;go_wp2;go_loopw [29] (λa1 wr=>∃d:Nat,d<=D.length/\a1=V C (d:Int)/\Hid (∃p E K,US q (b.heap.size+2) (b.heap.size+2) (G0 q (b.heap.size+2)) (i.map (·.1)++(D.take d).map (·.1.1)) ((D.take d).map tk) (h.length+d) (W none 0 0) (gA (W none 0 0) []::(gL []++Y)) wr p E K/\(h.length+d=0->E=W none 0 0))) (λa1 _=>D.length-(intOf a1).toNat)
   case atStart=>exact⟨0,Ac0 _,rfl,cp⟩
   case round=>
    clear cp a4;obtain⟨d,cd,rfl,ad⟩:=hrel;rename World=>wr
    by_cases aj:d<D.length
    ·have dP:(0:Int)<=(d:Int):=by omega
     have dQ:(d:Int)<(D.length:Int):=by omega
     obtain⟨p,E,K,aq,-⟩:=ad.out;have b4:=Ac8 aj;obtain⟨j,o,rfl,-,O⟩:=cq.out.ec aq.l cs.out (λI=>by rw[Aa4.1 I]at aj;simp at aj);have aU:∀ak v,(Zi D[d])[ak]?=some v->wr.cell? ⟨j,o+d*4+ak,none⟩=some v:=λak v dN=>O d (by rw[Adf];exact aj) ak v (by rw[Aep];exact dN);have cI:(D.take (d+1)).map (·.1.1)=(D.take d).map (·.1.1)++[D[d].1.1]:=by rw[Ade aj,Adq];rfl
     have cJ:(D.take (d+1)).map tk=(D.take d).map tk++[tk D[d]]:=by rw[Ade aj,Adq];rfl
     obtain⟨aJ,ce,dH⟩:=cr.out _ b4;have aW:=c4.out _ b4;have b3:=co.out _ b4;generalize D[d]=B at*;obtain⟨⟨t,cU⟩,b8,N,bO,be,bb⟩:=B;obtain⟨bt,bx,bW⟩:=dH;obtain rfl:bO=Z bt bx:=bW;obtain⟨aN,aM,ch,-⟩:=id aJ;obtain rfl:b8=W aN N.length aM:=ch;simp only at aJ aW b3 ce;have dq:Hid (t.size<=100000):=by have:=b3.1.size;show _<=_;omega
     have dr:Hid (∀ai,Below wr.heap.size wr ai->Adg Acs 34 #[W aN N.length aM] ai λax ab=>∃U c,ax=F (W U N.length c)/\GL 9 1 ai ab (W U N.length c) N.length ((N.map (·.1)).flatMap Br)):=λai r=>R6 N ((aJ.ec aq.l ce).cJ r) (by have:=b3.2.1;omega);have cK:=λj r=>(aq.s.rg j r).2;have dd:Hid (∀ai bq U c,Below wr.heap.size wr ai->wr.heap.size<ai.heap.size->GL 9 1 ai bq (W U N.length c) N.length ((N.map (·.1)).flatMap Br)->Adg Acs 32 #[J (some ⟨b.heap.size+2,0,none⟩),T #[S t,W U N.length c,Z bt bx]] bq λax cm=>ax=F (R #[])/\(∀ak,cm.cell? ⟨wr.heap.size,ak,none⟩=bq.cell? ⟨wr.heap.size,ak,none⟩)/\Hid (∃p E K,US q (b.heap.size+2) (b.heap.size+2) (G0 q (b.heap.size+2)) (i.map (·.1)++(D.take (d+1)).map (·.1.1)) ((D.take (d+1)).map tk) (h.length+(d+1)) (W none 0 0) (gA (W none 0 0) []::(gL []++Y)) cm p E K/\(h.length+(d+1)=0->E=W none 0 0))):=λai bq U c r cQ M=>by
      have ax:N.length=(N.map (·.1)).length:=(Adf _).symm;rw[ax]at M ⊢;refine((aq.cJ r).add (t:=t) (bt:=bt) (bx:=bx) (be:=be) (bb:=bb) (by omega) M ⟨aW.1,aW.2.1,aW.2.2⟩).mono ?_;rintro _ cm ⟨rfl,dE,aO,aL,aP,aR⟩;refine⟨rfl,λak=>Ac1 (a:=⟨wr.heap.size,ak,none⟩) ((dE.block _ cQ λdK=>Nat.lt_irrefl _ (cK _ dK)).trans (M.b.block _ cQ).symm),aO,aL,aP,?_,λI=>by omega⟩;rw[cI,cJ,<-Aem];exact aR
     have dv:wr.cell? ⟨j,o+d*4,none⟩=some (S t):=aU 0 _ rfl;have dw:wr.cell? ⟨j,o+d*4+1,none⟩=some (V C (cU:Int)):=aU 1 _ rfl;have dx:wr.cell? ⟨j,o+d*4+2,none⟩=some (W aN N.length aM):=aU 2 _ rfl;have dy:wr.cell? ⟨j,o+d*4+3,none⟩=some (Z bt bx):=aU 3 _ rfl;obtain⟨af,aG⟩:∃af,af=wr.alloc (.cells #[S t,V C (cU:Int),W aN N.length aM,Z bt bx] 119):=⟨_,rfl⟩;have a5:af.drew.cell? ⟨wr.heap.size,0,none⟩=some (S t):=by show af.cell? _=_;rw[aG];simp
     have a6:af.drew.cell? ⟨wr.heap.size,2,none⟩=some (W aN N.length aM):=by show af.cell? _=_;rw[aG];simp
     have a7:af.drew.cell? ⟨wr.heap.size,3,none⟩=some (Z bt bx):=by show af.cell? _=_;rw[aG];simp
     have av:Hid (Below wr.heap.size wr af.drew/\wr.heap.size<af.drew.heap.size):=by rw[aG];exact⟨bA.drew,by show _<(World.alloc _ _).heap.size;simp⟩
     clear O aU cI cJ aJ ce aW b3 aq b4 ad cK;go_upto_region 11 with fail
     rw[<-aG];clear aG dv dw dx dy;go_region_held_law (λab=>ab.cell? ⟨wr.heap.size,0,none⟩=some (S t)/\ab.cell? ⟨wr.heap.size,2,none⟩=some (W aN N.length aM)/\ab.cell? ⟨wr.heap.size,3,none⟩=some (Z bt bx)) (with_reducible exact⟨a5,a6,a7⟩)
      (first
      |(go_at_call 33;refine(HZ t _ dq.out).mono ?_;rintro _ bG ⟨rfl,ay⟩;first|(have cy:=hid (And.intro an.out.1 (And.intro an.out.2.1 (an.out.2.2.cJ ay)));clear an;have an:=cy;clear cy)|(replace av:=hid (And.intro (av.out.1.trans (ay.mono (Nat.le_of_lt av.out.2))) (Ac2 av.out.2 ay.size)));replace a5:=Aa ay a5;replace a6:=Aa ay a6;replace a7:=Aa ay a7;clear ay)
      |(go_at_call 34;refine(dr.out _ av.out.1).mono ?_;rintro _ e4 ⟨a3,a2,rfl,aX⟩;replace a5:=Aa aX.b a5;replace a6:=Aa aX.b a6;replace a7:=Aa aX.b a7;have an:=hid (And.intro av.out.1 (And.intro av.out.2 aX));clear aX)
      |(go_at_call 32;refine(dd.out _ _ _ _ an.out.1 an.out.2.1 an.out.2.2).mono ?_;rintro _ bH ⟨rfl,O,dk⟩;replace a5:=(O 0).trans a5;replace a6:=(O 2).trans a6;replace a7:=(O 3).trans a7;clear O))
     all_goals(try go_wp2)
     all_goals go_roundw
     all_goals first
      |exact⟨d+1,by omega,by go_num,dk⟩
      |(simp[intOf];omega)
    ·obtain rfl:d=D.length:=by omega
     have dG:¬(D.length:Int)<(D.length:Int):=by omega
     obtain⟨ac,bS,bU,cD,cE,cF⟩:=cw.out i a8.out.1;obtain⟨ae,aS⟩:∃ae,EP ac (u0 i D)=ae:=⟨_,rfl⟩;have cz:Hid (∃e k p ao E K,TdI q (b.heap.size+2) Y ae ac wr e k p ao E K):=by
      obtain⟨p,E,K,aq,bv⟩:=ad.out;rw[Ad9,<-aI]at aq;refine⟨u0 i D,[],p,_,E,K,bS,aS,rfl,aq,λI=>?_⟩;have ap:i=[]/\D=[]:=by simpa[u0]using I
      exact⟨bv (by rw[<-aI,ap.1,ap.2];rfl),rfl,by rw[ap.2];rfl⟩
     have bo:=hid (And.intro bS aS);have bk:Hid (∀g∈ae.gs,g.code.length<=1000000000/\∀a0∈g.code,a0.op=1->0<=a0.a/\a0.a<(ae.kn.length:Int)):=by rw[<-aS];exact cF
     rw[aS]at bU cD cE;clear ad cF aS bS cq cr cs c4 co cw cd;go_wp2;go_loopg [] ac (λn wr=>Hid (∃e k p ao E K,TdI q (b.heap.size+2) Y ae n wr e k p ao E K))
     case atStart=>exact cz
     case round=>
      clear cz;rename World=>wx
      rename Nat=>n
      obtain⟨e,k,p,ao,E,K,l⟩:=hrel.out;clear hrel;match htd:e.td,p,l with
      |[],p,l=>
       obtain rfl:p=[]:=Aa4.1 (l.us.t.trans htd);obtain rfl:e=ae:=by rw[<-l.rn,Oc htd]
       obtain⟨ef,ed,b6⟩:=D6.slice (l.us.s.mem (A:=tA K []) (by simp));subst b6;have aZ:=l.us;rw[htd]at aZ;obtain⟨z,y,ca⟩:=Ad (aZ.mem (A:=gA ao k) (by simp));subst ca;have bZ:k.length<=100000:=by have:=congrArg List.length l.ge;rw[Adf]at this;omega
       have cx:=hid (SP (n:=h.length) aZ (λI=>⟨(l.k0 I).1,(l.k0 I).2.1⟩) (by omega) bU bZ (λg bY=>by have:=(bk.out _ (l.ge▸Aes bY)).1;simpa[Ha]using this) λg bY x cj=>(bk.out _ (l.ge▸Aes bY)).2 x.1 (Aes cj));have bh:wx.cell? ⟨b.heap.size+1+1,1,none⟩=some (W ef 0 ed):=aZ.u.c1;have ct:=hid l.ge;clear aZ l htd bU cD cE bk bM;go_upto_region 18 with(go_at_call 36;refine cx.out.mono ?_;rintro _ ah ⟨rfl,a9,bs,ap,aR,aa,bw,bz⟩;have aQ:=hid (And.intro ap (And.intro aR (And.intro aa (And.intro bw bz))));clear ap aR aa bw bz cx bh)
       have bj:ah.cell? ⟨b.heap.size+1+1,2,none⟩=some (W z k.length y):=aQ.out.2.2.2.2.u.c2;obtain⟨⟨bg,-,-,-⟩,ar⟩:=bK.out _ _ _ _ _ _ _ _ _ aQ.out.2.2.2.2;have dO:=aQ.out.2.2.2.2.s.z;have dT:ah.drew.cell? ⟨b.heap.size,0,none⟩=some (S nm):=bg;have ej:ah.drew.cell? ⟨b.heap.size+1+1,2,none⟩=some (W z k.length y):=bj;have df:Hid (∀H,Below ah.heap.size ah H->V3 H (b.heap.size+1) (S ⟨#[]⟩) (W none 0 0) (W none 0 0)/\H.cell? ⟨b.heap.size,0,none⟩=some (S nm)/\H.cell? ⟨b.heap.size+1+1,2,none⟩=some (W z k.length y)):=λH r=>⟨ar.cK (r.block _ (by omega)),Aa r bg,Aa r bj⟩;have dg:Hid (∀(H bi:World),Below ah.heap.size ah H->Below (b.heap.size+1) H bi->(∀j,j≠b.heap.size+1->bi.heap[j]?=H.heap[j]?)->Below b.heap.size b bi/\Yh b.heap.size h D bi (W am h.length al) (W z k.length y) i e a9 bs):=λH bi r ba dA=>by
        obtain⟨cV,a4,dY,dZ,b9⟩:=aQ.out;rw[<-aI]at cV b9;have d8:=(cn.out.trans (b9.l.mono (by omega))).trans ((r.mono (by omega:b.heap.size<=ah.heap.size)).trans (ba.mono (Afa _)));have cl:=(b9.s.cJ r).OT (L':=gA (W z k.length y) (bs.map (HX e.kn (e.kn.take i.length++a9)))::(gL (bs.map (HX e.kn (e.kn.take i.length++a9)))++Y)) (λa=>by simp only[fp,uL,Adh,Aa2,Abr];omega) λA d7=>(b9.s.cJ r).h A (by simp only[uL,Ady]at d7 ⊢;grind);refine⟨d8,a8.out.1,a8.out.2.1,⟨ac,bo.out.1,bo.out.2⟩,cV,a4,by rw[<-ct.out];exact dY.map _,dZ,?_⟩;rw[aI,<-bI.out];rw[aI]at cl;exact(cl.fr ba.size λj d9=>dA j (by have:=(cl.rg j d9).1;omega)).low (by omega)
       clear bg bj ar dO bK cn bI a8 aQ ct bo;go_region_held_law (λab=>ab.cell? ⟨b.heap.size,0,none⟩=some (S nm)/\ab.cell? ⟨b.heap.size+1+1,2,none⟩=some (W z k.length y)) (first|(with_reducible exact⟨dT,ej⟩)|(with_reducible exact⟨ck,a4⟩)|(with_reducible exact⟨Hb ck (by omega) _ _ _,Hb a4 (by omega) _ _ _⟩)|(exact⟨Hb ck (by omega) _ _ _,Hb a4 (by omega) _ _ _⟩))
        (first
        |(go_at_call 33;refine(HZ nm _ dL).mono ?_;rintro _ H ⟨rfl,cG⟩;have bV:Below ah.heap.size ah H:=(Acv _ _).drew.trans cG;obtain⟨ci,ck,a4⟩:=df.out _ bV;obtain⟨ev,ew,ex,bB⟩:=id ci;have ey:=bB 0;have ez:=bB 1;have e0:=bB 2;have dl:=hid ci;have de:=hid bV;clear cG bV ci bB))
       all_goals(try go_wp2)
       all_goals(obtain⟨ea,eb,ec,-⟩:V3 (HN H (b.heap.size+1) (S nm) (W am h.length al) (W z k.length y)) (b.heap.size+1) (S nm) (W am h.length al) (W z k.length y):=V3.set (V3.set (V3.set dl.out 0 (S nm)) 1 (W am h.length al)) 2 (W z k.length y))
       all_goals refine Adc (v:=T #[S nm,W am h.length al,W z k.length y]) (by simp[results,Tryz.results18,go_sem,ea,eb,ec]) rfl ?_
       all_goals
        have aH:b.heap.size+1<=b.heap.size+1:=Acu _;have b0:=dg.out H _ de.out (by first|exact(((Acv _ _).setCell aH _).setCell aH _).setCell aH _|exact((((Acv _ _).setCell aH _).setCell aH _).setCell aH _).drew) λj r=>Ng r (S nm) (W am h.length al) (W z k.length y);exact⟨_,_,_,_,_,rfl,b0.1,i,e,a9,bs,b0.2⟩
      |t::M,[],l=>exact absurd (congrArg List.length (l.us.t.trans htd)) (by simp)
      |t::M,x::p,l=>
       match n,l with
       |0,l=>exact absurd (htd.symm.trans (l.ro:e.td=[])) (by simp)
       |n+1,l=>
        obtain⟨ba,bZ,aK⟩:=l.ro;have dM:X0 x=t/\p.map X0=M:=by have:=l.us.t.trans htd;simpa using this
        obtain⟨nx,⟨b8,u⟩,bO,be,bb⟩:=x;obtain⟨rfl,er⟩:=dM;obtain⟨aE,c7⟩:=l.us.g _ (Aew ..);obtain⟨a3,a2,ch⟩:=Ad c7.1;obtain rfl:b8=W a3 u.length a2:=ch;obtain⟨bt,bx,bW⟩:=aE.2.2.px.dd;obtain rfl:bO=Z bt bx:=bW;obtain⟨g,U,c,b6,dC,O,-⟩:=l.us.pop;obtain⟨bp,b2⟩:∃bp,bp=wx.alloc (.cells #[S nx,W a3 u.length a2,Z bt bx] 124):=⟨_,rfl⟩;have cH:Below wx.heap.size wx bp:=by rw[b2];exact bA
        obtain⟨em,eu,el,cS,-,-,cf,-,cR⟩:=(l.us.cJ cH).pop;rw[b6]at cS;cases cS;obtain⟨z,y,ca⟩:=Ad (l.us.mem (A:=gA ao k) (by simp));subst ca b6;rw[htd,List.tail_cons]at cf;have bh:wx.cell? ⟨b.heap.size+1+1,1,none⟩=some (W (some ⟨g,U,none⟩) (p.length+1) c):=l.us.u.c1;have d2:wx.frozen? ⟨b.heap.size+1+1,1,none⟩=false:=l.us.u.f 1;have eg:=λo=>alloc_old wx o _ _ _ bh;have d3:∀o,(wx.alloc o).frozen? ⟨b.heap.size+1+1,1,none⟩=false:=λo=>(l.us.cJ ((Acv _ _).alloc (Acu _) o)).u.f 1;have ds:wx.cell? ⟨g,U,none⟩=some (S nx):=O 0 _ rfl;have dt:wx.cell? ⟨g,U+1,none⟩=some (W a3 u.length a2):=O 1 _ rfl;have du:wx.cell? ⟨g,U+2,none⟩=some (Z bt bx):=O 2 _ rfl;obtain⟨aB,aT⟩:∃aB,aB=bp.setCell ⟨b.heap.size+1+1,1,none⟩ (W (if c=1 then some ⟨g,U,none⟩ else some ⟨g,U+3,none⟩) p.length (c-1)):=⟨_,rfl⟩;have bT:US q (b.heap.size+2) (b.heap.size+2) (G0 q (b.heap.size+2)) e.kn M e.z (W z k.length y) (gA (W z k.length y) k::(gL k++Y)) aB.drew p E (RV g U p.length c 3):=by rw[aT];exact cf.cJ (Acv _ _).drew
        have c6:P3 aB.drew (fp (uL (b.heap.size+2) e.kn p E (RV g U p.length c 3) (W z k.length y) (gA (W z k.length y) k::(gL k++Y)))) (nx,(W a3 u.length a2,u),(Z bt bx,.num 0,[])):=by rw[aT];exact cR.step (AF.refl.drew) λ_ I=>.inl I
        have ei:V3 aB.drew wx.heap.size (S nx) (W a3 u.length a2) (Z bt bx):=by
         have aj:=Adt bh;have bv:=V3.new wx (S nx) (W a3 u.length a2) (Z bt bx) 124;rw[<-b2]at bv;refine bv.cK ?_;rw[aT];exact Ac4 _ _ _ _ (by simp only at aj ⊢;omega)
        have en:aB.drew.cell? ⟨b.heap.size+1+1,2,none⟩=some (W z k.length y):=bT.u.c2;obtain⟨e5,e6,e7,-⟩:=ei;have dh:=hid (WJ bM.out aE.1.size (λn b8 u x aJ dJ cj=>⟨aE.1.new n aJ,dJ,cj⟩) bT c6 aE.2.1 aE.2.2 ba);have dm:Hid (∀H aC cc aw aO bu aL aP,aw.map (·.1)=(kR nx 31 be (k0 e.kn M e.z u)).code->US q (b.heap.size+2) (b.heap.size+2) (G0 q (b.heap.size+2)) (kR nx 31 be (k0 e.kn M e.z u)).kn (kR nx 31 be (k0 e.kn M e.z u)).td (kR nx 31 be (k0 e.kn M e.z u)).z bu (gA bu (k++[⟨nx,(u.length:Int),!CB nx,aC,cc,aw⟩])::(gL (k++[⟨nx,(u.length:Int),!CB nx,aC,cc,aw⟩])++Y)) H aO aL aP->TdI q (b.heap.size+2) Y ae n H (FH e) (k++[⟨nx,(u.length:Int),!CB nx,aC,cc,aw⟩]) aO bu aL aP):=λH aC cc aw aO bu aL aP dD b0=>by
         have bP:FH e=⟨(kR nx 31 be (k0 e.kn M e.z u)).kn,(kR nx 31 be (k0 e.kn M e.z u)).td,e.gs++[⟨nx,(u.length:Int),!CB nx,(kR nx 31 be (k0 e.kn M e.z u)).code⟩],(kR nx 31 be (k0 e.kn M e.z u)).z⟩:=by unfold FH;rw[htd];rfl
         refine⟨aK,l.rn,?_,?_,λI=>?_⟩
         ·rw[bP,Adq,l.ge,<-dD];rfl
         ·rw[bP];exact b0
         ·exfalso;rw[bP]at I;obtain⟨et,-,aa⟩:=Uv nx 31 be (k0 e.kn M e.z u);have bw:e.kn=[]:=by
           have bz:(k0 e.kn M e.z u).kn=e.kn:=rfl;rw[bz]at aa;rw[aa]at I;exact(Ab1.1 I).1
          have:=(l.k0 bw).2.2;rw[htd]at this;cases this
        have d6:(0:Int)<((p.length+1:Nat):Int):=by omega
        have ep:k.length<=99000:=by have:=congrArg List.length l.ge;rw[Adf]at this;omega
        generalize kR nx 31 be (k0 e.kn M e.z u)=Q at*;clear l bT c6 c7 aE O cf cR cH aK ba bZ bk bo bM;go_upto_region 16 with fail
        rw[<-b2,<-aT];clear b2 aT bh eg d2 d3 ds dt du d6 dC;go_region_law
         (first
         |(go_simp;go_at_call 35;refine dh.out.mono ?_;rintro _ bG ⟨aC,cc,aw,aO,aL,aP,rfl,bm⟩;have bj:bG.cell? ⟨b.heap.size+1+1,2,none⟩=_:=bm.out.2.2.u.c2;have e8:=λo=>alloc_old bG o _ _ _ bj;have bL:=hid (λo=>(bm.out.2.2.cJ ((Acv _ _).alloc (Acu _) o)).mem (A:=gA (W z k.length y) k) (by simp)))
         |(refine Cy ZZ (bL.out _) (Adp bG _) (m:=1) (c:=1) (s:=.tmp 58) (x:=.tmp 61) (by simp[Aef];done) (by simp[Aef];done) rfl rfl rfl (by intro e aY;simp at aY;rcases aY with rfl|rfl|rfl|rfl<;>rfl) (by omega) (by omega) ?_;intro d4 dR bH az;obtain⟨⟨-,-,cX,da⟩,ar⟩:=bm.out.2.2.fJ (g:=⟨nx,(u.length:Int),!CB nx,aC,cc,aw⟩) bA az;have e9:bH.cell? ⟨b.heap.size+1+1,2,none⟩=_:=cX;have eA:bH.frozen? ⟨b.heap.size+1+1,2,none⟩=false:=da 2;have bN:=hid (dm.out _ _ _ _ _ _ _ _ bm.out.1 ar);clear az ar da cX))
        all_goals(try go_wp2)
        all_goals go_roundg n
        all_goals first
         |exact⟨_,_,_,_,_,_,bN.out⟩
         |omega
theorem Yh.fr{c:Nat}{i:List IT}{f:List DT}{d w':Q}{j h:X}{k:List (ByteArray×Int)}{R:KU}{e:List ByteArray}{g:List GG}(b:Yh c i f d j h k R e g)(n:d.heap.size<=w'.heap.size)(l:∀a,c<=a->w'.heap[a]?=d.heap[a]?):Yh c i f w' j h k R e g:={b with s:=b.s.fr n λa m=>l a (b.s.rg a m).1}
theorem Bf:∀a c,XF a c->2<=wt a c
 |0,_,h=>h.elim
 |a+1,c,h=>by
  cases c with
  |num n=>exact Acu 2
  |name g t pl=>exact Acj _ _
  |op k l r=>simp[wt];omega
  |call ps=>
   have e:=CR (l:=ps) λx d=>Bf a x (h.2.1 x d);have f:2<=ps.length:=h.1;show 2<=(ps.map (wt a)).sum;omega
  |Fs t fs=>simp[wt];omega
  |lets r ns es b=>simp[wt];omega
  |case x bs=>simp[wt];omega
theorem O9:∀d c,XF d c->wt d c<=2001->BQ d c/\CN d c
 |0,_,h,_=>h.elim
 |d+1,c,h,hw=>by
  have o:=Pc (d:=d) c;have q:=λx e=>O9 d x (h.2.1 x e) (Ac5 (o.1 x e) hw);have s:=λa b=>O9 d a.2.2 (h.2.2 a b) (Ac5 (o.2 a b) hw);have u:=λx e=>Bf d x (h.2.1 x e);have i:(GM c).length<=2000/\(∀a∈DJ c,a.2.1.length<=2000)/\(Bd c).length<=2001/\(DJ c).length<=2000/\XC c:=by
   cases c with
   |num n=>simp[GM,Bd,DJ,XC]
   |name g t pl=>simp[GM,Bd,DJ,XC]
   |op k l r=>simp[GM,Bd,DJ,XC]
   |call ps=>
    have j:=CR (l:=ps) u;have p:(ps.map (wt d)).sum<=2001:=hw;exact⟨by simp[GM],λa b=>by simp[DJ]at b,by simp[Bd];omega,by simp[DJ],h.1⟩
   |Fs t fs=>exact⟨by simp[GM],λa b=>by simp[DJ]at b,by have:=h.1.2;simp[Bd];omega,by simp[DJ],trivial⟩
   |lets r ns es a=>
    have j:=DX ns;have v:=h.1.1;have p:4+nW ns+(es.map (wt d)).sum+wt d a<=2001:=hw;exact⟨by simp[GM];omega,λa b=>by simp[DJ]at b,by simp[Bd];omega,by simp[DJ],trivial⟩
   |case x bs=>
    have j:=CR (f:=λa:B3=>2+nW a.2.1+wt d a.2.2) (m:=2) (l:=bs) λa _=>by omega
    have p:5+wt d x+(bs.map λa:B3=>2+nW a.2.1+wt d a.2.2).sum<=2001:=hw;refine⟨by simp[GM],λa b=>?_,by simp[Bd],by simp[DJ];omega,trivial⟩;have v:=De (f:=λa:B3=>2+nW a.2.1+wt d a.2.2) (l:=bs) b;have w:=DX a.2.1;omega
  exact⟨⟨i.1,λx e=>(q x e).1,λa b=>⟨i.2.1 a b,(s a b).1⟩⟩,⟨i.2.2.1,i.2.2.2.1,i.2.2.2.2⟩,λx e=>(q x e).2,λa b=>(s a b).2⟩
theorem UH{d:ByteArray}:∀c b,d.size-b<=c->Kn d b=true->∀a e,b<=a->Fu d[a].toNat=true\/0<a/\BR d[a].toNat=true
 |c,b,hn,h,a,e,hij=>by
  rw[FU (by omega),Ael]at h;rcases Nat.eq_or_lt_of_le hij with rfl|f
  ·grind
  ·match c with
   |0=>omega
   |c+1=>exact UH c (b+1) (by omega) h.2 a e f
theorem DC(a:AM s=true):Oo s/\(35:UInt8)∉s.data.toList/\s.size<=10:=by
 simp[AM,decide_eq_true_eq]at a;have b:35∉s.data.toList:=λg=>by
  let ⟨c,f,d⟩:=Aa5 g
  have e:s[c]=35:=by rw[<-d];rfl
  have:=(UH _ 0 (Acu _) a.1.1.1) c (by simpa using f) (Ac0 _);rw[e]at this;rcases this with a|⟨-,a⟩<;>exact absurd a (by decide)
 exact⟨⟨s.data.toList,[],by simp,by have:s.data.toList.length=s.size:=Acl;omega,b,.inl rfl⟩,b,a.2⟩
def CmD(k:Q)(h:List IT)(e:List DD)(l:Q)(i g:X):Prop:=∃b a j c d f,k.heap.size<=b/\a.map GZ=e/\Yh b h a l i g j c d f
def ZY(h:List IT)(g:List DD):Prop:=∀c:List DT,c.map GZ=g->∀b,b.Perm (h.map ia)->∃d,Ka d (u0 b c)/\(EP d (u0 b c)).kn.length<=100000/\(EP d (u0 b c)).gs.length<=100000/\b.length<=(EP d (u0 b c)).kn.length/\∀f∈(EP d (u0 b c)).gs,f.code.length<=1000000000/\∀e∈f.code,e.op=1->0<=e.a/\e.a<((EP d (u0 b c)).kn.length:Int)
theorem HR(a:BF s=.ok vj):s.size<=2000/\∃b,DP s 0=.ok (vj,b):=by
 unfold BF at a;grind
theorem M9{s:ByteArray}(aZ:s.size<=2000->∀aN aS aT,EO aN aS aT o s)(ar:Ck n o)(aw:SY n o)(ad:VN n n.heap.size)(av:∀r c m,BF s=.ok (r,c,m)->ZY c m):Adg Acs 9 #[S s] n λp M=>Below n.heap.size n M/\match BF s with
 |P (y,O)=>p=F (R #[T #[S ⟨#[]⟩,W none 0 0,W none 0 0],V C (y:Int),V C (O:Int)])
 |.ok (r,c,m)=>∃k ae x w u,p=F (R #[T #[S r,W k c.length ae,W x w u],V C 0,V C 0])/\CmD n c m M (W k c.length ae) (W x w u):=by
 obtain⟨e,U⟩:∃e,e=n.alloc (.cells #[S ⟨#[]⟩,W none 0 0,W none 0 0] 39):=⟨_,rfl⟩;have K:Below n.heap.size n e:=by rw[U];exact bA
 have ah:V3 e n.heap.size (S ⟨#[]⟩) (W none 0 0) (W none 0 0):=by rw[U];exact V3.new ..
 have ay:n.heap.size<e.heap.size:=Adt ah.c0;have ai:=hid (ND (s:=s) aZ (aw.cJ K));have a5:=hid (ar.cJ K);have Y:=hid K;have bl:=Tj;match h:BF s with
 |P (y,O)=>
  have ax:=Mq h;have aP:Hid (Hw (Dm y)=(y:Int)):=X4 ax;have a6:Hid (1<=Dm y/\Dm y<19):=Ug ax;have aa:Hid (Adg Acs 15 #[S s] e λp a=>p=F (R #[T #[S ⟨#[]⟩,W none 0 0,W none 0 0],M8 (o (Dm y)) 0 (O:Int)])/\Hid (Below e.heap.size e a)):=by
   refine ai.out.mono ?_;rintro p a ⟨q,j⟩;rw[h]at j;exact⟨j,q⟩
  have ak:=hid ah;unfold M8 at aa;clear h ai ax ar aw ad av K ah;go_enter Tryz.func9,Tryz.ntmps9;go_upto_region 1 with(fail)
  rw[<-U];clear U;go_wp2_with (first
   |(go_at_call 15;refine aa.out.mono ?_;rintro p a ⟨rfl,g⟩)
   |(go_at_call 16;refine(Ke (a5.out.cJ (g.out.trans (((Acv a.heap.size a).alloc (Acu _) _).mono g.out.size))) (Dm y) ⟨by have:=a6.out;omega,a6.out.2⟩ 0 (O:Int)).mono ?_;rintro p E ⟨rfl,aG⟩;have an:=hid ((g.out.trans (((Acv a.heap.size a).alloc (Acu _) _).mono g.out.size)).trans (aG.mono (Ac5 g.out.size (by simp))));clear aG)
   |(go_at_call 17;refine(Iv (a5.out.cJ an.out) (o (Dm y)) 0 (O:Int)).mono ?_;rintro p a4 ⟨rfl,aH⟩;have N:=hid (an.out.trans (aH.mono an.out.size));obtain⟨be,bf,bg,H⟩:=ak.out.cK (N.out.block _ ay);have bh:=H 0;have bi:=H 1;have bj:=H 2;have aj:=hid (ak.out.cK (N.out.block _ ay));clear aH H))
  obtain⟨a1,a2,a3,-⟩:V3 (HN a4 n.heap.size (S ⟨#[]⟩) (W none 0 0) (W none 0 0)) n.heap.size (S ⟨#[]⟩) (W none 0 0) (W none 0 0):=V3.set (V3.set (V3.set aj.out 0 (S ⟨#[]⟩)) 1 (W none 0 0)) 2 (W none 0 0);refine Adc (v:=R #[T #[S ⟨#[]⟩,W none 0 0,W none 0 0],V C (Hw (Dm y)),V C (O:Int)]) (by simp[results,Tryz.results9,go_sem,a1,a2,a3]) rfl ?_;refine⟨(((Y.out.trans (N.out.mono Y.out.size)).setCell (Acu _) _).setCell (Acu _) _).setCell (Acu _) _,?_⟩;rw[aP.out]
 |.ok (r,c,m)=>
  obtain⟨bb,br,aL⟩:=HR h;obtain⟨aM,⟨bm,au⟩,aK⟩:=U9 aL;have aE:=av r c m h;have aJ:∀b∈m,6+nW b.2.1+wt 31 b.2.2<=dW m:=λb G=>De (f:=λb:DD=>6+nW b.2.1+wt 31 b.2.2) G;have ba:6*m.length<=dW m:=CR (f:=λb:DD=>6+nW b.2.1+wt 31 b.2.2) λb _=>by omega
  simp only at aK;have aa:Hid (Adg Acs 15 #[S s] e λp a=>∃k z D am B,p=F (R #[T #[S r,W k c.length z,W D am B],.nilIface])/\Hid (Below e.heap.size e a/\∃d,am=d.length/\d.map GZ=m/\Jl a e.heap.size (W k c.length z) c/\Ie a e.heap.size (W D d.length B) d)):=by
   refine ai.out.mono ?_;rintro p a ⟨q,j⟩;rw[h]at j;obtain⟨k,bq,z,D,am,B,d,aX,aC,aD,aY⟩:=j;obtain rfl:=(Cn (f:=YT) (λ_=>rfl) aC.own).1;obtain rfl:=(Cn (f:=Zi) (λ_=>rfl) aD.own).1;exact⟨k,z,D,_,B,aX,q,d,rfl,aY,aC,aD⟩
  have a7:Hid (∀(a E:Q) k z D B d,Below e.heap.size e a->Below a.heap.size a E->d.map GZ=m->Jl a e.heap.size (W k c.length z) c->Ie a e.heap.size (W D d.length B) d->Adg Acs 18 #[T #[S r,W k c.length z,W D d.length B]] E λp M=>∃k ae x w u,p=F (T #[S r,W k c.length ae,W x w u])/\Hid (Below E.heap.size E M)/\∃a0 ao ap aq,Hid (Yh E.heap.size c d M (W k c.length ae) (W x w u) a0 ao ap aq)):=λa E k z D B d aB j L ab I=>by
   have al:Below n.heap.size n E:=(K.trans (aB.mono K.size)).trans (j.mono (Ac5 K.size aB.size));have aI:∀b∈d,GZ b∈m:=λb G=>L▸Aes G;have bp:d.length=m.length:=by rw[<-L,Adf]
   refine Zc (lo0:=e.heap.size) (AZ.fr (λ_ _ _ _ _ _=>trivial) ab j.size λl q=>j.block l (ab.rg l q).2) (AZ.fr B5 I j.size λl q=>j.block l (I.rg l q).2) (by omega) (by omega) (by have:=(DC aM).2.2;simp only at this;omega) (λbk bc=>by have:=(DC (au.i bk bc).1).2.2;omega) (λb G=>?_) ⟨ad.t.cJ al,by have:=ad.l;have:=al.size;omega,λM aW=>ad.b M (al.trans (aW.mono al.size))⟩ (aE d L);obtain⟨aU,a8⟩:=au.d _ (aI b G);have aV:=aJ _ (aI b G);have bn:6+nW b.2.2.1+wt 31 b.2.2.2.2.1<=dW m:=aV;have bo:=DX b.2.2.1;have a9:=O9 31 b.2.2.2.2.1 a8 (by omega);exact⟨(DC aU).1,by omega,Ch 31 _ _ _ (I.it b G).2 j.size λl q=>j.block l (I.rg l (Acx _ (Ada.2 ⟨b,G,Acx _ q⟩))).2,λl q=>Ac2 (I.rg l (Acx _ (Ada.2 ⟨b,G,Acx _ q⟩))).2 j.size,a9.1,a9.2,by omega,a8⟩
  have ak:=hid ah;clear h ai ar aw ad av K ah aE aJ ba aK au aL bb aM;go_enter Tryz.func9,Tryz.ntmps9;go_upto_region 1 with(fail)
  rw[<-U];clear U;go_wp2_with (first
   |(go_at_call 15;refine aa.out.mono ?_;rintro _ a ⟨k,z,D,am,B,rfl,g⟩;obtain⟨ac,d,rfl,L,ab,I⟩:=g.out;have aR:=hid (λE j=>a7.out a E k z D B d ac j L ab I);have aO:=hid L;clear g;have g:=hid ac;clear ac ab I L a7 aa)
   |(go_at_call 18;refine(aR.out _ ((Acv a.heap.size a).alloc (Acu _) _)).mono ?_;rintro _ a4 ⟨ag,af,x,w,u,rfl,N,a0,ao,ap,aq,aQ⟩;have aj:=hid (ak.out.cK ((g.out.trans ((((Acv a.heap.size a).alloc (Acu _) _).mono g.out.size).trans (N.out.mono (Ac5 g.out.size (by simp))))).block _ ay));obtain⟨be,bf,bg,H⟩:=aj.out;have bh:=H 0;have bi:=H 1;have bj:=H 2;clear H))
  obtain⟨a1,a2,a3,-⟩:V3 (HN a4 n.heap.size (S r) (W ag c.length af) (W x w u)) n.heap.size (S r) (W ag c.length af) (W x w u):=V3.set (V3.set (V3.set aj.out 0 (S r)) 1 (W ag c.length af)) 2 (W x w u);have ac:=g.out.trans ((((Acv a.heap.size a).alloc (Acu _) _).mono g.out.size).trans (N.out.mono (Ac5 g.out.size (by simp))));refine Adc (v:=R #[T #[S r,W ag c.length af,W x w u],V C 0,V C 0]) (by simp[results,Tryz.results9,go_sem,a1,a2,a3]) rfl ?_;refine⟨(((Y.out.trans (ac.mono Y.out.size)).setCell (Acu _) _).setCell (Acu _) _).setCell (Acu _) _,ag,af,x,w,u,rfl,_,d,a0,ao,ap,aq,Ac5 Y.out.size (Ac5 g.out.size (Nat.le_of_lt (Nat.lt_of_lt_of_eq (Ab8 _) (by simp)))),aO.out,aQ.out.fr (by simp) λl q=>?_⟩;have az:l≠n.heap.size:=by
   have:=g.out.size;simp at q;omega
  exact(Ac4 _ _ _ l az).trans ((Ac4 _ _ _ l az).trans (Ac4 _ _ _ l az))
def Ik(f g:Nat)(b a c:Int):Prop:=(0<=a/\a<=1000/\0<=c/\c<=1000)/\match g with
 |0=>-9223372036854775808<=b/\b<9223372036854775808/\c=a+1
 |1=>0<=b/\b<(f:Int)/\c=a+1
 |2=>0<=b/\b+1<=a/\c=a+1
 |3=>b=0/\2<=a/\c=a-1
 |4=>0<=b/\b+1<=a/\c=a-b
 |5=>0<=b/\b+2<=a/\c=a-1
 |6=>0<=b/\b<=a/\c=a-b
 |7=>1<=b/\c=a+b
 |8=>b=0/\1<=a/\c=a
 |9|10|11|12|13|14=>b=0/\2<=a/\c=a-1
 |15=>∃e d:Nat,b=(e:Int)*256+(d:Int)/\e<256/\d<256/\(d:Int)<=a/\c=a+1-(d:Int)
 |16=>0<=b/\b<=255/\1<=a/\c=a-1+b
 |17=>b=0/\1<=a/\c=a
 |18=>0<=b/\b<=65535/\c=a
 |19=>b=0/\a=1/\c=a
 |_=>False
theorem Pg(a:Ik w v we w7 nk):TI v we w7=nk:=by
 let ⟨e,a⟩:=a
 unfold TI;split at a;case h_16=>
  obtain⟨d,b,rfl,f,g,h,i⟩:=a;have c:((d:Int)*256+(b:Int)).tmod 256=b:=by grind
  simp[Fh,DE,ZD,Aer,c];omega
 all_goals first
  |exact a.elim
  |(simp[Fh,DE,ZD,Aer];omega)
theorem Ik.up(a:Ik w b we w7 nk)(d:w<=v):Ik v b we w7 nk:=by
 let ⟨c,a⟩:=a
 refine⟨c,?_⟩;grind
def sc(a:Bp)(c:Nat):List Nat:=if a.op=19\/a.op=20 then [] else if a.op=18 then [a.a.toNat] else if a.op=17 then a.alts.map λb=>b.to.toNat else [c+1]
def iy(a:Bp):Nat:=if a.op=0 then 11 else if a.op=3\/8<=a.op/\a.op<=14\/a.op=19 then 1 else if a.op=17 then 3+5*a.alts.length else 4
def cb(a:List Bp):Nat:=(a.map iy).sum
def cc:Ex->Nat
 |.op _ _ _=>4100
 |.case _ _=>4100
 |_=>1500
def VL(a:Dd):Nat:=a.2.1.length+(900*wt 31 a.2.2-(cc a.2.2-220))
def Ea(a:KS):Nat:=20*cb a.code+9*a.code.length+a.z+440*a.kn.length+(a.td.map VL).sum
def Nw(c:ByteArray)(b:Nat):Prop:=∃a,AM a=true/\c.data.toList=a.data.toList++35::Lib.itoa (b:Int)
def NwT(a:ByteArray):Prop:=AM a=true\/∃b,Nw a b
structure TK (b:ByteArray->Bool) (a:Dd):Prop where
 n:NwT a.1
 l:a.2.1.length<=20
 f:XF 31 a.2.2
 g:gE b 31 a.2.1 a.2.2=[]
 w:2*a.2.1.length+wt 31 a.2.2<=1990
structure Wk (f:ByteArray->Bool) (k0:List ByteArray×Int) (c:KS) (e:List Int) (h:List Nat) (g:Bool):Prop where
 gl:e.length=c.code.length
 ok:∀k x d,c.code[k]?=some x->e[k]?=some d->k∉h->∃d',Ik c.kn.length x.op.toNat x.a d d'/\0<=x.op/\(x.op≠17->x.alts=[])/\(x.op=17->0<x.alts.length/\(x.alts.map (·.tag)).Nodup/\∀b∈x.alts,0<=b.tag/\b.tag<256/\0<=b.to)/\∀t∈sc x k,e[t]?=some d'\/g=true/\t=c.code.length/\c.AB=d'
 kg:∀t,f t=true->t∈c.kn
 tk:∀t∈c.td,TK f t
 kp:k0.1<+:c.kn
 kf:∀i t,k0.1.length<=i->c.kn[i]?=some t->Nw t i
 st:∀d,e[0]?=some d->d=k0.2
 se:e=[]->g=true/\c.AB=k0.2
def Kv(a:KS):List ByteArray:=a.loc.map (·.1)
def Lo(a:KS):Prop:=∀b∈a.loc,0<=b.2/\b.2<a.AB
structure Ev (e:ByteArray->Bool) (k0:List ByteArray×Int) (f:List Nat) (b:KS) (h:List Int) (a:KS) (g:Nat) (c:Int):Prop where
 w:∃g',Wk e k0 a (h++g') f true
 d:a.AB=c
 p:Ea a<=Ea b+g
 l:a.loc=b.loc
theorem Wk.put{k0:List ByteArray×Int}{o':Bool}(b:Wk wo k0 r wm t true){op:Nat}{a d':Int}(k:Ik r.kn.length op a r.AB d')(w:r.code.length∉t->op≠17/\op≠18/\(op=19\/o'=true)):Wk wo k0 (AE op a r) (wm++[r.AB]) t o':=by
 have v:(AE op a r).code.length=r.code.length+1:=by simp[AE]
 refine {b with gl:=by simp[b.gl,v],ok:=λl y g f c i=>?_,st:=λg c=>?_,se:=λe=>by simp at e};rotate_left
 ·cases wm with
  |nil=>cases c;exact(b.se rfl).2
  |cons a wm=>exact b.st g c
 rcases Nat.lt_trichotomy l r.code.length with j|rfl|j
 ·rw[show(AE op a r).code=r.code++[⟨op,a,[]⟩] from rfl,Aa9 j]at f;rw[Aa9 (by rw[b.gl];omega)]at c;let ⟨e,n,p,q,s,u⟩:=b.ok l y g f c i
  refine⟨e,n,p,q,s,λm d=>.inl ?_⟩;rcases u m d with h|⟨-,rfl,h⟩
  ·grind
  ·rw[<-b.gl];simp[h]
 ·rw[show(AE op a r).code=r.code++[⟨op,a,[]⟩] from rfl,Abt]at f;rw[<-b.gl,Abt]at c;cases f;cases c;let ⟨z,B,x⟩:=w i
  refine⟨d',by simpa[AE]using k,by simp,λ_=>rfl,λb=>by simp at b;omega,λm d=>.inr ?_⟩;unfold sc at d;split at d
  ·cases d
  ·rename_i o
   rw[if_neg (by simp;omega),if_neg (by simp;omega),Ac9]at d;exact⟨x.resolve_left λe=>o (.inl (by simp[e])),by omega,(Pg k)⟩
 grind
theorem Wk.at{k0:List ByteArray×Int}{P':List Nat}(b:Wk wo k0 r wm t w2)(g:∀a∈t,a∈P'):Wk wo k0 r wm P' w2:={b with ok:=λa i c h d e=>b.ok a i c h d λf=>e (g a f)}
theorem Wk.shut{k0:List ByteArray×Int}(b:Wk wo k0 r wm t false){a:Int}{l:List (ByteArray×Int)}{z:Nat}:Wk wo k0 {r with AB:=a,loc:=l,z:=z} wm t true:=by
 refine {b with ok:=λg h a f d e=>?_,se:=λc=>by cases (b.se c).1};let ⟨c,i,j,k,m,n⟩:=b.ok g h a f d e
 grind
theorem Wk.loc{k0:List ByteArray×Int}(a:Wk wo k0 r wm t w2){l:List (ByteArray×Int)}{z:Nat}:Wk wo k0 {r with loc:=l,z:=z} wm t w2:={a with}
theorem Ev.refl{k0:List ByteArray×Int}(a:Wk wo k0 r wm t true):Ev wo k0 t r wm r 0 r.AB:=⟨⟨[],by simpa using a⟩,rfl,Acu _,rfl⟩
theorem Ev.trans{a:ByteArray->Bool}{k0:List ByteArray×Int}{b:List Nat}{j g k:KS}{i:List Int}{h c2:Nat}{m D2:Int}(f:Ev a k0 b j i g h m)(r:∀c,Wk a k0 g c b true->Ev a k0 b g c k c2 D2):Ev a k0 b j i k (h+c2) D2:=by
 let ⟨c,o⟩:=f.w
 have e:=r _ o;let ⟨n,q⟩:=e.w
 exact⟨⟨c++n,by simpa using q⟩,e.d,by have:=f.p;have:=e.p;omega,e.l.trans f.l⟩
theorem Ev.le{k0:List ByteArray×Int}{c b:Nat}(a:Ev wo k0 t r wm ny b w7)(f:b<=c)(e:w7=we):Ev wo k0 t r wm ny c we:=⟨a.w,a.d.trans e,Ac5 a.p (by omega),a.l⟩
theorem Gq(b:Nat)(a:Int)(c:KS):Ea (AE b a c)=Ea c+20*iy ⟨b,a,[]⟩+10:=by
 unfold Ea AE cb;grind
theorem Ev.put{c:ByteArray->Bool}{k0:List ByteArray×Int}{d:List Nat}{b:KS}{e:List Int}(h:Wk c k0 b e d true){op:Nat}{a d':Int}(g:Ik b.kn.length op a b.AB d')(f:op≠17/\op≠18):Ev c k0 d b e (AE op a b) (20*iy ⟨op,a,[]⟩+10) d':=
 ⟨⟨_,h.put g λ_=>⟨f.1,f.2,.inr rfl⟩⟩,Pg g,by rw[Gq];omega,rfl⟩
theorem Wh(b:Jm s np=some we):(s,we)∈np:=by
 unfold Jm at b;cases hf:np.reverse.find? (λa=>decide (a.1=s)) with
 |none=>grind
 |some a=>
  grind
theorem Xo(a:Jm s np=none):s∉np.map (·.1):=by
 unfold Jm at a;simp at a ⊢;grind
theorem To(c:s∈y):0<=Et s y/\Et s y<(y.length:Int):=by
 have a:=Tt s y;have d:A3 s y 0=true:=by simpa[A3]using c
 rw[d,decide_eq_true_eq]at a;refine⟨a,?_⟩;unfold Et at a ⊢;split
 ·rename_i e b
  obtain⟨b,-⟩:=Abw.1 b;omega
 ·omega
theorem Ev.look{k0:List ByteArray×Int}{b:List Nat}(c:Wk wo k0 r wm b true)(e:Lo r){t:ByteArray}(g:0<=r.AB/\r.AB<=999)(f:t∈Kv r\/t∈r.kn):Ev wo k0 b r wm (Bu t r) 90 (r.AB+1):=by
 unfold Bu;split
 ·rename_i d a
  have:=e _ (Wh a);simp at this;rw[show Aer (Aer (r.AB-1)-d)=r.AB-1-d by simp[Aer];omega];exact(Ev.put c (op:=2) ⟨⟨by omega,by omega,by omega,by omega⟩,by omega,by omega,rfl⟩ (by omega)).le .refl rfl
 ·rename_i a
  have:=To (f.resolve_left (Xo a));exact(Ev.put c (op:=1) ⟨⟨by omega,by omega,by omega,by omega⟩,this.1,this.2,rfl⟩ (by omega)).le .refl rfl
theorem Is(a:Lo r)(b:ny.loc=r.loc)(e:r.AB<=ny.AB):Lo ny:=λd c=>by
 have:=a d (b▸c);omega
theorem FQ(a:ny.loc=r.loc):Kv ny=Kv r:=by unfold Kv;rw[a]
theorem Ev.looks{g:ByteArray->Bool}{k0:List ByteArray×Int}{i:List Nat}:∀b {a:KS} {e:List Int},Wk g k0 a e i true->Lo a->(0<=a.AB/\a.AB+(b.length:Int)<=1000)->(∀f∈b,f∈Kv a)->Ev g k0 i a e (DS b a) (b.length*90) (a.AB+(b.length:Int))
 |[],a,e,h,_,_,_=>(Ev.refl h).le .refl (by simp)
 |f::b,a,e,h,hl,hd,ht=>by
  rw[Aea]at hd;have c:=Ev.look h hl (by omega) (.inl (ht f (by simp)));refine(Ev.trans c (c2:=b.length*90) (D2:=a.AB+1+(b.length:Int)) λk j=>?_).le (by simp;omega) (by simp;omega);exact(Ev.looks b j (Is hl c.l (by rw[c.d];omega)) (by rw[c.d];omega) λm l=>by rw[FQ c.l];grind).le .refl (by rw[c.d])
theorem Ev.dN{f:ByteArray->Bool}{k0:List ByteArray×Int}{g:List Nat}:∀(b:Nat) {a:KS} {e:List Int},Wk f k0 a e g true->(1+(b:Int)<=a.AB/\a.AB<=1000)->Ev f k0 g a e (E3 3 0 b a) (b*30) (a.AB-(b:Int))
 |0,a,e,h,_=>(Ev.refl h).le .refl (by simp)
 |b+1,a,e,h,hd=>by
  have c:=Ev.dN b h (by omega);refine(Ev.trans c (c2:=30) (D2:=a.AB-(b:Int)-1) λj i=>?_).le (by omega) (by omega);exact(Ev.put i (op:=3) ⟨⟨by rw[c.d];omega,by rw[c.d];omega,by omega,by omega⟩,rfl,by rw[c.d];omega,by rw[c.d]⟩ (by omega)).le .refl rfl
theorem FX:A3 s y 0=true↔s∈y:=by simp[A3]
def fr:Nat->Ex->List ByteArray
 |0,_=>[]
 |d+1,e=>(match e with|.name _ a _=>[a]|_=>[])++(C5 e).flatMap λb=>(fr d b.1).filter λa=>!A3 a (b.2.map (·.1)) 0
theorem Yb:∀a {b c:Nat},fK b a=[]->c<=b->fK c a=[]
 |[],_,_,_,_=>rfl
 |x::a,b,c,h,hn=>by
  simp[fK]at h ⊢;refine⟨?_,Yb a h.2 (by omega)⟩;grind
theorem LW:∀b {a:Nat},a<=20->fK a b=[]->a+b.length<=20
 |[],_,hn,_=>hn
 |x::b,a,hn,h=>by
  simp only[fK,Ab1]at h;have c:=h.1;split at c
  ·cases c
  ·have:=LW b (by omega) h.2;grind
theorem N2(b:gE wo (w+1) y N=[]):fN wo y N=[]/\∀a∈C5 N,fK y.length a.2=[]/\gE wo w (y++a.2.map (·.1)) a.1=[]:=by
 simp only[gE,Ab1,Ahm]at b;exact b
theorem XP(b:fN wo y N=[])(c:∀a∈C5 N,fK y.length a.2=[]/\gE wo w (y++a.2.map (·.1)) a.1=[]):gE wo (w+1) y N=[]:=by
 simp only[gE,Ab1,Ahm];exact⟨b,c⟩
theorem Vb{k:ByteArray->Bool}:∀b e f c,gE k b e c=[]->f.length<=e.length->(∀a∈fr b c,a∈e->a∈f)->gE k b f c=[]
 |0,_,_,_,_,_,_=>rfl
 |b+1,e,f,c,h,hl,ht=>by
  let ⟨n,l⟩:=N2 h
  refine XP ?_ λi j=>⟨Yb _ (l i j).1 hl,Vb b _ _ _ (l i j).2 (by simp;omega) λa p d=>?_⟩
  ·cases c with
   |name g a pl=>
    simp[fN]at n ⊢;have o:=ht a (by simp[fr]);rw[<-FX,<-FX]at o;grind
   |_=>rfl
  ·rcases Acz.1 d with d|d
   ·by_cases m:a∈i.2.map (·.1)
    ·grind
    ·refine Acw _ (ht a (Acx _ (Ada.2 ⟨i,j,List.mem_filter.2 ⟨p,?_⟩⟩)) d);rw[<-FX]at m;simpa using m
   grind
theorem P7(a:xw∈C5 N):xw.1∈Bd N\/∃c∈DJ N,c.2.2=xw.1:=by
 cases N with
 |num n=>cases a
 |name g t p=>cases a
 |call ps=>obtain⟨y,b,rfl⟩:=Adj.1 a;exact .inl b
 |Fs t fs=>obtain⟨y,b,rfl⟩:=Adj.1 a;exact .inl b
 |op k l r=>
  simp[C5,or_false]at a;rcases a with rfl|rfl<;>simp[Bd]
 |lets r ns es c=>
  simp only[C5,Acz,Adj,Ac9]at a;rcases a with⟨y,b,rfl⟩|rfl
  ·exact .inl (by simp[Bd,b])
  ·exact .inl (by simp[Bd])
 |case y bs=>
  simp only[C5,Ady,Adj]at a;rcases a with rfl|⟨c,d,rfl⟩
  ·exact .inl (by simp[Bd])
  ·exact .inr ⟨c,d,rfl⟩
theorem VD:∀a c,XF a c->XD a c
 |0,_,h=>h
 |a+1,_,h=>⟨λd f=>VD a d (h.2.1 d f),λb e=>VD a b.2.2 (h.2.2 b e)⟩
theorem Yt{f:ByteArray->Bool}:∀a e b,XF a b->gE f a e b=[]->gE f (a+1) e b=[]
 |0,_,_,h,_=>h.elim
 |a+1,e,b,h,k=>by
  let ⟨l,g⟩:=N2 k
  refine XP l λi d=>⟨(g i d).1,Yt a _ _ ?_ (g i d).2⟩;rcases P7 d with c|⟨j,m,c⟩
  ·exact h.2.1 _ c
  ·exact c▸h.2.2 j m
theorem Za{e:ByteArray->Bool}{d:List ByteArray}{b:Ex}:∀c a,a+c=31->XF a b->gE e a d b=[]->XF 31 b/\gE e 31 d b=[]/\wt 31 b=wt a b
 |0,a,hd,h,k=>by grind
 |c+1,a,hd,h,k=>by
  have:=Za c (a+1) (by omega) (RN a b h) (Yt a d b h k);exact⟨this.1,this.2.1,this.2.2.trans (VI a b (VD a b h))⟩
structure Cs (g:ByteArray->Bool) (h hid f e:List ByteArray):Prop where
 a:∀t∈f,t∈e
 b:∀t∈h,t∉hid->g t=true->t∈e
 c:f.Nodup->e.Nodup
 d:∀t∈e,t∈f\/g t=true
theorem U1(l:ByteArray->Bool):∀i p hid b,Cs l (fr i p) hid b (DN l i p hid b)
 |0,_,_,_=>⟨λ_ a=>a,λ_ a=>(by cases a),λa=>a,λ_ a=>.inl a⟩
 |i+1,p,hid,b=>by
  have s:∀(o:List (Ex×Av)) b,Cs l (o.flatMap λm=>(fr i m.1).filter λe=>!A3 e (m.2.map (·.1)) 0) hid b (o.foldl (λb k=>DN l i k.1 (hid++k.2.map (·.1)) b) b):=by
   intro o;induction o with
   |nil=>exact λb=>⟨λ_ a=>a,λ_ a=>(by cases a),λa=>a,λ_ a=>.inl a⟩
   |cons k o ih=>
    intro b;have q:=U1 l i k.1 (hid++k.2.map (·.1)) b;have n:=ih (DN l i k.1 (hid++k.2.map (·.1)) b);refine⟨λe d=>n.a e (q.a e d),λe d j r=>?_,λa=>n.c (q.c a),λe d=>(n.d e d).elim (q.d e) .inr⟩;rw[Adh,Acz]at d;rcases d with d|d
    ·rw[List.mem_filter]at d;refine n.a e (q.b e d.1 (λf=>?_) r);rcases Acz.1 f with f|f
     ·exact j f
     ·rw[FX.2 f]at d;cases d.2
    ·exact n.b e d j r
  cases p with
  |name g e pl=>
   unfold DN fr;simp only;split
   ·rename_i a
    simp only[Ael,Bool.not_eq_true',<-Bool.not_eq_true,FX]at a;refine⟨λm h=>by simp[h],λm h _ _=>by simp[C5]at h;simp[h],λj=>Aee.2 ⟨j,by simp,λt v u w=>by grind⟩,λm h=>?_⟩;grind
   ·rename_i a
    refine⟨λ_ a=>a,λm h j r=>?_,λa=>a,λ_ a=>.inl a⟩;simp[C5]at h;subst h;apply Classical.byContradiction;intro f;exact a (by rw[r];rw[<-FX]at j f;simp[j,f])
  |_=>exact s _ b
theorem LB:∀(b:List ByteArray) {m:List ByteArray},b.Nodup->(∀a∈b,a∈m)->b.length<=m.length
 |[],_,_,_=>by simp
 |a::b,m,h,k=>by
  have e:=LB b (m:=m.filter λc=>decide (c≠a)) (Ahd.1 h).2 λc d=>List.mem_filter.2 ⟨k c (by simp[d]),by
   grind⟩
  have f:(m.filter λc=>decide (c≠a)).length<m.length:=List.length_filter_lt_length_iff_exists.2 ⟨a,k a (by simp),by simp⟩;grind
theorem QX:Kx r s=true↔s∈Kv r:=by simp[Kx,Kv]
structure Pe (e:ByteArray->Bool) (i:ByteArray) (c:Nat) (d:Ex) (a:KS):Prop where
 h:c<=31
 f:XF c d
 g:gE e c (Kv a) d=[]
 l:(Kv a).length<=20
 w:2*(Kv a).length+wt c d<=1990
 b:0<=a.AB/\2*a.AB+(wt c d:Int)<=2000
 p:Ea a+900*wt c d<=1900000
 o:Lo a
 n:NwT i
theorem Nw.made(a:NwT s)(b:Nat):Nw (Db s b) b:=by
 rcases a with a|⟨e,d,a,c⟩
 ·exact⟨s,a,Pz (by simp) (DC a).2.1 (.inl rfl) b⟩
 ·exact⟨d,a,Pz c (DC a).2.1 (.inr ⟨_,rfl⟩) b⟩
theorem Wk.add{k0:List ByteArray×Int}{e:List Nat}{t:Dd}(b:Wk wo k0 r wm e true)(n:Nw t.1 r.kn.length)(o:TK wo t):Wk wo k0 (DU t r) wm e true:=by
 refine {b with ok:=λm d g a j l=>?_,kg:=λt c=>Acw _ (b.kg t c),tk:=λd a=>?_,kp:=b.kp.trans (Ae6 _ _),kf:=λf d k a=>?_}
 ·let ⟨h,c,i⟩:=b.ok m d g a j l
  exact⟨h,c.up (by simp[DU]),i⟩
 ·rcases Acz.1 a with a|a
  ·exact b.tk d a
  grind
 ·rcases Nat.lt_trichotomy f r.kn.length with c|rfl|c
  ·exact b.kf f d k (by rw[show(DU t r).kn=r.kn++[t.1] from rfl,Aa9 c]at a;exact a)
  ·rw[show(DU t r).kn=r.kn++[t.1] from rfl,Abt]at a;grind
  ·rw[List.getElem?_eq_none (by simp[DU];omega)]at a;cases a
theorem UM(a:Pe wo s w N r)(c:Cs (Kx r) (fr w N) [] [] y)(d:y.length<=(Kv r).length):gE wo 31 y N=[]:=
 (Za (31-w) w (by have:=a.h;omega) a.f (Vb w _ y N a.g d λj i e=>c.b j i nofun (QX.2 e))).2.1
theorem Ev.wait{k0:List ByteArray×Int}{d:Nat}(v:Wk wo k0 r wm t true)(a:Pe wo s d N r)(M:2*(FJ d N:Int)+2+2*r.AB<=2000):Ev wo k0 t r wm (BC s d N r) (2951+(900*wt d N-(cc N-220))) (r.AB+1):=by
 unfold BC;have E:=F0 (Kx r) d N [] [];rw[Ae5,Aey]at E;have i:=U1 (Kx r) d N [] [];generalize hl:DN (Kx r) d N [] []=l at*;obtain⟨G,U,Y⟩:=Za (31-d) d (by have:=a.h;omega) a.f a.g;have q:=λe g=>QX.1 ((i.d e g).resolve_left nofun);have k:=LB l (i.c Ag6) q;have L:=Ac5 k a.l;have u:=Nw.made a.n r.kn.length;have D:=a.b.1;have x:Ev wo k0 t r wm (DU (Db s r.kn.length,l,N) r) (441+l.length+(900*wt d N-(cc N-220))) r.AB:=by
  refine⟨⟨[],by rw[Ad8];exact v.add u ⟨.inr ⟨_,u⟩,Ac5 k a.l,G,UM a i k,by have:=a.w;simp only;omega⟩⟩,rfl,?_,rfl⟩;unfold Ea DU VL;grind
 refine(Ev.trans (c2:=l.length*90+(90+l.length*30)) x λH y=>?_).le (by omega) rfl;have h:=Ev.looks l.reverse y (λe g=>a.o e g) ⟨D,by rw[Afg];show r.AB+_<=_;omega⟩ (λe g=>q e (by simpa using g));rw[Afg]at h;refine Ev.trans h λI z=>?_;have p:(DS l.reverse (DU (Db s r.kn.length,l,N) r)).AB=r.AB+l.length:=h.d;have j:(Db s r.kn.length)∈(DS l.reverse (DU (Db s r.kn.length,l,N) r)).kn:=by
  obtain⟨O,-,j⟩:=Kw.fold l.reverse (λe _ r=>Kw.look e r) (DU (Db s r.kn.length,l,N) r);rw[show(DS l.reverse (DU (Db s r.kn.length,l,N) r)).kn=_ from j];exact Acw _ (Acx _ (by simp))
 have m:=Ev.look z (λe g=>by rw[h.l]at g;have:=a.o e g;omega) (by omega) (.inr j);refine Ev.trans m λK B=>?_;exact(Ev.dN l.length B (by rw[m.d,p];omega)).le .refl (by rw[m.d,p];omega)
theorem Pe.dD{b:Nat}{ns:Av}(a:Pe wo s (b+1) N r)(i:(sm,ns)∈C5 N)(e:Kv ny=Kv r++ns.map (·.1))(t:2*ns.length+wt b sm<=wt (b+1) N)(d:0<=ny.AB/\2*ny.AB+(wt b sm:Int)<=2000)(p:Ea ny+900*wt b sm<=1900000)(o:Lo ny):Pe wo s b sm ny:=by
 let ⟨k,m⟩:=(N2 a.g).2 _ i
 have q:=LW _ a.l k;refine⟨by have:=a.h;omega,?_,by rw[e];exact m,by grind,by rw[e,Adk,Adf];have:=a.w;omega,d,p,o,a.n⟩;rcases P7 i with c|⟨j,d,c⟩
 ·exact a.f.2.1 _ c
 ·simp at c;exact c▸a.f.2.2 j d
def cg:Ex->Nat
 |.op _ _ _=>900
 |.case _ _=>900
 |_=>1550
theorem UV(a:Ex):900<=cg a:=by cases a<;>simp[cg]
theorem Hj(a:Ex):1500<=cc a:=by cases a<;>simp[cc]
def ZF(c:ByteArray->Bool)(k0:List ByteArray×Int)(g:ByteArray)(d:Nat):Prop:=∀(b:Ex) (a:KS) (f:List Int) (e:List Nat),Wk c k0 a f e true->Pe c g d b a->Ev c k0 e a f (kG g d b a) (900*wt d b-cg b) (a.AB+1)
theorem Ev.fold{i:ByteArray->Bool}{k0:List ByteArray×Int}{m:List Nat}{b:Nat}{n:ByteArray}(o:ZF i k0 n b):∀(l:List Ex) {a:KS} {g:List Int},Wk i k0 a g m true->(∀d∈l,2<=wt b d/\∀e,e.loc=a.loc->(0<=e.AB/\2*e.AB+(wt b d:Int)<=2000)->Ea e+900*wt b d<=1900000->Lo e->Pe i n b d e)->Lo a->(0<=a.AB/\2*a.AB+((l.map (wt b)).sum:Int)<=2000)->Ea a+900*(l.map (wt b)).sum<=1900000->
 Ev i k0 m a g (l.foldl (λa q=>kG n b q a) a) (900*(l.map (wt b)).sum-900*l.length) (a.AB+(l.length:Int))
 |[],a,g,h,_,_,_,_=>(Ev.refl h).le .refl (by simp)
 |d::l,a,g,h,hk,ho,hb,hq=>by
  simp[Int.natCast_add]at hb hq ⊢;have u:=CR (l:=l) λk j=>(hk k (by simp[j])).1;have v:=(hk d (by simp)).1;have f:=(o d a g m h ((hk d (by simp)).2 a rfl ⟨hb.1,by omega⟩ (by omega) ho)).le (c:=900*wt b d-900) (by have:=UV d;omega) rfl;have w:=f.p;refine(Ev.trans (c2:=900*(l.map (wt b)).sum-900*l.length) (D2:=a.AB+1+(l.length:Int)) f λt r=>?_).le (by omega) (by omega);exact(Ev.fold o l r (λk j=>⟨(hk k (by simp[j])).1,λe s=>(hk k (by simp[j])).2 e (s.trans f.l)⟩) (Is ho f.l (by rw[f.d];omega)) (by rw[f.d];omega) (by omega)).le .refl (by rw[f.d])
theorem OK(e:Int):∀d b,∀f∈Jk e b d,∃c,b<=c/\c<b+d.length/\f.2=Aer (e+(c:Int))
 |[],_,_,a=>by cases a
 |t::d,b,f,a=>by
  rcases Ady.1 a with rfl|a
  ·grind
  ·let ⟨c,g,h,i⟩:=OK e d (b+1) f a
   grind
theorem Nc(b:Int):∀a c,(Jk b c a).map (·.1)=a
 |[],_=>rfl
 |t::a,c=>by simp[Jk,Nc b a]
theorem Ny{k0:List ByteArray×Int}{ns:Av}{b:Int}(d:Wk wo k0 r wm t true)(g:Lo r)(i:0<=b/\r.AB=b+(ns.length:Int)/\r.AB<=1000):Wk wo k0 (BI b ns r) wm t true/\Lo (BI b ns r)/\Kv (BI b ns r)=Kv r++ns.map (·.1)/\Ea (BI b ns r)=Ea r+ns.length:=by
 refine⟨d.loc,λc a=>?_,by simp[Kv,BI,Nc],by unfold Ea BI;simp only;omega⟩;rcases Acz.1 a with a|a
 ·exact g c a
 ·let ⟨j,h,e,f⟩:=OK b _ 0 c a
  rw[Adf]at e;rw[f];show 0<=_/\_<r.AB;simp[Aer];omega
theorem Ev.gR{k0:List ByteArray×Int}(c:ZF wo k0 s w)(b:Wk wo k0 r wm t true)(a:Pe wo s w N r)(e:(wt w N:Int)+2+2*r.AB<=2000):Ev wo k0 t r wm (Xj (BC s w) (kG s w) N r) (900*wt w N+1700) (r.AB+1):=by
 have d:=Bf w N a.f;have g:=G1 w N;unfold Xj;split
 ·exact(Ev.wait b a (by omega)).le (by simp[cc];omega) rfl
 ·exact(Ev.wait b a (by omega)).le (by simp[cc];omega) rfl
 ·exact(c N r wm t b a).le (by omega) rfl
theorem Ev.d9{i:ByteArray->Bool}{k0:List ByteArray×Int}{j:List Nat}{d:KS}{k:List Int}{a:Nat}{e:ByteArray}(n:ZF i k0 e a){es:List Ex}{b:Int}(y:0<=b/\d.AB=b+(es.length:Int))(m:Wk i k0 d k j true)(q:∀h∈es,∀g,g.loc=d.loc->(0<=g.AB/\2*g.AB+(wt a h:Int)<=2000)->Ea g+900*wt a h<=1900000->Lo g->Pe i e a h g)(r:Lo d)(o:∀h∈es,(wt a h:Int)+2+2*d.AB<=2000)(z:Ea d+900*(es.map (wt a)).sum+1790*es.length<=1900000):∀c,c<=es.length->
 Ev i k0 j d k (CY (nth (Xj (BC e a) (kG e a)) es) b c d) (900*((es.take c).map (wt a)).sum+1790*c) d.AB
 |0,_=>(Ev.refl m).le (by simp) rfl
 |c+1,hj=>by
  have f:=Ev.d9 n y m q r o z c (by omega);have s:es[c]∈es:=Ac8 _;have v:((es.take (c+1)).map (wt a)).sum=((es.take c).map (wt a)).sum+wt a es[c]:=by rw[Ade (by omega),Adq,List.sum_append];rfl
  have B:((es.take (c+1)).map (wt a)).sum<=(es.map (wt a)).sum:=by
   have:=Ag4 (c+1) es;grind
  have H:=f.p;have G:=o _ s;refine(Ev.trans (c2:=900*wt a es[c]+1700+90) (D2:=d.AB) f λD w=>?_).le (by rw[v];omega) rfl;rw[CY,show nth (Xj (BC e a) (kG e a)) es c=Xj (BC e a) (kG e a) es[c] by simp[nth,show c<es.length from hj]];have t:=Ev.gR n w (q _ s _ f.l (by rw[f.d];omega) (by omega) (Is r f.l (by rw[f.d];omega))) (by rw[f.d];omega);refine Ev.trans t λE x=>?_;have u:(Xj (BC e a) (kG e a) es[c] (CY (nth (Xj (BC e a) (kG e a)) es) b c d)).AB=d.AB+1:=by rw[t.d,f.d]
  unfold EV;rw[u,show Aer (Aer (d.AB+1-2)-Aer (b+(c:Int)))=d.AB-1-(b+(c:Int)) by simp[Aer];omega];exact(Ev.put x (op:=5) ⟨⟨by omega,by omega,by omega,by omega⟩,by omega,by omega,by omega⟩ (by omega)).le (by simp[iy]) rfl
structure Abg (e:ByteArray->Bool) (k0:List ByteArray×Int) (f:List Nat) (b:KS) (h:List Int) (a:KS) (c:Av) (g:Nat):Prop where
 w:∃g',Wk e k0 a (h++g') f true
 d:a.AB=b.AB+(c.length:Int)
 p:Ea a<=Ea b+g
 n:Kv a=Kv b++c.map (·.1)
 o:Lo a
theorem Kd{k0:List ByteArray×Int}{d:Nat}(H:ZF wo k0 s d){E:Bool}{ns:Av}{es:List Ex}{b:Ex}(G:Wk wo k0 r wm t true)(e:Pe wo s (d+1) (.lets E ns es b) r):Abg wo k0 t r wm (DV (BC s d) (kG s d) E ns es r) ns (900*(nW ns+(es.map (wt d)).sum)+90):=by
 have ad:=DX ns;have v:=e.f.1.1;have ac:=e.f.1.2;have U:wt (d+1) (.lets E ns es b)=4+nW ns+(es.map (wt d)).sum+wt d b:=rfl;have j:=e.b;have N:=e.p;rw[U]at j N;have O:∀h∈es,wt d h<=(es.map (wt d)).sum:=λh g=>De (f:=wt d) g;have ab:=Bf d b (e.f.2.1 b (by simp[Bd]));unfold DV;split
 ·rename_i z
  subst z;have c:=Ev.put G (op:=7) (a:=(ns.length:Int)) ⟨⟨by omega,by omega,by omega,by omega⟩,by omega,rfl⟩ (by omega);have I:Ea (AE 7 (ns.length:Int) r)=Ea r+90:=by rw[Gq];rfl
  let ⟨n,q⟩:=c.w
  obtain⟨D,k,m,K⟩:=Ny (ns:=ns) (b:=r.AB) q (Is e.o rfl (by rw[c.d];omega)) ⟨j.1,c.d,by rw[c.d];omega⟩;have i:=Ev.d9 H (b:=r.AB) (es:=es) ⟨j.1,by rw[v];exact c.d⟩ D (λh g aa B u y x=>e.dD (ns:=ns) (by simp[C5,g]) (by rw[FQ B,m];rfl) (by grind) u y x) k (λh g=>by have:=O h g;show _+2+2*(AE 7 (ns.length:Int) r).AB<=_;rw[c.d];omega) (by omega) es.length (Acu _);have Y:=i.p;rw[Ad9,K,I]at Y;let ⟨L,M⟩:=i.w
  exact⟨⟨n++L,by simpa using M⟩,i.d.trans c.d,by omega,by rw[FQ i.l,m];rfl,Is k i.l (by rw[i.d];omega)⟩
 ·rename_i z
  have c:=Ev.fold H es G (λh g=>⟨(λh g=>Bf d h (e.f.2.1 h (by simp[Bd,g]))) h g,λaa B u y x=>e.dD (ns:=[]) (by simp[C5,g,z]) (by rw[FQ B];simp) (by grind) u y x⟩) e.o ⟨j.1,by omega⟩ (by omega);let ⟨n,q⟩:=c.w
  have I:=c.p;let ⟨D,k,m,K⟩:=Ny (ns:=ns) (b:=r.AB) q (Is e.o c.l (by rw[c.d];omega)) ⟨j.1,by rw[c.d,v],by rw[c.d];omega⟩
  exact⟨⟨n,D⟩,by rw[<-v];exact c.d,by omega,by rw[m,FQ c.l],k⟩
theorem JO{k0:List ByteArray×Int}{s:KS}{n:Nat}{D:Int}{R:List (ByteArray×Int)}(c:Wk wo k0 r wm t true)(j:r.loc=s.loc++R)(h:R.length=n)(i:r.AB=D+(n:Int))(g:1<=D/\r.AB<=1000):(∃f,Wk wo k0 (AW n r) (wm++f) t true)/\(AW n r).AB=D/\Ea (AW n r)<=Ea r+90/\(AW n r).loc=s.loc:=by
 have e:r.loc.take (r.loc.length-n)=s.loc:=by simp_all
 unfold AW;simp[e];split
 ·have b:=Ev.put (c.loc (l:=s.loc) (z:=r.z)) (op:=4) (a:=(n:Int)) (d':=D) ⟨⟨by simp only;omega,by simp only;omega,by omega,by omega⟩,by omega,by simp only;omega,by simp only;omega⟩ (by omega);exact⟨b.w,b.d,Ac5 b.p .refl,b.l⟩
 ·exact⟨⟨[],by rw[Ad8];exact c.loc⟩,by simp only;omega,by simp[Ea],rfl⟩
theorem XE{d:Nat}{k:Nat}{l r:Ex}:2*FJ (d+1) (.op k l r)+2<=wt (d+1) (.op k l r):=by
 have:=G1 d l;have:=G1 d r;simp[FJ,C5,wt];omega
theorem UP{d:Nat}{x:Ex}{bs:List (Nat×Av×Ex)}:2*FJ (d+1) (.case x bs)+2<=wt (d+1) (.case x bs):=by
 have e:=G1 d x;have f:2*(bs.map λa=>FJ d a.2.2).sum<=(bs.map λa=>2+nW a.2.1+wt d a.2.2).sum:=by rw[<-Lt];exact GQ λa _=>by have:=G1 d a.2.2;omega
 have b:((bs.map (λa=>(a.2.2,a.2.1))).map λc:Ex×Av=>FJ d c.1)=bs.map λa=>FJ d a.2.2:=by simp
 simp[FJ,C5,wt,b];omega
theorem Ev.rev{k0:List ByteArray×Int}(n:ZF wo k0 s w)(a:List Ex)(m:Wk wo k0 r wm t true)(c:Pe wo s (w+1) N r)(i:∀b∈a,(b,[])∈C5 N)(y:(a.map (wt w)).sum<=wt (w+1) N):
 2*a.length<=(a.map (wt w)).sum/\Ev wo k0 t r wm (a.reverse.foldl (λr N=>kG s w N r) r) (900*(a.map (wt w)).sum-900*a.length) (r.AB+(a.length:Int)):=by
 have j:∀b∈a,2<=wt w b:=λb d=>by
  rcases P7 (i b d) with e|⟨l,g,e⟩
  ·exact Bf w b (c.f.2.1 _ e)
  ·simp at e;exact Bf w b (e▸c.f.2.2 l g)
 have h:(a.reverse.map (wt w)).sum=(a.map (wt w)).sum:=by simp
 have g:=c.b;have x:=c.p;have k:=Ev.fold n a.reverse m (λb d=>by
  rw[List.mem_reverse]at d;refine⟨j b d,λz h q v u=>c.dD (i b d) (by rw[FQ h];simp) ?_ q v u⟩;have:=De (f:=wt w) d;simp;omega) c.o ⟨g.1,by omega⟩ (by omega)
 rw[h,Afg]at k;exact⟨CR j,k⟩
theorem gok{B:ByteArray->Bool}{k0:List ByteArray×Int}{v:ByteArray}:∀d,ZF B k0 v d
 |0=>λ_ _ _ _ _ e=>e.f.elim
 |d+1=>λz s ah E m e=>by
  have y:ZF B k0 v d:=gok d;have I:=e.b;have K:=e.p;have ac:=Bf (d+1) z e.f;cases z with
  |num n=>exact(Ev.put m (op:=0) (a:=n) (d':=s.AB+1) ⟨⟨by omega,by omega,by omega,by omega⟩,e.f.1.1,e.f.1.2,rfl⟩ (by omega)).le (by simp[iy,wt,cg]) rfl
  |name q t pl=>
   refine(Ev.look m e.o (t:=t) (by omega) ?_).le (by simp only[cg];omega) rfl;have h:=(N2 e.g).1;simp only[fN]at h;split at h
   ·exact .inl (FX.1 ‹_›)
   ·split at h
    ·exact .inr (m.kg t ‹_›)
    ·cases h
  |case x bs=>
   have i:5<=wt (d+1) (.case x bs):=(by simp only[wt];omega);have:=UP (d:=d) (x:=x) (bs:=bs);exact(Ev.wait m e (by omega)).le (by simp only[cc,cg];omega) rfl
  |op k l r=>
   have i:6<=wt (d+1) (.op k l r):=(by have:=Bf d l (e.f.2.1 l (by simp[Bd]));have:=Bf d r (e.f.2.1 r (by simp[Bd]));simp only[wt];omega);have:=XE (d:=d) (k:=k) (l:=l) (r:=r);exact(Ev.wait m e (by omega)).le (by simp only[cc,cg];omega) rfl
  |Fs t fs=>
   have i:wt (d+1) (.Fs t fs)=6+(fs.map (wt d)).sum:=rfl;obtain⟨G,g⟩:=Ev.rev y fs m e (λx L=>by simp[C5,L]) (by omega);rw[i]at I K ⊢;have aj:=e.f.1.2;have ab:=e.f.1.1;refine(Ev.trans (c2:=90) (D2:=s.AB+1) g λj h=>?_).le (by simp only[cg];omega) rfl;refine(Ev.put h (op:=15) (d':=s.AB+1) ⟨⟨by rw[g.d];omega,by rw[g.d];omega,by omega,by omega⟩,t,fs.length,by simp[Aer];omega,ab,by omega,by rw[g.d];omega,by rw[g.d];omega⟩ (by omega)).le (by simp[iy]) rfl
  |call ps=>
   have i:wt (d+1) (.call ps)=(ps.map (wt d)).sum:=rfl;have G:2<=ps.length:=e.f.1;match ps with
   |[]=>simp at G
   |x::l=>
    rw[Aeg,Ae3]at i;rw[Aea]at G;obtain⟨N,g⟩:=Ev.rev y l m e (λx L=>by simp[C5,L]) (by omega);have ac:=Bf d x (e.f.2.1 x (by simp[Bd]));rw[i]at I K ⊢;have ad:=g.p;have u:=λj (h:Wk B k0 _ j E true)=>(y x (l.reverse.foldl (λs z=>kG v d z s) s) j E h (e.dD (ns:=[]) (by simp[C5]) (by rw[FQ g.l];simp) (by rw[i];simp) (by rw[g.d];omega) (by omega) (Is e.o g.l (by rw[g.d];omega)))).le (c:=900*wt d x-900) (by have:=UV x;omega) rfl;refine(Ev.trans (c2:=900*wt d x-900+l.length*30) (D2:=s.AB+1) g λj h=>Ev.trans (u j h) λM H=>?_).le (by simp only[cg];omega) rfl;have O:=(u j h).d;rw[g.d]at O;exact(Ev.dN l.length H (by omega)).le (Acu _) (by omega)
  |lets r ns es b=>
   have i:wt (d+1) (.lets r ns es b)=4+nW ns+(es.map (wt d)).sum+wt d b:=rfl;have ak:=DX ns;have g:=Kd y m e;rw[i]at I K ⊢;obtain⟨j,h⟩:=g.w;have ad:=g.p;have ai:=Bf d b (e.f.2.1 b (by simp[Bd]));have u:=y b (DV (BC v d) (kG v d) r ns es s) _ E h (e.dD (ns:=ns) (by simp[C5]) g.n (by omega) (by rw[g.d];omega) (by omega) g.o);obtain⟨M,N⟩:=u.w;have al:=u.p;obtain⟨⟨R,Y,aa⟩,-⟩:=Gn.bind (Gw.wait v d) (FD v d) r ns es s;obtain⟨⟨U,H⟩,ae,af,ag⟩:=JO (s:=s) (n:=ns.length) (D:=s.AB+1) (R:=R) N (u.l.trans Y) aa (by rw[u.d,g.d];omega) (by rw[u.d,g.d];omega);exact⟨⟨j++(M++U),by rw[<-Aem,<-Aem];exact H⟩,ae,Ac5 af (by have:=UV b;simp only[cg];omega),ag⟩
def nJ(a:List Nat):List Int:=a.map Int.ofNat
structure Ar (m:ByteArray->Bool) (k0:List ByteArray×Int) (n:List Nat) (h:Nat) (e:Int) (f:List (ByteArray×Int)) (r:Bool) (o:List Int) (c:KS) (d:List Int) (i:List Nat) (g:List G7) (q:Nat) (k:List Nat):Prop where
 w:Wk m k0 c d (h::(i++n)) false
 cf:c.code[h]?=some ⟨17,0,[]⟩
 gf:d[h]?=some e
 j:∀j∈i,c.code[j]?=some ⟨18,0,[]⟩/\d[j]?=some e
 a:∀b∈g,0<=b.to/\d[b.to.toNat]?=some e
 t:g.map (·.tag)=k.map Int.ofNat
 l:c.loc.take f.length=f
 p:Ea c+100*g.length<=q
 gp:o<+:d
 vv:r=true->k≠[]->c.AB=e/\c.loc=f
theorem H5(e:Int):∀d b,∀f∈C8 e b d,∃c,b<=c/\c<b+d.length/\f.2=Aer (Aer (e-1)-(c:Int))
 |[],_,_,a=>by cases a
 |t::d,b,f,a=>by
  rcases Ady.1 a with rfl|a
  ·grind
  ·let ⟨c,g,h,i⟩:=H5 e d (b+1) f a
   grind
theorem Ic(b:Int):∀a c,(C8 b c a).map (·.1)=a
 |[],_=>rfl
 |t::a,c=>by simp[C8,Ic b a]
structure Ab (f:ByteArray->Bool) (k0:List ByteArray×Int) (g:List Nat) (e:Int) (c:List (ByteArray×Int)) (b:Av) (a:KS) (h:List Int):Prop where
 w:Wk f k0 a h g true
 d:a.AB=e-1+(b.length:Int)
 l:∃R,a.loc=c++R/\R.length=b.length
 n:Kv a=c.map (·.1)++b.map (·.1)
 o:Lo a
theorem Ar.fw{k0:List ByteArray×Int}{g:Nat}(e:Ar wo k0 t g we np w2 xi r wm wg w8 v w9){a:Av}(p:1<=we/\we-1+(a.length:Int)<=1000/\we<=1000/\a.length<=20)(q:∀c∈np,0<=c.2/\c.2<we-1):Ab wo k0 (g::(wg++t)) we np a (CS we np.length a r) (wm++[we])/\Ea (CS we np.length a r)=Ea r+90+a.length/\(CS we np.length a r).code=r.code++[⟨16,(a.length:Int),[]⟩]:=by
 have h:Ik r.kn.length 16 a.length we (we-1+a.length):=⟨⟨by omega,by omega,by omega,by omega⟩,by omega,by omega,by omega,rfl⟩;have i:=Ev.put (e.w.shut (l:=r.loc.take np.length) (z:=r.z)) h (by omega);have n:=(e.w.shut (l:=r.loc.take np.length) (z:=r.z)).put h λ_=>⟨nofun,nofun,.inr rfl⟩;have m:(CS we np.length a r).AB=we-1+a.length:=i.d;have f:(CS we np.length a r).loc=np++C8 (we-1+a.length) 0 (a.map (·.1)):=by
  unfold CS Ep;simp[i.d];rw[show(AE 16 a.length {r with AB:=we,loc:=r.loc.take np.length}).loc=r.loc.take np.length from rfl,e.l]
 refine⟨⟨n.loc,m,⟨_,f,by rw[Ee,Adf]⟩,by unfold Kv;rw[f,Adq,Ic],λc b=>?_⟩,?_,rfl⟩
 ·rw[f]at b;rcases Acz.1 b with b|b
  ·grind
  ·let ⟨s,o,j,k⟩:=H5 _ _ _ c b
   rw[Adf]at j;rw[k];simp[Aer];omega
 ·have:=Gq 16 a.length {r with AB:=we,loc:=r.loc.take np.length};unfold CS Ep;simp[Ea,iy]at this ⊢;omega
def Arm(h:ByteArray->Bool)(k0:List ByteArray×Int)(i:List Nat)(k:Nat)(e:Int)(d:List (ByteArray×Int))(o:Bool)(n:BT)(j:Nat)(c:KJ->KJ):Prop:=∀(a:KS) (g:List Int) (b:List Nat),Ab h k0 (k::(b++i)) e d n.2.2.1 a g->Ea a+900*j<=1900000->
 ∃l f,Wk h k0 (c (a,nJ b)).1 (g++l) (k::(b++f++i)) false/\(c (a,nJ b)).2=nJ (b++f)/\(∀m∈f,(c (a,nJ b)).1.code[m]?=some ⟨18,0,[]⟩/\(g++l)[m]?=some e)/\a.code<+:(c (a,nJ b)).1.code/\(c (a,nJ b)).1.loc.take d.length=d/\Ea (c (a,nJ b)).1<=Ea a+900*j/\(o=true->(c (a,nJ b)).1.AB=e/\(c (a,nJ b)).1.loc=d)
theorem Ua(a:wz<+:xg)(b:wz[w]?=some n4):xg[w]?=some n4:=by
 obtain⟨c,rfl⟩:=a;grind
theorem G5(a:wm[w]?=some we):(wm++xi)[w]?=some we:=by
 grind
theorem NU{u:ByteArray->Bool}{k0:List ByteArray×Int}{x:List Nat}{G:List Int}{z:Nat}{c:Int}{g:List (ByteArray×Int)}{B:Bool}{D:BT->KJ->KJ}{i:BT->Nat}(hD:1<=c/\c<=1000)(K:∀s∈g,0<=s.2/\s.2<c-1):∀(f:List BT) (d:KS) (n:List Int) (e:List Nat) (k:List G7) (j:Nat) (r:List Nat),(∀b∈f,Arm u k0 x z c g B b (i b) (D b)/\c-1+(b.2.2.1.length:Int)<=1000/\b.2.2.1.length<=20)->Ar u k0 x z c g B G d n e k j r->j+900*(f.map λb=>2+nW b.2.2.1+i b).sum<=1900000->
 ∃q E v y,BD D c g.length f ((d,nJ e),k)=((q,nJ v),y)/\Ar u k0 x z c g B G q E v y (j+900*(f.map λb=>2+nW b.2.2.1+i b).sum) (r++f.map (·.1))/\d.code<+:q.code
 |[],d,n,e,k,j,r,_,h,_=>⟨d,n,e,k,rfl,by simpa using h,Aco _⟩
 |b::f,d,n,e,k,j,r,hT,h,hq=>by
  rw[Aeg,Ae3]at hq ⊢;let ⟨U,Y,aa⟩:=hT b (by simp)
  let ⟨L,ak,al⟩:=h.fw ⟨hD.1,Y,hD.2,aa⟩ K
  have an:=h.p;have am:=DX b.2.2.1;let ⟨N,I,af,ao,ag,ah,ai,ap,aj⟩:=U _ _ e L (by omega)
  have o:=(show d.code<+:(CS c g.length b.2.2.1 d).code by grind).trans ah;have O:Ar u k0 x z c g B G (D b (CS c g.length b.2.2.1 d,nJ e)).1 (n++[c]++N) (e++I) (k++[⟨b.1,d.code.length⟩]) (j+900*(2+nW b.2.2.1+i b)) (r++[b.1]):=by
   refine⟨af,Ua o h.cf,G5 (G5 h.gf),λH l=>?_,λs m=>?_,by rw[Adq,h.t];simp,ai,by grind,(h.gp.trans (Ae6 _ _)).trans (Ae6 _ _),λab _=>aj ab⟩
   ·rcases Acz.1 l with l|l
    ·exact⟨Ua o (h.j H l).1,G5 (G5 (h.j H l).2)⟩
    ·exact ag H l
   ·rcases Acz.1 m with m|m
    ·exact⟨(h.a s m).1,G5 (G5 (h.a s m).2)⟩
    ·obtain rfl:=Ac9.1 m;exact⟨by simp,G5 (by simp[<-h.w.gl])⟩
  let ⟨q,E,v,y,ac,ad,ae⟩:=NU hD K f _ _ (e++I) _ _ _ (λM o=>hT M (by simp[o])) O (by omega)
  refine⟨q,E,v,y,?_,by rw[show j+900*(2+nW b.2.2.1+i b+(f.map λb=>2+nW b.2.2.1+i b).sum)=j+900*(2+nW b.2.2.1+i b)+900*(f.map λb=>2+nW b.2.2.1+i b).sum by omega];simpa using ad,o.trans ae⟩;rw[<-ac];unfold BD;grind
theorem UO:∀{a:List Bp} {c:Nat} {b y:Bp},a[c]?=some b->cb (a.set c y)+iy b=cb a+iy y
 |[],_,_,_,h=>by cases h
 |z::a,0,b,y,h=>by cases h;simp[cb];omega
 |z::a,c+1,b,y,h=>by
  have:=UO (y:=y) (by simpa using h);simp[cb]at this ⊢;omega
theorem My{F:Bp->Bp}(a:r.code[w]?=some n4):Ea (D5 w F r)+20*iy n4=Ea r+20*iy (F n4)/\D5 w F r={r with code:=r.code.set w (F n4)}:=by
 have b:D5 w F r={r with code:=r.code.set w (F n4)}:=by unfold D5;rw[a]
 have:=UO (y:=F n4) a;unfold Ea;grind
theorem Wk.mod{k0:List ByteArray×Int}{g:Bool}(c:Wk wo k0 r wm wg g)(z:r.code[w]?=some n4)(x:wm[w]?=some we)(j:∀b∈wg,b=w\/b∈t)(y:g=true->w2=true)(B:Ik r.kn.length si.op.toNat si.a we w7/\0<=si.op/\(si.op≠17->si.alts=[])/\(si.op=17->0<si.alts.length/\(si.alts.map (·.tag)).Nodup/\∀d∈si.alts,0<=d.tag/\d.tag<256/\0<=d.to)/\∀h∈sc si w,wm[h]?=some w7\/w2=true/\h=r.code.length/\r.AB=w7):Wk wo k0 {r with code:=r.code.set w si} wm t w2:=by
 refine {c with gl:=by simpa using c.gl,ok:=λb n i f k l=>?_,se:=λe=>by grind};simp;by_cases e:b=w
 ·grind
 ·rw[List.getElem?_set_ne (λc=>e c.symm)]at f;let ⟨o,p,q,s,u,v⟩:=c.ok b n i f k λm=>(j b m).elim e l
  grind
theorem Ar.done{k0:List ByteArray×Int}{f:Nat}(b:Ar wo k0 t f we np w2 xi r wm wg w8 v w9)(n:1<=we/\we<=1000)(u:0<w9.length)(z:w9.Nodup)(m:∀e∈w9,e<256):Wk wo k0 (D5 f (λc=>{c with alts:=w8}) r) wm (wg++t) false/\Ea (D5 f (λc=>{c with alts:=w8}) r)<=v/\∀j∈wg,(D5 f (λc=>{c with alts:=w8}) r).code[j]?=some ⟨18,0,[]⟩:=by
 let ⟨k,s⟩:=My (F:=λc=>{c with alts:=w8}) b.cf
 have B:=b.p;simp[iy]at k;rw[s]at k ⊢;have y:w8.length=w9.length:=by have:=congrArg List.length b.t;simpa using this
 refine⟨b.w.mod b.cf b.gf (λD q=>by simpa using q) (λb=>b) ⟨⟨⟨by omega,by omega,by omega,by omega⟩,rfl,n.1,rfl⟩,by simp,λb=>absurd rfl b,λ_=>⟨by simp only;omega,?_,λd i=>?_⟩,λe h=>.inl ?_⟩,by omega,λj o=>?_⟩
 ·rw[b.t];grind
 ·have:d.tag∈w9.map Int.ofNat:=by rw[<-b.t];grind
  let ⟨e,h,l⟩:=Adj.1 this
  have g:=m e h;have x:d.tag=e:=l.symm;exact⟨by omega,by omega,(b.a d i).1⟩
 ·simp[sc]at h;obtain⟨d,i,rfl⟩:=h;exact(b.a d i).2
 ·have g:=(b.j j o).1;rw[List.getElem?_set_ne]
  ·exact g
  ·rintro rfl;rw[b.cf]at g;cases g
theorem TM{k0:List ByteArray×Int}{v:Bool}{F:KS->KS}{T:BT->KJ->KJ}{W:BT->Nat}{bs:List BT}{h:Nat}(c:Ev wo k0 t r wm (F r) h (r.AB+1))(U:Lo r)(u:0<=r.AB/\r.AB+1<=1000)(q:0<bs.length)(O:(bs.map (·.1)).Nodup)(H:∀a∈bs,a.1<256)(K:∀o,o=(F r).code.length->∀a∈bs,Arm wo k0 t o (r.AB+1) r.loc v a (W a) (T a)/\r.AB+(a.2.2.1.length:Int)<=1000/\a.2.2.1.length<=20)(Y:Ea r+h+70+900*(bs.map λa=>2+nW a.2.2.1+W a).sum<=1900000):
 ∃b k j,Cg F T bs (r,[])=(b,nJ j)/\Wk wo k0 b (wm++k) (j++t) false/\(∀e∈j,b.code[e]?=some ⟨18,0,[]⟩/\(wm++k)[e]?=some (r.AB+1))/\Ea b<=Ea r+h+70+900*(bs.map λa=>2+nW a.2.2.1+W a).sum/\(v=true->b.AB=r.AB+1/\b.loc=r.loc)/\r.loc<+:b.loc:=by
 let ⟨B,s⟩:=c.w
 have ah:=c.p;have L:Ik (F r).kn.length 17 0 (F r).AB (r.AB+1):=by rw[c.d];exact⟨⟨by omega,by omega,by omega,by omega⟩,rfl,by omega,rfl⟩
 have G:=(s.at (P':=(F r).code.length::([]++t)) (λai M=>by simp[M])).put (o':=false) L (λN=>absurd (Aew ..) N);have I:Ar wo k0 t (F r).code.length (r.AB+1) r.loc v wm (AE 17 0 (F r)) (wm++B++[(F r).AB]) [] [] (Ea r+h+70) []:=by
  refine⟨G,by simp[AE],by rw[<-s.gl,Abt,c.d],λe i=>(by cases i),λa g=>(by cases g),rfl,?_,?_,(Ae6 _ _).trans (Ae6 _ _),λ_ E=>absurd rfl E⟩
  ·show(F r).loc.take _=_;rw[c.l,Ad9]
  ·rw[Gq];simp[iy];omega
 obtain⟨b,k,z,n,af,f,ak⟩:=NU (hD:=⟨by omega,u.2⟩) (λag ab=>by have:=U ag ab;omega) bs _ _ _ _ _ _ (λa g=>by have:=K _ rfl a g;exact⟨this.1,by omega,this.2.2⟩) I Y;obtain⟨ac,ad,ae⟩:=f.done ⟨by omega,u.2⟩ (by simpa using q) (by simpa using O) (λal x=>by rw[Aec]at x;obtain⟨a,g,rfl⟩:=Adj.1 x;exact H a g);obtain⟨D,rfl⟩:=f.gp;let ⟨aj,y⟩:=My (F:=λm=>{m with alts:=n}) f.cf
 refine⟨D5 (F r).code.length (λm=>{m with alts:=n}) b,D,z,?_,ac,λe i=>⟨ae e i,(f.j e i).2⟩,ad,λaa=>?_,?_⟩
 ·unfold Cg;simp only;rw[c.d,c.l,show([])=nJ [] from rfl,af]
 ·rw[y];exact f.vv aa (by simpa using List.ne_nil_of_length_pos q)
 ·rw[y];rw[<-f.l];exact List.take_prefix _ _
theorem Wt(a:KS):29*a.code.length<=Ea a:=by
 have:∀l:List Bp,l.length<=cb l:=λl=>by
  have:=CR (f:=iy) (m:=1) (l:=l) λb _=>by unfold iy;grind
  unfold cb;omega
 have:=this a.code;unfold Ea;omega
theorem TO{k:ByteArray->Bool}{k0:List ByteArray×Int}{l:List Nat}{i:List Int}{g:Int}{n:Int}(r:0<=g/\g<=1000):∀b {a:KS} {j:Bool},Wk k k0 a i (b++l) j->(∀c∈b,(∃h,a.code[c]?=some ⟨18,h,[]⟩)/\i[c]?=some g)->a.AB=g->n=(a.code.length:Int)->a.code.length<=65535->Wk k k0 (CZ n (nJ b) a) i l true/\Ea (CZ n (nJ b) a)=Ea a/\(CZ n (nJ b) a).AB=a.AB/\(CZ n (nJ b) a).loc=a.loc
 |[],a,j,d,_,_,_,_=>⟨by
  cases j with
  |true=>exact d
  |false=>exact d.shut,rfl,rfl,rfl⟩
 |c::b,a,j,d,hj,hd,hn,hl=>by
  let ⟨⟨h,o⟩,s⟩:=hj c (by simp)
  let ⟨m,p⟩:=My (F:=λe=>{e with a:=n}) o
  have v:Wk k k0 {a with code:=a.code.set c ⟨18,n,[]⟩} i (b++l) true:=d.mod o s (λf u=>by simpa using u) (λ_=>rfl) ⟨⟨⟨by omega,by omega,by omega,by omega⟩,by simp only;omega,by simp only;omega,rfl⟩,by simp,λ_=>rfl,λd=>by simp at d,λx w=>.inr ?_⟩
  ·have f:=TO r b v (λe t=>⟨?_,(hj e (by simp[t])).2⟩) hd (by simpa using hn) (by simpa using hl)
   ·have q:CZ n (nJ (c::b)) a=CZ n (nJ b) {a with code:=a.code.set c ⟨18,n,[]⟩}:=by
     show CZ n (nJ b) (D5 c (λe=>{e with a:=n}) a)=_;rw[p]
    rw[q];refine⟨f.1,f.2.1.trans ?_,f.2.2.1,f.2.2.2⟩;rw[p]at m;simp[iy]at m;exact m
   grind
  ·simp[sc]at w;grind
def VOk(c:ByteArray->Bool)(k0:List ByteArray×Int)(g:ByteArray)(d:Nat):Prop:=∀(b:Ex) (a:KS) (f:List Int) (e:List Nat),Wk c k0 a f e true->Pe c g d b a->Ev c k0 e a f (kV g d b a) (900*wt d b-cc b) (a.AB+1)
theorem Pe.fw{k0:List ByteArray×Int}(c:Pe wo s (w+1) (.case N v6) ny)(b:n2∈v6){d:List Nat}(a:Ab wo k0 d (ny.AB+1) ny.loc n2.2.1 r wm)(e:Ea r+900*wt w n2.2.2<=1900000):Pe wo s w n2.2.2 r:=by
 have g:=De (f:=λn2:B3=>2+nW n2.2.1+wt w n2.2.2) b;have j:wt (w+1) (.case N v6)=5+wt w N+(v6.map λn2:B3=>2+nW n2.2.1+wt w n2.2.2).sum:=rfl;have i:=DX n2.2.1;have h:=c.b;exact c.dD (Aei _ (Adj.2 ⟨n2,b,rfl⟩)) a.n (by omega) (by rw[a.d];omega) e a.o
theorem Aaq{k0:List ByteArray×Int}{b:Nat}{c:ByteArray}(H:VOk wo k0 c b){N:Ex}{k:List B3}{a:B3}(u:Pe wo c (b+1) (.case N k) r)(I:a∈k):Arm wo k0 t v (r.AB+1) r.loc true (KK a) (wt b a.2.2) (Ce (KK a).2.2.1.length (kV c b (KK a).2.2.2.2.1)):=by
 intro s f j d M;have d:Ab wo k0 (v::(j++t)) (r.AB+1) r.loc a.2.1 s f:=d;have i:=u.fw I d M;have U:=Bf b a.2.2 i.f;have Y:=i.b;have O:=u.b.1;have ab:=d.d;have e:=H a.2.2 s f _ d.w i;have af:=e.p;have aa:=Hj a.2.2;let ⟨g,B⟩:=e.w
 let ⟨z,E,G⟩:=d.l
 let ⟨⟨h,n⟩,x,ag,y⟩:=JO (s:=r) (D:=r.AB+1) (R:=z) B (e.l.trans E) G (by rw[e.d];omega) (by rw[e.d];omega)
 have q:Ik (AW a.2.1.length (kV c b a.2.2 s)).kn.length 18 0 (AW a.2.1.length (kV c b a.2.2 s)).AB (r.AB+1):=by rw[x];exact⟨⟨by omega,by omega,by omega,by omega⟩,by omega,by omega,rfl⟩
 have o:=(n.at (P':=v::(j++[(AW a.2.1.length (kV c b a.2.2 s)).code.length]++t)) (λae ac=>by grind)).put (o':=false) q (λL=>absurd (by simp) L);rw[x]at o;have m:f++(g++(h++[r.AB+1]))=f++g++h++[r.AB+1]:=by simp
 refine⟨g++(h++[r.AB+1]),[(AW a.2.1.length (kV c b a.2.2 s)).code.length],?_,by simp[Ce,nJ,KK],λad K=>?_,?_,?_,?_,λ_=>⟨Pg q,y⟩⟩
 ·rw[m];exact o
 ·obtain rfl:=Ac9.1 K;refine⟨by simp[Ce,AE,KK],?_⟩;rw[m,<-n.gl,Abt]
 ·exact((Iq c b a.2.2 s).2.trans (Ov _ _)).trans (Ae6 _ _)
 ·show(AW a.2.1.length (kV c b a.2.2 s)).loc.take _=_;rw[y,Ad9]
 ·show Ea (AE 18 0 (AW a.2.1.length (kV c b a.2.2 s)))<=_;rw[Gq];simp[iy];omega
theorem Gk(c:Pe wo s (w+1) (.case N v6) r):∀a∈v6.map KK,r.AB+(a.2.2.1.length:Int)<=1000/\a.2.2.1.length<=20/\a.1<256:=λa e=>by
 obtain⟨b,d,rfl⟩:=Adj.1 e;have h:=De (f:=λa:B3=>2+nW a.2.1+wt w a.2.2) d;have m:wt (w+1) (.case N v6)=5+wt w N+(v6.map λa:B3=>2+nW a.2.1+wt w a.2.2).sum:=rfl;have k:=DX b.2.1;have j:=c.b;have i:(Kv r).length+b.2.1.length<=20:=LW _ c.l ((N2 c.g).2 (b.2.2,b.2.1) (Aei _ (Adj.2 ⟨b,d,rfl⟩))).1;exact⟨by show _+(b.2.1.length:Int)<=_;omega,by show b.2.1.length<=20;omega,c.f.1.2.1 b d⟩
theorem vok{G:ByteArray->Bool}{k0:List ByteArray×Int}{f:ByteArray}:∀a,VOk G k0 f a
 |0=>λ_ _ _ _ _ b=>b.f.elim
 |a+1=>λy s H u B b=>by
  have z:VOk G k0 f a:=vok a;have g:=b.b;have K:=b.p;have a6:=Bf (a+1) y b.f;have e:=gok (a+1) y s H u B b;cases y with
  |num n=>exact e.le (by simp only[cg,cc];omega) rfl
  |Fs t fs=>exact e.le (by simp only[cg,cc];omega) rfl
  |name q t pl=>
   refine(Ev.trans (c2:=30) (D2:=s.AB+1) e λi h=>?_).le (by simp only[cg,cc];omega) rfl;exact(Ev.put h (op:=8) ⟨⟨by rw[e.d];omega,by rw[e.d];omega,by omega,by omega⟩,rfl,by rw[e.d];omega,by rw[e.d]⟩ (by omega)).le (by simp[iy]) rfl
  |call ps=>
   refine(Ev.trans (c2:=30) (D2:=s.AB+1) e λi h=>?_).le (by simp only[cg,cc];omega) rfl;exact(Ev.put h (op:=8) ⟨⟨by rw[e.d];omega,by rw[e.d];omega,by omega,by omega⟩,rfl,by rw[e.d];omega,by rw[e.d]⟩ (by omega)).le (by simp[iy]) rfl
  |lets r ns es c=>
   clear e;have j:wt (a+1) (.lets r ns es c)=4+nW ns+(es.map (wt a)).sum+wt a c:=rfl;have a4:=DX ns;have d:=Kd (gok a) B b;rw[j]at g K ⊢;obtain⟨i,h⟩:=d.w;have aj:=d.p;have ay:=Bf a c (b.f.2.1 c (by simp[Bd]));have m:=z c (DV (BC f a) (kG f a) r ns es s) _ u h (b.dD (ns:=ns) (by simp[C5]) d.n (by omega) (by rw[d.d];omega) (by omega) d.o);obtain⟨O,ae⟩:=m.w;have a8:=m.p;obtain⟨⟨R,af,ag⟩,-⟩:=Gn.bind (Gw.wait f a) (FD f a) r ns es s;obtain⟨⟨ad,I⟩,ak,al,am⟩:=JO (s:=s) (n:=ns.length) (D:=s.AB+1) (R:=R) ae (m.l.trans af) ag (by rw[m.d,d.d];omega) (by rw[m.d,d.d];omega);exact⟨⟨i++(O++ad),by rw[<-Aem,<-Aem];exact I⟩,ak,Ac5 al (by have:=Hj c;simp only[cc];omega),am⟩
  |op k l r=>
   clear e;have j:wt (a+1) (.op k l r)=2+wt a l+wt a r:=rfl;have a3:=Bf a l (b.f.2.1 l (by simp[Bd]));have a5:=Bf a r (b.f.2.1 r (by simp[Bd]));have a1:k<6:=b.f.1;rw[j]at g K ⊢;have d:=z l s H u B (b.dD (ns:=[]) (by simp[C5]) (by simp) (by rw[j];simp;omega) ⟨g.1,by omega⟩ (by omega) b.o);have aj:=d.p;have aw:=Hj l;have c2:=Hj r;have m:=λi (h:Wk G k0 _ i u true)=>z r (kV f a l s) i u h (b.dD (ns:=[]) (by simp[C5]) (by rw[FQ d.l];simp) (by rw[j];simp) (by rw[d.d];omega) (by omega) (Is b.o d.l (by rw[d.d];omega)));refine(Ev.trans (c2:=900*wt a r-cc r+30) (D2:=s.AB+1) d λi h=>Ev.trans (m i h) λO I=>?_).le (by rw[show cc (.op k l r)=4100 from rfl];omega) rfl;have N:=(m i h).d;rw[d.d]at N;have ah:Ik (kV f a r (kV f a l s)).kn.length (9+k) 0 (kV f a r (kV f a l s)).AB (s.AB+1):=by
    rw[N];refine⟨⟨by omega,by omega,by omega,by omega⟩,?_⟩;obtain rfl|rfl|rfl|rfl|rfl|rfl:k=0\/k=1\/k=2\/k=3\/k=4\/k=5:=by omega
    all_goals exact⟨rfl,by omega,by omega⟩
   exact(Ev.put I (op:=9+k) ah (by omega)).le (by rw[iy,if_neg (by simp;omega),if_pos (by simp;omega)];exact Acu _) rfl
  |case x bs=>
   clear e;have j:wt (a+1) (.case x bs)=5+wt a x+(bs.map λc:B3=>2+nW c.2.1+wt a c.2.2).sum:=rfl;have a7:=Bf a x (b.f.2.1 x (by simp[Bd]));rw[j]at g K ⊢;have d:=z x s H u B (b.dD (ns:=[]) (Aew ..) (by simp) (by rw[j];simp;omega) ⟨g.1,by omega⟩ (by omega) b.o);have az:=Hj x;have U:((bs.map KK).map λc:BT=>2+nW c.2.2.1+wt a c.2.2.2.2.1).sum=(bs.map λc:B3=>2+nW c.2.1+wt a c.2.2).sum:=by rw[Ae4];rfl
   obtain⟨E,ac,M,ar,au,ab,av,L,-⟩:=TM (v:=true) (F:=kV f a x) (T:=λc=>Ce c.2.2.1.length (kV f a c.2.2.2.2.1)) (W:=λc=>wt a c.2.2.2.2.1) (bs:=bs.map KK) d b.o (by omega) (by simpa using b.f.1.1) (by rw[Ae4];exact b.f.1.2.2) (λc g=>(Gk b c g).2.2) (λax a0 c g=>⟨by
    obtain⟨a9,ai,rfl⟩:=Adj.1 g;exact Aaq z b ai,(Gk b c g).1,(Gk b c g).2.1⟩) (by rw[U];omega)
   rw[U]at av;have a2:=Wt E;obtain⟨an,ao,ap,aq⟩:=TO (n:=(E.code.length:Int)) ⟨by omega,by omega⟩ M au (λaa Y=>⟨⟨0,(ab aa Y).1⟩,(ab aa Y).2⟩) (L rfl).1 rfl (by omega);have y:kV f (a+1) (.case x bs) s=CZ (E.code.length:Int) (nJ M) E:=by
    show Hc _ _ _ s=_;unfold Hc;simp only;rw[ar]
   rw[y];exact⟨⟨ac,an⟩,by rw[ap,(L rfl).1],by rw[ao];simp only[cc];omega,by rw[aq,(L rfl).2]⟩
structure Er (c:ByteArray->Bool) (k0:List ByteArray×Int) (d:List Nat) (b:KS) (f:List Int) (a:KS) (e:Nat):Prop where
 w:∃g',Wk c k0 a (f++g') d false
 p:Ea a<=Ea b+e
 l:b.loc<+:a.loc
def ROk(c:ByteArray->Bool)(k0:List ByteArray×Int)(g:ByteArray)(d:Nat):Prop:=∀(b:Ex) (a:KS) (f:List Int) (e:List Nat),Wk c k0 a f e true->Pe c g d b a->1<=a.AB->Er c k0 e a f (kR g d b a) (900*wt d b-(cc b-220))
theorem Aaf{k0:List ByteArray×Int}{c:Nat}(b:Ev wo k0 t r wm ny c (r.AB+1))(n:1<=r.AB/\r.AB+1<=1000):Er wo k0 t r wm (Ho (EV 0 ny)) (c+210):=by
 have a:Ev wo k0 t r wm (EV 0 ny) (c+90) r.AB:=Ev.trans b λj g=>by
  unfold EV;rw[b.d,show Aer (Aer (r.AB+1-2)-0)=r.AB-1 by simp[Aer];omega];exact(Ev.put g (op:=5) ⟨⟨by rw[b.d];omega,by rw[b.d];omega,by omega,by omega⟩,by omega,by rw[b.d];omega,by rw[b.d];omega⟩ (by omega)).le .refl rfl
 have i:∀e,Ev wo k0 t r wm e (c+180) 1->Er wo k0 t r wm (AE 19 0 e) (c+210):=λe f=>by
  let ⟨k,h⟩:=f.w
  have o:=f.p;have m:=h.put (o':=false) (op:=19) (by rw[f.d];exact⟨⟨by omega,by omega,by omega,by omega⟩,rfl,rfl,rfl⟩) λ_=>⟨nofun,nofun,.inl rfl⟩;exact⟨⟨k++[e.AB],by grind⟩,by rw[Gq];simp[iy];omega,by show _<+:e.loc;rw[f.l];simp⟩
 unfold Ho;split
 ·refine i _ (Ev.le (Ev.trans (c2:=90) a λj h=>?_) .refl rfl);rw[a.d,show Aer (r.AB-1)=r.AB-1 by simp[Aer];omega];exact(Ev.put h (op:=6) ⟨⟨by omega,by rw[a.d];omega,by omega,by omega⟩,by omega,by rw[a.d];omega,by rw[a.d];omega⟩ (by omega)).le .refl rfl
 ·rename_i g
  rw[a.d]at g;exact i _ (a.le (by omega) (by omega))
theorem Aai{k0:List ByteArray×Int}{b:Nat}(j:ROk wo k0 s b){u:Ex}{f:List B3}{a:B3}(n:Pe wo s (b+1) (.case u f) r)(z:1<=r.AB)(k:a∈f):Arm wo k0 t v (r.AB+1) r.loc false (KK a) (wt b a.2.2) (λd=>(kR s b (KK a).2.2.2.2.1 d.1,d.2)):=by
 intro d g x c o;have c:=c;have e:=j a.2.2 d g _ c.w (n.fw k c o) (by rw[c.d];omega);let ⟨h,q⟩:=e.w
 obtain⟨y,B,-⟩:=c.l;refine⟨h,[],by rw[Ad8];exact q,by simp,λE m=>(by cases m),(QH s b a.2.2 d).2,?_,Ac5 e.p (by omega),λi=>(by cases i)⟩;let ⟨G,D⟩:=e.l
 show(kR s b a.2.2 d).loc.take _=_;grind
theorem QF{H:BT->KS->KS}{c:Int}{e:Nat}:∀b a,(BD (λd a=>(H d a.1,a.2)) c e b a).1.2=a.1.2
 |[],_=>rfl
 |_::b,_=>(QF b _).trans rfl
theorem rok{k:ByteArray->Bool}{k0:List ByteArray×Int}{e:ByteArray}:∀a,ROk k k0 e a
 |0=>λ_ _ _ _ _ c=>c.f.elim
 |a+1=>λd f m i q c u=>by
  have z:ROk k k0 e a:=rok a;have g:=c.b;have y:=c.p;have al:=Bf (a+1) d c.f;have O:Er k k0 i f m (Ho (EV 0 (kV e (a+1) d f))) (900*wt (a+1) d-(cc d-220)):=by
   have j:=Aaf (vok (a+1) d f m i q c) ⟨u,by omega⟩;have ah:cc d<=900*wt (a+1) d:=by
    cases d with
    |op j l r=>have:=Bf a l (c.f.2.1 l (by simp[Bd]));have:=Bf a r (c.f.2.1 r (by simp[Bd]));simp only[cc,wt];omega
    |case x bs=>simp only[cc,wt];omega
    |_=>simp only[cc];omega
   have:=Hj d;exact⟨j.w,Ac5 j.p (by omega),j.l⟩
  cases d with
  |lets r ns es b=>
   have s:wt (a+1) (.lets r ns es b)=4+nW ns+(es.map (wt a)).sum+wt a b:=rfl;have ak:=DX ns;have h:=Kd (gok a) q c;rw[s]at g y ⊢;obtain⟨I,L⟩:=h.w;have an:=h.p;have ag:=Bf a b (c.f.2.1 b (by simp[Bd]));have t:=z b (DV (BC e a) (kG e a) r ns es f) _ i L (c.dD (ns:=ns) (by simp[C5]) h.n (by omega) (by rw[h.d];omega) (by omega) h.o) (by rw[h.d];omega);obtain⟨K,M⟩:=t.w;obtain⟨⟨ac,ae,af⟩,-⟩:=Gn.bind (Gw.wait e a) (FD e a) r ns es f;exact⟨⟨I++K,by rw[<-Aem];exact M⟩,Ac5 t.p (by have:=Hj b;simp only[show cc (.lets r ns es b)=1500 from rfl];omega),(show f.loc<+:_ by grind).trans t.l⟩
  |case x bs=>
   have s:wt (a+1) (.case x bs)=5+wt a x+(bs.map λb:B3=>2+nW b.2.1+wt a b.2.2).sum:=rfl;have am:=Bf a x (c.f.2.1 x (by simp[Bd]));rw[s]at g y ⊢;have h:=(vok a) x f m i q (c.dD (ns:=[]) (Aew ..) (by simp) (by grind) ⟨g.1,by omega⟩ (by omega) c.o);have ai:=Hj x;have N:((bs.map KK).map λb:BT=>2+nW b.2.2.1+wt a b.2.2.2.2.1).sum=(bs.map λb:B3=>2+nW b.2.1+wt a b.2.2).sum:=by rw[Ae4];rfl
   obtain⟨ab,G,E,B,Y,ao,D,-,aa⟩:=TM (v:=false) (F:=kV e a x) (T:=λb f=>(kR e a b.2.2.2.2.1 f.1,f.2)) (W:=λb=>wt a b.2.2.2.2.1) (bs:=bs.map KK) h c.o (by omega) (by simpa using c.f.1.1) (by rw[Ae4];exact c.f.1.2.2) (λb g=>(Gk c b g).2.2) (λad aj b g=>⟨by
    obtain⟨ap,U,rfl⟩:=Adj.1 g;exact Aai z c u U,(Gk c b g).1,(Gk c b g).2.1⟩) (by omega)
   rw[N]at D;obtain rfl:E=[]:=by simpa[nJ]using((congrArg Prod.snd B).symm.trans (QF (H:=λb=>kR e a b.2.2.2.2.1) _ _))
   have d:kR e (a+1) (.case x bs) f=ab:=congrArg Prod.fst B;rw[d];exact⟨⟨G,Y⟩,Ac5 D (by rw[show cc (.case x bs)=4100 from rfl];omega),aa⟩
  |_=>exact O
def Sd(j:Nat)(i:Int)(e:List Bp):Prop:=e≠[]/\∃c:List Int,c.length=e.length/\c[0]?=some (i+1)/\∀f b g,e[f]?=some b->c[f]?=some g->∃h,Ik j b.op.toNat b.a g h/\0<=b.op/\(b.op≠17->b.alts=[])/\(b.op=17->0<b.alts.length/\(b.alts.map (·.tag)).Nodup/\∀d∈b.alts,0<=d.tag/\d.tag<256/\0<=d.to)/\∀k∈sc b f,c[k]?=some h
theorem Sd.up{c d:Nat}{a:Int}{b:List Bp}(h:Sd c a b)(p:c<=d):Sd d a b:=by
 let ⟨i,g,j,k,l⟩:=h
 refine⟨i,g,j,k,λr s e q o=>?_⟩;let ⟨f,m,n⟩:=l r s e q o
 exact⟨f,m.up p,n⟩
theorem Wk.sd{k0:List ByteArray×Int}(b:Wk wo k0 r wm [] false):Sd r.kn.length (k0.2-1) r.code:=by
 have g:wm≠[]:=λc=>by cases (b.se c).1
 have d:=b.gl;refine⟨λc=>g (Aeo (by rw[d,c];rfl)),wm,d,?_,λi j e h f=>?_⟩
 ·cases wm with
  |nil=>grind
  |cons a wm=>have:=b.st a rfl;rw[this];simp
 ·let ⟨k,l,m,n,o,p⟩:=b.ok i j e h f nofun
  grind
theorem Aam:∀a b,XF a b->cc b<=900*wt a b
 |0,_,h=>h.elim
 |a+1,b,h=>by
  have c:=Bf (a+1) b h;cases b with
  |op k l r=>have:=Bf a l (h.2.1 l (by simp[Bd]));have:=Bf a r (h.2.1 r (by simp[Bd]));simp[cc,wt];omega
  |case x bs=>simp[cc,wt];omega
  |_=>simp[cc];omega
def VO(b:List CH):Nat:=(b.map λa=>20*cb a.code+9*a.code.length).sum
def mu(a:KU):Nat:=a.z+440*a.kn.length+(a.td.map VL).sum
def pa(b:KU):List (ByteArray×Int):=b.gs.map (λc=>(c.name,c.arity))++b.td.map λa=>(a.1,(a.2.1.length:Int))
structure Ru (b:ByteArray->Bool) (c e:List ByteArray) (d:List (ByteArray×Int)) (a:KU):Prop where
 kg:∀t,b t=true->t∈a.kn
 tk:∀t∈a.td,TK b t
 kp:c<+:a.kn
 kf:∀i t,c.length<=i->a.kn[i]?=some t->Nw t i
 nn:a.kn=e++(pa a).map (·.1)
 ap:d<+:pa a
 gd:∀x∈a.gs,NwT x.name/\0<=x.arity/\x.arity<=20/\x.exp=!CB x.name/\Sd a.kn.length x.arity x.code
 th:VO a.gs+mu a<=1890000
theorem Ru.dv{A:List (ByteArray×Int)}{u:KU}(e:Ru wo y wy A u)(j:u.td=n6::nr):Ru wo y wy A (FH u)/\mu (FH u)+29<=mu u:=by
 have c:=e.tk n6 (by simp[j]);have ao:=e.th;have al:mu u=u.z+440*u.kn.length+(VL n6+(nr.map VL).sum):=by unfold mu;rw[j];rfl
 have ai:=Hj n6.2.2;have af:cc n6.2.2<=4100:=by cases n6.2.2<;>simp[cc]
 have aq:=Bf 31 n6.2.2 c.f;have ae:=c.w;have ag:=Aam 31 n6.2.2 c.f;have am:VL n6=n6.2.1.length+(900*wt 31 n6.2.2-(cc n6.2.2-220)):=rfl;obtain⟨a,g⟩:∃a,a=k0 u.kn nr u.z n6.2.1:=⟨_,rfl⟩;have aa:Ea a=u.z+n6.2.1.length+440*u.kn.length+(nr.map VL).sum:=by rw[g];simp[Ea,k0,cb]
 have B:a.AB=(n6.2.1.length:Int)+1:=by rw[g];rfl
 have r:Kv a=n6.2.1:=by rw[g];exact Ic _ _ _
 have G:Wk wo (y,(n6.2.1.length:Int)+1) a [] [] true:=by
  rw[g];exact⟨rfl,λk h v b=>by simp,e.kg,λh b=>e.tk h (by rw[j];exact Aei _ b),e.kp,e.kf,λv H=>(by cases H),λ_=>⟨rfl,rfl⟩⟩
 have E:Pe wo n6.1 31 n6.2.2 a:=by
  refine⟨Acu _,c.f,by rw[r];exact c.g,by rw[r];exact c.l,by grind,by omega,by omega,λh b=>?_,c.n⟩;rw[g]at b;obtain⟨k,ac,ad,D⟩:=H5 _ _ _ h b;have:=c.l;rw[B,D];simp only[Aer];omega
 have k:=rok 31 n6.2.2 a [] [] G E (by omega);have I:=Uv n6.1 31 n6.2.2 a;obtain⟨ab,i⟩:=k.w;have ar:=k.p;have d:FH u=⟨(kR n6.1 31 n6.2.2 a).kn,(kR n6.1 31 n6.2.2 a).td,u.gs++[⟨n6.1,(n6.2.1.length:Int),!CB n6.1,(kR n6.1 31 n6.2.2 a).code⟩],(kR n6.1 31 n6.2.2 a).z⟩:=by unfold FH ZX;rw[j,g]
 rw[Aec]at i;have o:=i.sd;generalize kR n6.1 31 n6.2.2 a=s1 at*;obtain⟨q,K,L⟩:=I;have au:s1.td=nr++q:=by rw[K,g];rfl
 have t:s1.kn=u.kn++q.map (·.1):=by rw[L,g];rfl
 have ak:1<=s1.code.length:=Ae7.2 o.1;have ah:s1.code.length<=cb s1.code:=by
  have:=CR (f:=iy) (m:=1) (l:=s1.code) λh _=>by unfold iy;grind
  unfold cb;omega
 have an:Ea s1=20*cb s1.code+9*s1.code.length+mu (FH u):=by rw[d];unfold Ea mu;simp only;omega
 have aj:VO (FH u).gs=VO u.gs+(20*cb s1.code+9*s1.code.length):=by rw[d];simp[VO]
 have s:pa (FH u)=pa u++q.map λn6=>(n6.1,(n6.2.1.length:Int)):=by rw[d];unfold pa;grind
 refine⟨⟨by rw[d];exact i.kg,by rw[d];exact i.tk,by rw[d];exact i.kp,by rw[d];exact i.kf,?_,by rw[s];exact e.ap.trans (Ae6 _ _),λh b=>?_,by omega⟩,by omega⟩
 ·rw[s,Adq,<-Aem,<-e.nn,d];simp only;rw[t,Ae4];rfl
 ·rw[d]at b ⊢;rcases Acz.1 b with b|b
  ·obtain⟨M,N,O,U,Y⟩:=e.gd h b;exact⟨M,N,O,U,Y.up (by rw[t];simp)⟩
  ·obtain rfl:=Ac9.1 b;have:=c.l;refine⟨c.n,by simp,by simp only;omega,rfl,?_⟩;have x:(n6.2.1.length:Int)+1-1=(n6.2.1.length:Int):=by omega
   simp only[x]at o;exact o
theorem Ru.run{g:ByteArray->Bool}{j i:List ByteArray}{e:List (ByteArray×Int)}:∀c a,Ru g j i e a->mu a<=c->∃b,Ka b a/\Ru g j i e (EP b a)/\(EP b a).td=[]
 |0,a,h,hn=>by
  cases ht:a.td with
  |nil=>exact⟨0,ht,h,ht⟩
  |cons t r=>have:=(h.dv ht).2;omega
 |c+1,a,h,hn=>by
  cases ht:a.td with
  |nil=>exact⟨0,ht,h,ht⟩
  |cons t r=>
   let ⟨k,u⟩:=h.dv ht
   let ⟨b,p,q,s⟩:=Ru.run c (FH a) k (by omega)
   have n:=h.th;have v:29*a.gs.length<=VO a.gs:=by
    refine CR λd o=>?_;have w:=Ae7.2 (h.gd d o).2.2.2.2.1;have:=CR (f:=iy) (m:=1) (l:=d.code) λd _=>by unfold iy;grind
    unfold cb;omega
   exact⟨b+1,⟨by unfold mu at n;omega,by omega,p⟩,q,s⟩
theorem Ws(a:BF s=.ok vj):Ct vj.2.1 vj.2.2=[]:=by
 unfold BF at a;split at a
 ·cases a
 ·split at a
  ·cases a
  ·split at a
   ·rename_i b
    cases a;exact((F8 _ none).2 b).2
   ·cases a
theorem VX{Gn:Av}:P5 Gn s=true↔s∈Gn.map (·.1):=FX
theorem N9(c:BF s=.ok (wn,G,vh)){b:List DT}(e:b.map GZ=vh){h:List (ByteArray×Int)}(l:h.Perm (G.map ia)):
 Ru (P5 (Ia G vh)) (u0 h b).kn (h.map (·.1)) (b.map λa=>(a.1.1,(a.2.2.1.length:Int))) (u0 h b):=by
 let ⟨L,N,p⟩:=HR c
 obtain⟨-,⟨Gn,j⟩,o⟩:=U9 p;have m:=Ws c;simp at j o m;have i:∀a∈b,GZ a∈vh:=λa g=>e▸Aes g;have E:h.length=G.length:=by simpa using l.length_eq
 have z:b.length=vh.length:=by grind
 have q:∀a∈vh,6+nW a.2.1+wt 31 a.2.2<=dW vh:=λa e=>De (f:=λa:DD=>6+nW a.2.1+wt 31 a.2.2) e;refine⟨λt d=>?_,λt d=>?_,Aco _,λM t D d=>?_,?_,?_,λu n=>(by cases n),?_⟩
 ·rw[VX]at d;simp only[Ia,Adq,Ae4,Acz]at d;refine Acz.2 (d.imp (λc=>?_) λc=>?_)
  ·obtain⟨u,n,rfl⟩:=Adj.1 c;exact Adj.2 ⟨ia u,l.mem_iff.2 (Aes n),rfl⟩
  grind
 ·obtain⟨a,g,rfl⟩:=Adj.1 d;let ⟨v,w⟩:=j.d _ (i a g)
  have k:=Ahm.1 m _ (i a g);simp only[dF,Ab1]at k;have x:=LW _ (Ac0 20) k.1;have y:=q _ (i a g);have B:=DX a.2.2.1;simp only at y x;exact⟨.inl v,by simp[tk];omega,w,k.2,by simp only[tk,Adf];omega⟩
 ·grind
 ·simp[u0,pa,tk,Aa3]
 ·simp[u0,pa,tk,Aa3]
 ·have K:((b.map tk).map VL).sum+441*b.length<=900*dW vh:=by
   rw[<-e];unfold dW;clear q i z o m j l e p c;induction b with
   |nil=>simp
   |cons a r ih=>
    have I:VL (tk a)<=a.2.2.1.length+900*wt 31 a.2.2.2.2.1:=by unfold VL tk;simp
    have H:=DX a.2.2.1;grind
  simp only[VO,mu,u0,Aez,List.sum_nil,Adk,Adf];omega
theorem Ru.any{d:ByteArray->Bool}{f e:List ByteArray}{c:List (ByteArray×Int)}:∀b a,Ru d f e c a->Ka b a->Ru d f e c (EP b a)/\(EP b a).td=[]
 |0,_,h,k=>⟨h,k⟩
 |b+1,a,h,k=>by
  refine Ru.any b (FH a) ?_ k.2.2;cases ht:a.td with
  |nil=>rw[show FH a=a by unfold FH;rw[ht]];exact h
  |cons t r=>exact(h.dv ht).1
theorem Sd.dY(c:Sd w we wz){b:Bp}(e:b∈wz)(j:b.op=1):0<=b.a/\b.a<(w:Int):=by
 obtain⟨-,i,l,-,c⟩:=c;obtain⟨g,f,rfl⟩:=Aa5 e;obtain⟨h,d,-⟩:=c g _ _ (Ad0 f) (Ad0 (by omega));have k:=d.2;grind
theorem Aas(i:BF s=.ok (wn,G,vh)):ZY G vh:=λg k o m=>by
 obtain⟨b,p,a,-⟩:=Ru.run _ _ (N9 i k m) .refl;have d:=a.th;have r:(EP b (u0 o g)).kn.length<=10000:=by unfold mu at d;omega
 have n:=congrArg List.length a.nn;simp[pa]at n;refine⟨b,p,by omega,by omega,by omega,λh c=>⟨?_,λt l j=>(a.gd h c).2.2.2.2.dY l j⟩⟩;have q:=De (f:=λe:CH=>20*cb e.code+9*e.code.length) c;unfold VO at d;omega
theorem Rw(a:Nat):(Lib.decDigits a).foldl (λb c=>b*10+(c.toNat-48)) 0=a:=by
 induction a using Nat.strongRecOn with
 |ind a ih=>
  rw[Lib.decDigits];split
  ·simp;omega
  ·rw[Aci,ih (a / 10) (by omega)];simp;omega
theorem UZ(a:Lib.itoa (w:Int)=Lib.itoa (v:Int)):w=v:=by
 rw[Lib.itoa_nonneg,Lib.itoa_nonneg]at a;rw[<-Rw w,a,Rw]
theorem UR{b:UInt8}:∀{a e c f:List UInt8},b∉a->b∉c->a++b::e=c++b::f->e=f
 |[],_,[],_,_,_,h=>by cases h;rfl
 |[],_,z::c,_,_,hx,h=>by grind
 |z::a,_,[],_,ha,_,h=>by grind
 |z::a,_,w::c,_,ha,hx,h=>UR (λd=>ha (Aei _ d)) (λd=>hx (Aei _ d)) (List.cons.inj h).2
theorem Nw.inj(a:Nw s w)(d:Nw s v):w=v:=by
 let ⟨h,b,c⟩:=a
 let ⟨g,e,f⟩:=d
 exact UZ (UR (DC b).2.1 (DC e).2.1 (c.symm.trans f))
theorem Nw.no(a:Nw s w):¬AM s=true:=λc=>by
 let ⟨e,d,b⟩:=a
 exact(DC c).2.1 (by rw[b];simp)
theorem Ru.nodup(e:Ru wo y wy np n5)(p:y.Nodup)(r:∀g∈y,AM g=true):n5.kn.Nodup:=by
 let ⟨u,q⟩:=e.kp
 refine Ab4.2 λd a t n l s=>?_;have c:=Ad0 n;have b:n5.kn[d]?=some n5.kn[a]:=by grind
 generalize n5.kn[a]=g at b c;by_cases o:y.length<=a
 ·have f:=e.kf a _ o c;by_cases m:y.length<=d
  ·have:=(e.kf d _ m b).inj f;omega
  ·refine f.no (r _ ?_);grind
 ·rw[<-q,Aa9 (by omega)]at b c;let ⟨h,i⟩:=Ab5.1 b
  let ⟨j,k⟩:=Ab5.1 c
  exact Ab4.1 p d a h j l (i.trans k.symm)
theorem Sd.re(p:Sd w we wz)(D:y.length=w)(v:∀e∈y,e∈wy)(E:wy.length=w):Sd w we (wz.map (Yg y wy)):=by
 let ⟨q,o,r,s,t⟩:=p
 refine⟨by simpa using q,o,by simpa using r,s,λB G n m u=>?_⟩;rw[Aa1]at m;obtain⟨f,z,rfl⟩:=Adb.1 m;let ⟨g,d,h,i,j,k⟩:=t B f n z u
 unfold Yg;split
 ·rename_i c
  have b:=d.2;rw[c]at b;have x:y.getD f.a.toNat ⟨#[]⟩∈wy:=by
   have:f.a.toNat<y.length:=by have:=b.1;have:=b.2.1;omega
   rw[List.getD_eq_getElem?_getD,Ad0 this];exact v _ (Ac8 this)
  have:=To x;refine⟨g,?_,h,i,j,λe l=>k e ?_⟩
  ·simp only;rw[c];exact⟨d.1,this.1,by omega,b.2.2⟩
  ·simp[sc,c]at l ⊢;exact l
 ·exact⟨g,d,h,i,j,k⟩
theorem Y0(a:Ik w v we w7 nk)(j:w<=65535):v<21/\(v≠0->0<=we/\we<=65535)/\E8 v we w7=false/\nk=w7+CW v we:=by
 let ⟨e,a⟩:=a
 split at a;case h_16=>
  obtain⟨d,c,rfl,f,g,h,i⟩:=a;have b:((d:Int)*256+c) % 256=c:=by omega
  refine⟨by omega,λ_=>by omega,?_,?_⟩
  ·simp[E8,Hf,CW,b];omega
  ·simp[CW,b];omega
 all_goals first
  |exact a.elim
  |(refine⟨by omega,λ_=>by omega,?_,?_⟩
    ·simp[E8,Hf,CW];omega
    ·simp[CW];omega)
theorem pig:∀b (c:List Nat),c.Nodup->(∀d∈c,d<b)->c.length<=b
 |0,[],_,_=>Acu _
 |0,a::_,_,h=>absurd (h a (by simp)) nofun
 |b+1,c,hd,h=>by
  have:=pig b (c.erase b) (hd.erase b) λd e=>by
   grind
  grind
theorem Sd.hj(D:Sd w we wz)(am:w<=65535)(al:wz.length<=65535)(G:0<=we/\we<=20):(∃h,Sg wz we h)/\(∀e∈wz,∃b,Fg e b)/\(∀e∈wz,-9223372036854775808<=e.a/\e.a<=9223372036854775807)/\∀e∈wz,e.op=1->e.a<(w:Int):=by
 obtain⟨ah,h,ai,O,U⟩:=D;have H:∀{f p},h[f]?=some p->h.getD f 0=p:=λD=>by rw[List.getD_eq_getElem?_getD,D];rfl
 have E:∀a (q:a<wz.length),∃b:Nat,Fg wz[a] b/\(-9223372036854775808<=wz[a].a/\wz[a].a<=9223372036854775807)/\(b=1->wz[a].a<(w:Int))/\(b≠0->0<=wz[a].a/\wz[a].a<=65535)/\0<=h.getD a 0/\h.getD a 0<=1000/\E8 b wz[a].a (h.getD a 0)=false/\(Ds b wz[a].a wz[a].alts a).length<=256/\∀k∈Ds b wz[a].a wz[a].alts a,∃c:Nat,k=c/\c<wz.length/\h.getD c 0=h.getD a 0+CW b wz[a].a:=λa q=>by
  obtain⟨p,aa⟩:∃p,h[a]?=some p:=⟨_,Ad0 (by omega)⟩;obtain⟨ad,f,ao,s,n,ab⟩:=U a wz[a] p (Ad0 q) aa;rw[H aa];have K:∀c∈sc wz[a] a,c<wz.length/\h.getD c 0=ad:=λc r=>⟨by have:=(Ab5.1 (ab c r)).1;omega,H (ab c r)⟩;obtain⟨b,I⟩:=Abd ao;obtain⟨e,v⟩:∃e,wz[a]=e:=⟨_,rfl⟩;rw[v]at f s n K I ⊢;obtain⟨a2,t,u⟩:=e;simp only at f s n I ⊢;subst I;rw[Ahr]at f;obtain⟨aq,L,ar,au⟩:=Y0 f am;have ap:∀k∈Ds b t u a,∃c:Nat,k=c/\c∈sc ⟨b,t,u⟩ a:=λk j=>by
   unfold Ds at j;unfold sc;simp only;split at j
   ·cases j
   ·rename_i ac
    rw[if_neg ac];split at j
    ·rename_i B
     rw[if_pos B];have:=L (by omega);exact⟨t.toNat,by rw[Ac9.1 j];omega,by simp⟩
    ·rename_i B
     rw[if_neg B];split at j
     ·rename_i x
      rw[if_pos x];obtain⟨g,i,rfl⟩:=Adj.1 j;have:=(n x).2.2 g i;exact⟨g.to.toNat,by omega,Adj.2 ⟨g,i,rfl⟩⟩
     ·rename_i x
      rw[if_neg x];exact⟨a+1,by rw[Ac9.1 j];omega,by simp⟩
  have Y:u.length<=256:=by
   by_cases d:(b:Int)=17
   ·obtain⟨a3,av,M⟩:=n d;have aw:=pig 256 (u.map λg=>g.tag.toNat) (by
     refine Abm.2 ((Abm.1 av).imp_of_mem fun {t g} G i hne he=>hne ?_);have:=M t G;have:=M g i;omega) λc r=>by
     obtain⟨g,i,rfl⟩:=Adj.1 r;have:=M g i;omega
    rwa[Adf]at aw
   ·rw[s d];simp
  have an:b≠17->u=[]:=λd=>s (by omega);refine⟨b,⟨rfl,aq,an,Y,?_,?_,λg i=>?_⟩,?_,λd=>?_,L,f.1.1,f.1.2.1,ar,?_,λk j=>?_⟩
  ·have y:=f.2;simp only;split at y;case h_16=>
    obtain⟨c,b,rfl,ai,O,U,E⟩:=y;simp[MD,LY,Fh,DE];omega
   case h_18=>exact .inr ⟨by decide,.inr ⟨by decide,y.1,λ_=>(n rfl).1⟩⟩
   all_goals first
    |exact y.elim
    |(simp[MD,LY,Fh,DE];done)
    |(have:=f.1;simp[MD,LY,Fh,DE];omega)
  ·by_cases d:(b:Int)=17
   ·exact Abm.1 (n d).2.1
   ·simp only;rw[s d];simp
  ·by_cases d:(b:Int)=17
   ·have a4:=(n d).2.2 g i;have:=(K g.to.toNat (by unfold sc;simp only;rw[if_neg (by omega),if_neg (by omega),if_pos d];exact Aes i)).1;omega
   ·simp only at i;rw[s d]at i;cases i
  ·by_cases d:b=0
   ·subst d;have:=f.2;exact⟨this.1,by have:=this.2.1;omega⟩
   ·have:=L d;omega
  ·subst d;exact f.2.2.1
  ·unfold Ds;split
   ·simp
   ·split
    ·simp
    ·split
     ·simpa using Y
     ·simp
  ·obtain⟨c,rfl,r⟩:=ap k j;obtain⟨aj,ak⟩:=K c r;exact⟨c,rfl,aj,by rw[ak,au]⟩
 refine⟨⟨h,Ae7.2 ah,al,G,H O,λa q=>?_⟩,λe v=>?_,λe v=>?_,λe v d=>?_⟩
 ·obtain⟨b,m,-,-,z,N,ax,ay,az,a0⟩:=E a q;have a1:=NO b wz[a].a m.l z;refine⟨b,m.o,m.l,z,m.a,N,ax,ay,az,λk j=>?_⟩;obtain⟨c,ae,af,ag⟩:=a0 k j;exact⟨c,ae,af,ag,by omega,by omega⟩
 all_goals
  obtain⟨a,q,rfl⟩:=Aa5 v;obtain⟨b,m,z,N,-⟩:=E a q
 ·exact⟨b,m⟩
 ·exact z
 ·exact N (by have:=m.o;omega)
theorem Uk:∀a b,b<10 ^ (a+1)->(Lib.decDigits b).length<=a+1/\∀d∈Lib.decDigits b,LP d.toNat=true
 |a,b,h=>by
  have g:∀c,c<10->LP ((UInt8.ofNat (48+c)).toNat)=true:=λc i=>by
   have:(48+c) % 256=48+c:=by omega
   simp[LP,HG,this];omega
  rw[Lib.decDigits];split
  ·grind
  ·cases a with
   |zero=>omega
   |succ a=>
    let ⟨e,f⟩:=Uk a (b / 10) (by omega)
    grind
theorem HV(a:AM s=true):nmB s=true:=by
 rw[<-Qz]at a;grind
theorem Nw.nm{t:ByteArray}{d:Nat}(i:Nw t d)(m:d<10000):nmB t=true:=by
 let ⟨w,f,e⟩:=i
 have l:=(DC f).2.2;have g:=HV f;let ⟨k,h⟩:=Uk 3 d (by omega)
 rw[Lib.itoa_nonneg]at e;have n:t.size=w.size+((Lib.decDigits d).length+1):=by
  show t.data.size=w.data.size+_;rw[<-Acl,e];simp
 simp only[nmB,Ael,decide_eq_true_eq,CA,Acq]at g ⊢;let ⟨⟨⟨o,p⟩,q⟩,j⟩:=g
 refine⟨⟨⟨by omega,by omega⟩,?_⟩,λc b=>?_⟩
 ·cases hw:w.data.toList with
  |nil=>have:w.data.toList.length=w.size:=Acl;grind
  |cons a r=>grind
 ·rw[e]at b;rcases Acz.1 b with b|b
  ·exact j c b
  ·rcases Ady.1 b with rfl|b
   ·decide
   ·exact h c b
theorem Ru.at(c:Ru wo y wy np n5){b:ByteArray}(g:b∈n5.kn):b∈y\/∃a,a<n5.kn.length/\Nw b a:=by
 let ⟨a,f,e⟩:=Aa5 g
 rcases Abo a y.length with d|d
 ·let ⟨i,h⟩:=c.kp
  grind
 ·exact .inr ⟨a,f,c.kf a b d (by grind)⟩
theorem Ru.nm{e:ByteArray->Bool}{c h:List ByteArray}{A:List (ByteArray×Int)}{d:KU}(b:Ru e c h A d)(g:∀t∈c,AM t=true){t:ByteArray}(f:t∈d.kn):nmB t=true:=by
 rcases b.at f with a|⟨j,i,a⟩
 ·exact HV (g t a)
 ·have:=b.th;unfold mu at this;exact a.nm (by omega)
theorem Tp(b:CJ s wn<=0)(a:s≠wn):CJ s wn<0:=by
 have:=mt (HC s wn).1 a;omega
theorem WX(b:nmB s=true):CJ ⟨#[]⟩ s<0:=by
 have c:0<s.size:=by simp[nmB,decide_eq_true_eq]at b;omega
 let ⟨⟨d⟩⟩:=s
 cases d with
 |nil=>simp[ByteArray.size]at c
 |cons a r=>simp[CJ,Lib.compareBytes]
theorem Y9(a b:ByteArray):Yi a b=true↔CJ b a<0:=by
 unfold Yi CJ;rw[Jf,Adw,Adw];have c:=PK a.data.toList b.data.toList;have d:=Mr a.data.toList b.data.toList;grind
theorem XQ{f:wd->ByteArray}{b:List wd}(g:b.Pairwise λd e=>CJ (f d) (f e)<0)(h:∀i∈b,nmB (f i)=true)(a:Nat)(c:a<b.length):Yi (f b[a]) (HK (b.map f) a)=true:=by
 rw[Y9];cases a with
 |zero=>exact WX (h _ (Ac8 c))
 |succ a=>
  rw[<-Ij (by omega)];exact Ab4.1 g a (a+1) (by omega) c .refl
theorem Z8(a:Fg n4 w):zz n4<=iy n4:=by
 have b:=a.l;unfold zz iz iy;rw[a.o,Ahr];clear a;rcases QN w b with rfl|rfl|rfl|rfl|rfl|rfl|rfl|rfl|rfl|rfl|rfl|rfl|rfl|rfl|rfl|rfl|rfl|rfl|rfl|rfl|rfl;all_goals simp[MD,LY,Fh,DE]
theorem ZN{O:J8}(h:∀g∈O.Aq,∀c∈g.code,∃d,Fg c d):fz O<=25+18*O.AA.length+22*O.Aq.length+(O.Aq.map λg=>cb g.code).sum:=by
 have i:=GQ (f:=gz) (g:=λg=>22+cb g.code) λg j=>by
  have:=GQ (f:=zz) λc l=>by let ⟨d,k⟩:=h g j c l;exact Z8 k
  unfold gz cb;omega
 have e:∀b:List CH,(b.map λg=>22+cb g.code).sum=22*b.length+(b.map λg=>cb g.code).sum:=λb=>by
  induction b with
  |nil=>rfl
  |cons a r ih=>grind
 rw[e]at i;unfold fz;omega
def K0(b:List (ByteArray×Int)):List IK:=b.map λa=>⟨a.1,a.2⟩
structure Uz (e:List IT) (c:List DD) (b:J8):Prop where
 g:Gd b
 r:∀g∈b.Aq,∀x∈g.code,-9223372036854775808<=x.a/\x.a<=9223372036854775807
 l:b.AA.length+b.Aq.length<10000
 f:fz b+4<=100000
 il:b.AA.length=e.length
 ii:∀x∈e,(⟨x.1.1,(x.2:Int)⟩:IK)∈b.AA
 no:∀g∈b.Aq,g.exp=false->CB g.name=true
 ex:∀g∈b.Aq,g.exp=true->∃d∈c,d.1.1=g.name/\(d.2.1.length:Int)=g.arity
 n:b.Aq.countP (·.exp)=c.length
theorem ZS(b c:List ByteArray)(a:Bp):iy (Yg b c a)=iy a:=by
 unfold Yg;split
 ·rfl
 ·rfl
theorem T5:∀b:List CH,20*(b.map λa=>cb a.code).sum<=VO b
 |[]=>Acu _
 |a::r=>by
  have:=T5 r;simp[VO]at this ⊢;omega
theorem Nw.has(a:Nw s w):CB s=true:=by
 obtain⟨b,-,a⟩:=a;simp[CB,a]
theorem Ve(a:AM s=true):CB s=false:=by
 have:=(DC a).2.1;simp only[CB,List.any_eq_false,beq_iff_eq];grind
theorem Zr{aB:X}{l:List (ByteArray×Int)}(e:BF s=.ok (wn,G,vh))(I:D.map GZ=vh)(m:Yh w G D n aB q l n5 y ni):Uz G vh ⟨wn,K0 l,(ni.map (HX n5.kn (n5.kn.take l.length++y))).map Ha⟩:=by
 obtain⟨aV,aW,a5⟩:=HR e;obtain⟨ak,⟨Gn,p⟩,-⟩:=U9 a5;obtain⟨au,ax,ay⟩:=m.r;obtain⟨k,am⟩:=Ru.any au _ (N9 e I m.lp) ax;rw[ay]at k am;simp only at p ak;have ai:(u0 l D).kn.Perm (Gn.map (·.1)):=by
  rw[p.gn];refine List.Perm.append ?_ ?_
  ·have:=m.lp.map (·.1);simpa[ia,Aa3]using this
  ·rw[<-I,Ae4];exact .refl _
 have ab:∀g∈(u0 l D).kn,AM g=true:=λg i=>by
  have:=ai.mem_iff.1 i;rw[p.gn]at this;rcases Acz.1 this with e|e
  ·obtain⟨b,d,rfl⟩:=Adj.1 e;exact(p.i b d).1
  ·obtain⟨b,d,rfl⟩:=Adj.1 e;exact(p.d b d).1
 have aj:=k.nodup (ai.nodup_iff.2 p.nd) ab;have K:pa n5=n5.gs.map λb=>(b.name,b.arity):=by unfold pa;rw[am];simp
 have v:=k.nn;rw[K,Ae4]at v;have v:n5.kn=l.map (·.1)++n5.gs.map (·.name):=v;have aT:n5.kn.length=l.length+n5.gs.length:=by rw[v];simp
 have a8:=k.th;have aU:440*n5.kn.length<=mu n5:=by unfold mu;omega
 have aR:ni.length=n5.gs.length:=by simpa using m.gp.length_eq
 have Y:(n5.kn.take l.length++y).Perm n5.kn:=by
  have:=(Ahp (n5.kn.take l.length)).append m.sp;rwa[Ag4]at this
 obtain⟨j,a7⟩:∃j,j=n5.kn.take l.length++y:=⟨_,rfl⟩;rw[<-a7]at Y ⊢;rw[v,Aee]at aj;obtain⟨aI,aJ,aK⟩:=aj;have aS:((ni.map (HX n5.kn j)).map Ha).map (·.name)=(ni.map Ha).map (·.name):=by simp[Ha,HX,Aa3]
 have a2:=m.gp.map (·.name);have u:∀c∈(ni.map (HX n5.kn j)).map Ha,nmB c.name=true/\0<=c.arity/\c.arity<=20/\c.exp=!CB c.name/\(c.name,c.arity)∈pa n5/\(∃r,Sg c.code c.arity r)/\(∀b∈c.code,∃m,Fg b m)/\(∀b∈c.code,-9223372036854775808<=b.a/\b.a<=9223372036854775807)/\∀b∈c.code,b.op=1->b.a<(n5.kn.length:Int):=λc h=>by
  obtain⟨H,z,rfl⟩:=Adj.1 h;obtain⟨b,d,rfl⟩:=Adj.1 z;have L:=m.gp.mem_iff.1 (Aes d);obtain⟨-,ao,aq,aL,aM⟩:=k.gd _ L;have az:=aM.re rfl (λg i=>Y.mem_iff.2 i) Y.length_eq;have a0:(Ha (HX n5.kn j b)).code=(Ha b).code.map (Yg n5.kn j):=by simp[Ha,HX,Lp,Aa3]
  have af:=De (f:=λb:CH=>20*cb b.code+9*b.code.length) L;have aP:=CR (f:=iy) (m:=1) (l:=(Ha b).code) λb _=>by unfold iy;split;omega;split;omega;split<;>omega
  have aQ:(Ha b).code.length<=cb (Ha b).code:=by unfold cb;omega
  unfold VO at a8;have a6:((Ha b).name,(Ha b).arity)∈pa n5:=by rw[K];exact Adj.2 ⟨_,L,rfl⟩
  have ag:=az.hj (by omega) (by rw[Adf];omega) ⟨ao,aq⟩;rw[<-a0]at ag;exact⟨k.nm ab (by rw[v];exact Acz.2 (.inr (Adj.2 ⟨_,L,rfl⟩))),ao,aq,aL,a6,ag⟩
 have a4:∀b∈l,∃H∈G,ia H=b:=λb d=>Adj.1 (m.lp.mem_iff.1 d);have ah:∀b∈K0 l,nmB b.name=true/\0<=b.arity/\b.arity<=20:=λb d=>by
  obtain⟨H,z,rfl⟩:=Adj.1 d;obtain⟨ar,ac,rfl⟩:=a4 H z;obtain⟨E,M⟩:=p.i ar ac;exact⟨HV E,by simp[ia],by simp only[ia];omega⟩
 obtain⟨aN,aa⟩:=k.ap;have al:∀g∈aN.map (·.1),∃B,Nw g B:=λg i=>by
  obtain⟨aC,a3,rfl⟩:=Aa5 i;refine⟨_,k.kf ((u0 l D).kn.length+aC) _ (by omega) ?_⟩;rw[k.nn,<-aa,Adq,<-Aem];have t:l.map (·.1)++(D.map λr=>(r.1.1,(r.2.2.1.length:Int))).map (·.1)=(u0 l D).kn:=by simp[u0,Aa3]
  rw[t,Aex (by omega)];simp only[Nat.add_sub_cancel_left];exact Ad0 a3
 refine⟨⟨HV ak,ah,λad U=>XQ (f:=IK.name) ?_ (λb d=>(ah b d).1) ad U,λc h=>?_,λad U=>XQ (f:=CH.name) ?_ (λb d=>(u b d).1) ad U⟩,λc h=>(u c h).2.2.2.2.2.2.2.1,by simp only[K0,Adf];omega,?_,by simpa[K0]using m.lp.length_eq,λb d=>Adj.2 ⟨ia b,m.lp.mem_iff.2 (Aes d),rfl⟩,λc h N=>?_,λc h N=>?_,?_⟩
 ·exact Abm.2 ((m.ls.and (Abm.1 aI)).imp λe=>Tp e.1 e.2)
 ·obtain⟨E,M,an,-,o,aG,aH,-,aD⟩:=u c h;refine⟨E,M,an,λH z=>?_,aH,aG,λB x af=>?_⟩
  ·obtain⟨ar,ac,rfl⟩:=Adj.1 z;rw[K]at o;obtain⟨aO,a9,t⟩:=Adj.1 o;exact aK _ (Aes ac) _ (Adj.2 ⟨aO,a9,congrArg Prod.fst t⟩)
  ·have:=aD B x af;simp only[K0,Adf];omega
 ·have:=a2.nodup_iff.2 aJ;rw[Ae4]at this;exact Abm.2 (Abm.2 ((m.gz.and (Abm.1 this)).imp λe=>Tp e.1 e.2))
 ·have E:=ZN (O:=⟨wn,K0 l,(ni.map (HX n5.kn j)).map Ha⟩) λc h=>(u c h).2.2.2.2.2.2.1;have M:(((ni.map (HX n5.kn j)).map Ha).map λc=>cb c.code).sum=(n5.gs.map λc=>cb c.code).sum:=by
   rw[<-(m.gp.map λc=>cb c.code).sum_nat];simp[Ha,HX,Lp,cb,Aa3,ZS]
  have an:=T5 n5.gs;have aE:(K0 l).length=l.length:=by simp[K0]
  simp only[aE,Adf,M]at E;omega
 ·have:=(u c h).2.2.2.1;rw[N]at this;simpa using this.symm
 ·obtain⟨-,-,-,ae,o,-⟩:=u c h;rw[N]at ae;rw[<-aa]at o;rcases Acz.1 o with o|o
  ·obtain⟨r,a1,t⟩:=Adj.1 o;exact⟨GZ r,I▸Aes a1,congrArg Prod.fst t,congrArg Prod.snd t⟩
  ·obtain⟨B,x⟩:=al c.name (Adj.2 ⟨_,o,rfl⟩);rw[x.has]at ae;cases ae
 ·have av:((ni.map (HX n5.kn j)).map Ha).countP (·.exp)=(ni.map Ha).countP (·.exp):=by simp[List.countP_map,Ha,HX,Aa3]
  have aw:n5.gs.countP (·.exp)=((pa n5).map (·.1)).countP λg=>!CB g:=by
   rw[K,Ae4,List.countP_map];exact List.countP_congr λb d=>by simp[(k.gd b d).2.2.2.1]
  show((ni.map (HX n5.kn j)).map Ha).countP (·.exp)=_;rw[av,m.gp.countP_eq,aw,<-aa,Adq,List.countP_append,List.countP_eq_length.2,List.countP_eq_zero.2,<-I]
  ·simp
  ·intro g i;obtain⟨B,x⟩:=al g i;simp[x.has]
  ·intro g i;rw[Ae4]at i;rw[Ve (ab g (Acz.2 (.inr i)))];rfl
theorem Gh(e:n.ownsRow 0 w v m b wb):∃f c,m=W f b c/\∀i,i<b->∃d,f=some ⟨d,0,none⟩/\∀a,a<b*v->n.cell? ⟨d,a,none⟩=wb[a]?:=by
 rcases Ahj b with rfl|h
 ·obtain⟨f,c,rfl⟩:=Ad e;simp
 ·obtain⟨d,c,rfl,-,-⟩:=World.ownsRow.form e h;exact⟨_,c,rfl,λ_ _=>⟨d,rfl,λa g=>e.cellAt a g⟩⟩
theorem WG(g:n.ownsRow 0 68 2 m w8.length (w8.flatMap FG))(j:w8.length<=65535):Du n m w8:=by
 obtain⟨i,e,rfl,h⟩:=Gh g;refine⟨i,e,rfl,by unfold short;omega,λc b=>?_⟩;obtain⟨f,rfl,d⟩:=h c b;refine⟨f,0,rfl,?_⟩;rw[Aey,d _ (by omega),d _ (by omega)];exact Co (λa:G7=>Value.int C a.tag) (λa=>Value.int C a.to) w8 c b
theorem VU(k:(cA m wx).h n)(l:(aA wx).h n)(r:wx.length<=65535)(o:∀b∈wx,b.1.alts.length<=65535):Eh n m (wx.map (·.1)):=by
 obtain⟨q,f,rfl,p⟩:=Gh k;refine⟨q,f,by simp,by unfold short;simp;omega,λd c=>?_⟩;rw[Adf]at c;obtain⟨j,rfl,e⟩:=p d c;refine⟨j,0,wx[d].2,rfl,?_⟩;let ⟨g,h,i⟩:=EX (λb:Bp×X=>Value.int C b.1.op) (λb=>Value.int C b.1.a) (λb=>b.2) wx d c
 rw[Aey,e _ (by omega),e _ (by omega),e _ (by omega),Aep];exact⟨g,h,i,WG (l _ (Ac8 c)) (o _ (Ac8 c))⟩
theorem Zn{t:Q}(k:Sp w t (gA q ni::(gL ni++[pA 55 2 m np.length (np.flatMap KN)])))(o:Gd ⟨s,K0 np,ni.map Ha⟩)(I:np.length+ni.length<10000):GF t (T #[S s,m,q]) ⟨s,K0 np,ni.map Ha⟩:=by
 refine⟨m,q,rfl,by have:=Ff o.n;unfold Aed;omega,?_,?_⟩
 ·obtain⟨r,g,rfl,p⟩:=Gh (k.mem (A:=pA 55 2 m np.length (np.flatMap KN)) (by simp));refine⟨r,g,by simp[K0],by unfold short;simp[K0];omega,λc f=>?_⟩;have l:=Ff (o.i _ (Ac8 f)).1;have e:c<np.length:=by simpa[K0]using f
  obtain⟨j,rfl,d⟩:=p c e;refine⟨j,0,rfl,?_⟩;let ⟨h,i⟩:=Co (λb:ByteArray×Int=>Value.string b.1) (λb=>Value.int C b.2) np c e
  rw[Aey,d _ (by omega),d _ (by omega)];simp[K0]at l ⊢;exact⟨h,i,by unfold Aed;omega⟩
 ·obtain⟨r,g,rfl,p⟩:=Gh (k.mem (A:=gA q ni) (by simp));refine⟨r,g,by simp,by unfold short;simp;omega,λc f=>?_⟩;obtain⟨G,-,-,-,v,⟨_,H⟩,-⟩:=o.g _ (Ac8 f);have l:=Ff G;have e:c<ni.length:=by simpa using f
  obtain⟨j,rfl,d⟩:=p c e;refine⟨j,0,ni[c].cv,rfl,?_⟩;let ⟨h,i,y,z⟩:=C7 (λb:GG=>Value.string b.nm) (λb=>Value.int C b.ar) (λb=>Value.bool b.ex) (λb=>b.cv) ni c e
  rw[Aey,d _ (by omega),d _ (by omega),d _ (by omega),d _ (by omega)];have u:∀A∈[cA ni[c].cv ni[c].cs,aA ni[c].cs],A.h t:=λA B=>k.mem (Aei _ (Acz.2 (.inl (Ada.2 ⟨_,Ac8 e,B⟩))));have x:=H.m;simp only[Aep,Ha,Adf]at l v x ⊢;exact⟨h,i,y,z,VU (u _ (by simp)) (u (aA ni[c].cs) (Aei _ (Aew ..))) x λb E=>by
   let ⟨K,D⟩:=v b.1 (Aes E)
   have:=D.a;omega,by unfold Aed;omega⟩
structure Fa (e:DR) (c:Dn) (b:J8):Prop where
 g:Gd b
 r:∀g∈b.Aq,∀x∈g.code,-9223372036854775808<=x.a/\x.a<=9223372036854775807
 l:b.AA.length+b.Aq.length<10000
 f:fz b+4<=100000
 il:b.AA.length=e.length
 ii:∀x∈e,(⟨x.1,(x.2:Int)⟩:IK)∈b.AA
 no:∀g∈b.Aq,g.exp=false->CB g.name=true
 ex:∀g∈b.Aq,g.exp=true->∃d∈c,d.1=g.name/\(d.2.1.length:Int)=g.arity
 n:b.Aq.countP (·.exp)=c.length
theorem Uz.fa(a:Uz G vh wk):Fa (G.map Rc) (vh.map KO) wk:=by
 refine⟨a.g,a.r,a.l,a.f,by rw[Adf];exact a.il,λo j=>?_,a.no,λc i h=>?_,by rw[Adf];exact a.n⟩
 ·obtain⟨m,k,rfl⟩:=Adj.1 j;exact a.ii m k
 ·let ⟨b,g,d,e⟩:=a.ex c i h
  exact⟨KO b,Aes g,d,e⟩
theorem Yq.open(c:Yq n m q wf H):∃i o f k,m=W i wf.length o/\q=W f H.length k/\∀d,Below n.heap.size n d->(∀a c,∃b,i=some ⟨b,0,none⟩/\d.cell? ⟨b,a*2,none⟩=some (.string wf[a].1)/\d.cell? ⟨b,a*2+1,none⟩=some (V C (wf[a].2:Int)))/\∀a c,∃b p j,f=some ⟨b,0,none⟩/\d.cell? ⟨b,a*4,none⟩=some (.string H[a].1)/\d.cell? ⟨b,a*4+1,none⟩=some (.slice p H[a].2.1.length j):=by
 obtain⟨u,z,v,t,w⟩:=c;obtain⟨i,o,rfl,x⟩:=Gh u;obtain⟨f,k,rfl,y⟩:=Gh t;refine⟨i,o,f,k,rfl,rfl,λd h=>⟨λa c=>?_,λa c=>?_⟩⟩
 ·obtain⟨b,rfl,e⟩:=x a c;let ⟨l,g⟩:=Co (λr:ByteArray×Nat=>Value.string r.1) (λr=>Value.int C r.2) wf a c
  exact⟨b,rfl,Aa h ((e _ (by omega)).trans l),Aa h ((e _ (by omega)).trans g)⟩
 ·obtain⟨b,rfl,e⟩:=y a c;obtain⟨l,g,-⟩:=JC v a c (by omega);let ⟨p,j,s⟩:=w a (by omega) c
  rw[s]at g;exact⟨b,p,j,rfl,Aa h ((e _ (by omega)).trans l),Aa h ((e _ (by omega)).trans g)⟩
def B6(b:Q)(a:Nat)(c d e f g h:X):Prop:=(b.cell? ⟨a,0,none⟩=some c/\b.cell? ⟨a,1,none⟩=some d/\b.cell? ⟨a,2,none⟩=some e)/\b.cell? ⟨a+1,0,none⟩=some f/\b.cell? ⟨a+1,1,none⟩=some g/\b.cell? ⟨a+1,2,none⟩=some h
theorem B6.cJ{w:Q}{c:Nat}(a:B6 w c m q j f wv vc)(b:Below w.heap.size w n):B6 n c m q j f wv vc:=⟨⟨Aa b a.1.1,Aa b a.1.2.1,Aa b a.1.2.2⟩,Aa b a.2.1,Aa b a.2.2.1,Aa b a.2.2.2⟩
theorem OV{b:Q}(af:GF b m wk)(aC:Yq b q j wf H)(h:Fa wf H wk):Adg Acs 12 #[m,T #[S wk.name,q,j]] b λae N=>ae=F (A true)/\Below b.heap.size b N:=by
 have a3:=hid λN (ah:Below b.heap.size b N)=>TU (af.cJ ah) h.g;have a0:=hid λN (ah:Below b.heap.size b N)=>VC (af.cJ ah) h.g h.r h.l h.f;obtain⟨bQ,b7,rfl,bM,aB,a9⟩:=af;obtain⟨I,G,rfl,bn,aM⟩:=aB.open;obtain⟨Y,y,rfl,bL,aH⟩:=a9.open;obtain⟨L,K,B,z,rfl,rfl,aQ⟩:=aC.open;have aZ:=hid aH;have ba:=hid aM;have a2:=hid aQ;have O:=hid h;have ak:=h.il;have aO:=h.l;have aL:H.length<=wk.Aq.length:=by rw[<-h.n];grind
 have ay:Hid (∀M aT,Below b.heap.size b ((b.alloc M).alloc aT)):=λM aT=>bA.alloc (by simp) _;have bf:=hid λa6 bm=>(h.g.g a6 bm).1;have ad:=hid ak;have a1:=hid aO;have be:=hid aL;rw[ak]at a3 a0 ⊢;clear aH aM aB a9 aQ aC h ak aO aL;go_enter Tryz.func12,Tryz.ntmps12;go_wp2_with (first
  |(go_at_call 22;refine(a3.out _ (ay.out _ _)).mono ?_;rintro ae aV ⟨rfl,U⟩;have w:=hid ((ay.out _ _).trans (U.mono (by simp;omega)));have bw:b.heap.size<aV.heap.size:=(by have:=U.size;simp at this;omega);have aa:Hid (B6 aV b.heap.size (S wk.name) (W I wf.length G) (W Y wk.Aq.length y) (S wk.name) (W L wf.length K) (W B H.length z)):=B6.cJ ⟨⟨by simp,by simp,by simp⟩,by simp,by simp,by simp⟩ U;obtain⟨bg,bh,bi⟩:=aa.out.1)
  |(go_at_call 23;refine(a0.out _ (w.out.alloc w.out.size _)).mono ?_;rintro ae bT ⟨⟨b5,rfl⟩,ai⟩;have az:=hid ((w.out.alloc w.out.size _).trans (ai.mono (by have:=w.out.size;simp;omega)));have ab:=hid ((aa.out.cJ bA).cJ ai);obtain⟨⟨p,u,v⟩,k,s,t⟩:=ab.out;clear bg bh bi))
 have bB:wf.length<10000:=by have:=a1.out;have:=ad.out;omega
 have b9:wk.Aq.length<10000:=by have:=a1.out;omega
 have b8:H.length<10000:=by have:=be.out;omega
 clear p u v k s t bw U ai;go_loopw [9] (λax wr=>∃g:Nat,g<=wf.length/\ax=V C g/\Hid (Below b.heap.size b wr/\B6 wr b.heap.size (S wk.name) (W I wf.length G) (W Y wk.Aq.length y) (S wk.name) (W L wf.length K) (W B H.length z))) (λax _=>wf.length-(intOf ax).toNat)
 case atStart=>exact⟨0,Ac0 _,rfl,az.out,ab.out⟩
 case round=>
  obtain⟨g,bE,rfl,ag⟩:=hrel;clear az ab w aa;obtain⟨⟨p,u,v⟩,k,s,t⟩:=ag.out.2;by_cases aP:g<wf.length
  ·obtain⟨i,an,E⟩:=Aa5 (O.out.ii _ (Ac8 aP));have bN:i<wf.length:=by have:=ad.out;omega
   have ac:=hid E;clear E;rename Q=>W3
   go_wp2;go_loopw [10,11] (λbx aq wr=>∃(a:Nat) (e:Bool),a<=wf.length/\bx=A e/\aq=V C a/\(e=true\/a<=i)/\Hid (Below b.heap.size b wr/\B6 wr b.heap.size (S wk.name) (W I wf.length G) (W Y wk.Aq.length y) (S wk.name) (W L wf.length K) (W B H.length z))) (λ_ aq _=>wf.length-(intOf aq).toNat)
   case atStart=>exact⟨0,false,Ac0 _,rfl,rfl,.inr (Ac0 _),ag⟩
   case round=>
    clear p u v k s t;obtain⟨a,e,bs,rfl,rfl,aE,d⟩:=hrel;obtain⟨⟨p,u,v⟩,k,s,t⟩:=d.out.2;rename Q=>W4
    by_cases x:a<wf.length
    ·cases e
     ·have bt:a<wk.AA.length:=by have:=ad.out;omega
      obtain⟨a5,M,rfl,aW,aX,-⟩:=ba.out _ d.out.1 a bt;obtain⟨b6,rfl,aY,b2⟩:=(a2.out _ d.out.1).1 g aP;have bH:(0:Int)<=(a:Int):=by omega
      have bI:(a:Int)<(wf.length:Int):=by omega
      have bn:(0:Int)<=(g:Int):=by omega
      have bG:(g:Int)<(wf.length:Int):=by omega
      by_cases bu:a=i
      ·subst bu;rw[ac.out]at aW aX;generalize wf[g].1=n1 at*;generalize wf[g].2=aS at*;go_wp2;go_quiet (fail);go_wp2;exact⟨⟨a+1,true,by omega,rfl,by go_num,.inl rfl,⟨Aeu d.out.1 _,d.out.2.cJ (Aeu (Acv _ _) _)⟩⟩,by simp[intOf];omega⟩
      ·have bJ:=aE.resolve_left (by decide);generalize wf[g].1=n1 at*;generalize wf[g].2=aS at*;generalize wk.AA[a].name=n3 at*;generalize wk.AA[a].arity=n4 at*;cases hq:(n3.toList==n1.toList)<;>cases hr:(n4==(aS:Int));all_goals
        go_wp2;go_quiet (fail);go_wp2;exact⟨⟨a+1,_,by omega,rfl,by go_num,.inr (by omega),⟨Aeu d.out.1 _,d.out.2.cJ (Aeu (Acv _ _) _)⟩⟩,by simp[intOf];omega⟩
     ·go_wp2;go_quiet (fail);go_wp2;exact⟨⟨a+1,true,by omega,rfl,by go_num,.inl rfl,⟨Aeu d.out.1 _,d.out.2.cJ (Aeu (Acv _ _) _)⟩⟩,by simp[intOf];omega⟩
    ·obtain rfl:e=true:=aE.resolve_right (by omega);go_wp2;exact⟨⟨g+1,by omega,by go_num,d⟩,by simp[intOf];omega⟩
  ·rename Q=>W3
   go_wp2;go_loopw [12,13] (λbz au wr=>∃a:Nat,a<=wk.Aq.length/\bz=V C ((wk.Aq.take a).countP (·.exp):Nat)/\au=V C a/\Hid (Below b.heap.size b wr/\B6 wr b.heap.size (S wk.name) (W I wf.length G) (W Y wk.Aq.length y) (S wk.name) (W L wf.length K) (W B H.length z))) (λ_ au _=>wk.Aq.length-(intOf au).toNat)
   case atStart=>exact⟨0,Ac0 _,rfl,rfl,ag⟩
   case round=>
    clear p u v k s t;obtain⟨a,bs,rfl,rfl,d⟩:=hrel;obtain⟨⟨p,u,v⟩,k,s,t⟩:=d.out.2;have bC:(wk.Aq.take a).countP (·.exp)<=a:=Ac5 List.countP_le_length (by simp;omega);by_cases x:a<wk.Aq.length
    ·obtain⟨a5,M,bk,bj,cc,rfl,aW,aX,bU,bV,-,bK⟩:=aZ.out _ d.out.1 a x;have am:=O.out.no _ (Ac8 x);have aj:=O.out.ex _ (Ac8 x);have aR:(wk.Aq.take (a+1)).countP (·.exp)=(wk.Aq.take a).countP (·.exp)+(if wk.Aq[a].exp then 1 else 0):=by rw[Ade x,List.countP_append];simp[List.countP_cons]
     have a4:=hid aR;have bD:=Ff (bf.out _ (Ac8 x));clear aR;generalize wk.Aq[a].name=nm at*;generalize wk.Aq[a].arity=ar at*;generalize wk.Aq[a].exp=ex at*;generalize (wk.Aq.take a).countP (·.exp)=OT at*;rename Q=>W4
     have aD:Hid (∀aU,Below W4.heap.size W4 (W4.alloc aU)):=λaU=>bA;have bO:b.heap.size<W4.heap.size:=Adt p;have bP:b.heap.size+1<W4.heap.size:=Adt k;cases ex
     ·have a7:=am rfl;simp only[CB,List.any_eq_true,beq_iff_eq]at a7;obtain⟨b3,aG,rfl⟩:=a7;obtain⟨i,an,E⟩:=Aa5 aG;have bv:i<nm.size:=by have:nm.data.toList.length=nm.size:=Acl;omega
      have ac:Hid (nm[i]'bv=35):=E;clear am aj aG E an;go_wp2;go_loopw [15,16] (λb0 av wr=>∃(c:Nat) (e:Bool),c<=nm.size/\b0=A e/\av=V C c/\(e=true\/c<=i)/\wr=W4.alloc (.cells #[S nm,V C ar,A false,W bk bj cc] 59)) (λ_ av _=>nm.size-(intOf av).toNat)
      case atStart=>exact⟨0,false,Ac0 _,rfl,rfl,.inr (Ac0 _),rfl⟩
      case round=>
       obtain⟨c,e,bo,rfl,rfl,D,rfl⟩:=hrel;by_cases aN:c<nm.size
       ·have bp:(0:Int)<=(c:Int):=by omega
        have bq:(c:Int)<(nm.size:Int):=by omega
        cases e
        ·have br:=D.resolve_left (by decide);by_cases al:c=i
         ·subst al;have a8:=ac.out;go_wp2;exact⟨⟨c+1,_,by omega,rfl,by go_num,.inl (by simp),trivial⟩,by simp[intOf];omega⟩
         ·go_wp2;exact⟨⟨c+1,_,by omega,rfl,by go_num,.inr (by omega),trivial⟩,by simp[intOf];omega⟩
        ·go_wp2;exact⟨⟨c+1,true,by omega,rfl,by go_num,.inl rfl,trivial⟩,by simp[intOf];omega⟩
       ·obtain rfl:e=true:=D.resolve_right (by omega);go_wp2;exact⟨⟨a+1,by omega,by rw[a4.out];simp,by go_num,d.out.1.alloc d.out.1.size _,d.out.2.cJ (aD.out _)⟩,by simp[intOf];omega⟩
     ·obtain⟨b4,aI,aJ,aK⟩:=aj rfl;obtain⟨i,an,rfl⟩:=Aa5 aI;have bb:=hid aJ;have bc:=hid aK;clear am aj aI aJ aK;go_wp2;go_loopw [17,18] (λb1 aw wr=>∃(c:Nat) (e:Bool),c<=H.length/\b1=A e/\aw=V C c/\(e=true\/c<=i)/\wr.cell? ⟨W4.heap.size,0,none⟩=some (S nm)/\wr.cell? ⟨W4.heap.size,1,none⟩=some (V C ar)/\Hid (Below b.heap.size b wr/\B6 wr b.heap.size (S wk.name) (W I wf.length G) (W (some ⟨a5,M,none⟩) wk.Aq.length y) (S wk.name) (W L wf.length K) (W B H.length z))) (λ_ aw _=>H.length-(intOf aw).toNat)
      case atStart=>exact⟨0,false,Ac0 _,rfl,rfl,.inr (Ac0 _),by simp,by simp,d.out.1.alloc d.out.1.size _,d.out.2.cJ (aD.out _)⟩
      case round=>
       clear p u v k s t;obtain⟨c,e,bo,rfl,rfl,D,ao,ap,o⟩:=hrel;obtain⟨-,k,s,t⟩:=o.out.2;rename Q=>W5
       by_cases aN:c<H.length
       ·have bp:(0:Int)<=(c:Int):=by omega
        have bq:(c:Int)<(H.length:Int):=by omega
        cases e
        ·obtain⟨a6,bS,bR,rfl,aY,b2⟩:=(a2.out _ o.out.1).2 c aN;have br:=D.resolve_left (by decide);by_cases al:c=i
         ·subst al;rw[bb.out]at aY;have a8:=bc.out;generalize H[c].2.1.length=pl at*;subst a8;go_wp2;go_quiet (fail);go_wp2;exact⟨⟨c+1,true,by omega,rfl,by go_num,.inl rfl,ao,ap,⟨Aeu o.out.1 _,o.out.2.cJ (Aeu (Acv _ _) _)⟩⟩,by simp[intOf];omega⟩
         ·generalize H[c].2.1.length=pl at*;generalize H[c].1=n1 at*;cases hq:(n1.toList==nm.toList);all_goals
           go_wp2;go_quiet (fail);go_wp2;exact⟨⟨c+1,_,by omega,rfl,by go_num,.inr (by omega),ao,ap,⟨Aeu o.out.1 _,o.out.2.cJ (Aeu (Acv _ _) _)⟩⟩,by simp[intOf];omega⟩
        ·go_wp2;go_quiet (fail);go_wp2;exact⟨⟨c+1,true,by omega,rfl,by go_num,.inl rfl,ao,ap,⟨Aeu o.out.1 _,o.out.2.cJ (Aeu (Acv _ _) _)⟩⟩,by simp[intOf];omega⟩
       ·obtain rfl:e=true:=D.resolve_right (by omega);go_wp2;exact⟨⟨a+1,by omega,by rw[a4.out];simp,by go_num,o⟩,by simp[intOf];omega⟩
    ·have bl:=O.out.n;rw[Aav (by omega),bl];go_wp2;go_ret;exact⟨rfl,d.out.1⟩
end Go.Proofs.YtnghccjoicmabaaGreatDoor
