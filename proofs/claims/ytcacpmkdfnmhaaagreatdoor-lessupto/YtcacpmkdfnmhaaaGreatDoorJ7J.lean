import Derived.Test.YtcacpmkdfnmhaaaGreatDoorJaJ
import Derived.Maps.OwnSet
import Derived.Maps.Views
set_option linter.unusedSimpArgs false
set_option maxRecDepth 100000
set_option maxHeartbeats 8000000
open Go renaming Calls->Av,Value->X,World->Q
open Go.Ending renaming returned->F
open Go.IntKind renaming i64->C
open Go.Proofs.Tryz renaming prog->Aa,underlying9->Bg
open Go.Value renaming agg->T,bool->A,int->V,string->S,tuple->R
open List renaming length->L
open Option renaming none->N,some->I
open Or renaming inl->Ba
namespace Go.Proofs.YtcacpmkdfnmhaaaGreatDoor
open Go.RowKit Go.Sort
variable{b:Value}{o wm:Int}{yc:List MemPlace}{v nl:ByteArray}{n:World}{s w:Nat}{v7 yp:ByteArray->Option (Nat×Int)}{we:List BA}{d:List Bt}{G:Option Addr}{x1:DataW Unit}
def Ma:X->Option (DataW Unit×List MemPlace)
 |.agg cs=>match cs.toList with
  |[.int C a,.int C b]=>I (.agg [.lit (.int C a),.lit (.int C b)],[])
  |_=>N
 |_=>N
theorem TN(a:Ma b=I (.agg [.lit (.int C o),.lit (.int C wm)],yc)):b=.agg #[.int C o,.int C wm]:=by
 unfold Ma at a;split at a
 ·split at a
  ·obtain⟨⟨rfl,rfl⟩,-⟩:=a;congr 1
   grind
  ·cases a
 ·cases a
def C6:Option (Nat×Int)->Int×Int
 |some (b,a)=>((b:Int),a)
 |none=>(0,0)
def Hx(a:Option (Nat×Int)):X:=T #[V C (C6 a).1,V C (C6 a).2]
def KG(a:Option (Nat×Int)):DataW Unit:=.agg [.lit (.int C (C6 a).1),.lit (.int C (C6 a).2)]
def Hk(a:ByteArray):Lit:=.string a.data.toList
theorem Ab0(a:Hk v=Hk nl):v=nl:=Go.WideShapes.bytes_inj (by simpa[Hk]using a)
def XM(f:Q)(d e:Nat)(c:ByteArray->Option (Nat×Int)):Prop:=∃b,f.ownsMap Aa 9 Ma d e b/\∀a:ByteArray,Maps.has b (Hk a)=(c a).isSome/\b.atKey (Hk a) (KG N)=KG (c a)
theorem Tryz.eI:Aa.underlying 142=I (.map 9 147):=O3
theorem Tryz.d6(a:Q):(zeroValue 147).run Aa a=.ok (Hx N) a:=O3
theorem XM.new(a:Q):XM (a.alloc (.map #[] 0)) a.heap.size 0 λ_=>none:=⟨_,World.ownsMap_made a _ _ _,λ_=>⟨rfl,rfl⟩⟩
theorem XM.bE{w:Q}{a:Nat}(g:XM w a s v7)(hb:Below w.heap.size w n):XM n a s v7:=by
 let ⟨c,b,h⟩:=g
 have i:=b.lt;let ⟨f,d,e,j⟩:=b
 exact⟨c,⟨f,d,by rw[hb.block a i];exact e,j⟩,h⟩
theorem XM.congr(c:XM n w s v7)(e:∀a,v7 a=yp a):XM n w s yp:=by
 let ⟨b,d,f⟩:=c
 exact⟨b,d,λa=>by grind⟩
theorem XM.look(a:XM n w s v7)(t:ByteArray)(e:t.size<=maxLen):(Instr.lookup 142 (.map (I w)) (S t) true).run Aa n=.ok (R #[Hx (v7 t),A (v7 t).isSome]) n:=by
 let ⟨g,b,c⟩:=a
 let ⟨i,h,d,f⟩:=b.look_ok (Maps.string_keyed Bg) Tryz.eI (Tryz.d6 n) (zd:=KG N) rfl (Go.WideMaps.keyOf_string_mk Bg e)
 rw[d];have:=c t;unfold Hk at this;rw[this.1,TN (f.trans (by rw[this.2];rfl))];rfl
theorem XM.eG(b:XM n w s v7)(a:ByteArray)(f:a.size<=maxLen):(Instr.lookup 142 (.map (I w)) (S a) false).run Aa n=.ok (Hx (v7 a)) n:=by
 let ⟨h,c,d⟩:=b
 let ⟨j,i,e,g⟩:=c.lookup (Maps.string_keyed Bg) Tryz.eI (Tryz.d6 n) (zd:=KG N) rfl (Go.WideMaps.keyOf_string_mk Bg f)
 rw[e];have:=d a;unfold Hk at this;rw[TN (g.trans (by rw[this.2];rfl))];rfl
def Du(b:List BA)(c:Nat)(d:ByteArray):Option (Nat×Int):=(Hc d (b.take c) 0 0).map λa=>(a.1,a.2.2)
def FG(a:List BA)(b:Nat)(d:List Bt)(e:Nat)(c:ByteArray):Option (Nat×Int):=match Du a b c with
 |some x=>I x
 |none=>IZ c (d.take e) (Dl a b)
theorem Yn(d:ByteArray):∀a c b,IZ d (a++c) b=match IZ d a b with|some x=>I x|none=>IZ d c (b+L a)
 |[],c,b=>rfl
 |g::a,c,b=>by
  rw[Bf,IZ,IZ];split
  ·rfl
  ·rw[Yn d a c,AM,show b+1+L a=b+(L a+1) by omega]
theorem Vn(e:ByteArray):∀a c b d,Hc e (a++c) b d=match Hc e a b d with|some x=>I x|none=>Hc e c (b+L a) (d+(a.map λf=>L f.Bs).sum)
 |[],c,b,d=>rfl
 |f::a,c,b,d=>by
  rw[Bf,Hc,Hc];split
  ·rfl
  ·rw[Vn e a c,AM,Aqv,Ar9,show b+1+L a=b+(L a+1) by omega,Nat.add_assoc]
theorem VA(a:ByteArray)(b:s<L d):FG we w d (s+1) a=match FG we w d s a with|some x=>I x|none=>if d[s].exp && decide (d[s].name=a) then I (Dl we w+s,d[s].arity) else none:=by
 unfold FG;cases Du we w a with
 |some x=>rfl
 |none=>
  rw[Au b,Yn,Aqw,Ast O1];rfl
theorem Akf(d:w<L we)(a:ByteArray):FG we w we[w].Bs we[w].Bs.length a=Du we (w+1) a:=by
 unfold FG;have c:Du we (w+1) a=(Hc a (we.take w++[we[w]]) 0 0).map λb=>(b.1,b.2.2):=by unfold Du;simp
 rw[c,Vn];unfold Du;cases Hc a (we.take w) 0 0 with
 |some b=>rfl
 |none=>
  simp only[Option.map_none,Hc,Aqy];unfold Dl;grind
theorem PJ(a:List BA)(b:ByteArray):Du a (L a) b=(HE a b).map λc=>(c.1,c.2.2):=by unfold Du HE;simp
def HI(b:List BA)(e:Nat)(c:List Bt)(d:Nat)(a:Bt):Bool:=a.exp && (FG b e c d a.name).isSome
def IB(b:List BA)(c:Nat)(a:BA):Bool:=(BO (HI b c a.Bs) a.Bs 0).isSome
def Q8(a:Nat->Addr)(b:Nat):Option Nat->X
 |some c=>Gv (a b) 0 (c:Int)
 |none=>.nilIface
theorem Ip.cells(h:Ip n G we){a:Nat}(i:a<L we):∃b c g f e d,G=I ⟨b,c,N⟩/\n.cell? ⟨b,c+a*3,N⟩=I (.string we[a].name)/\n.cell? ⟨b,c+a*3+1,N⟩=I (.slice g we[a].Bu.length f)/\n.cell? ⟨b,c+a*3+2,N⟩=I (.slice e we[a].Bs.length d)/\EK n (T #[.string we[a].name,.slice g we[a].Bu.length f,.slice e we[a].Bs.length d]) we[a]:=h a i
def JV(c:List Bt)(b:Nat):Nat:=((c.take b).map λa=>L a.code).sum
def JE(a:List BA)(b:Nat):Nat:=((a.take b).map Np).sum
theorem Zg(a:w<L d):JV d (w+1)=JV d w+d[w].code.length:=by
 unfold JV;rw[Au a,AJ,Atr];simp
theorem Zm(a:w<L we):JE we (w+1)=JE we w+Np we[w]:=by
 unfold JE;rw[Au a,AJ,Atr];simp
theorem WQ(a:List Bt):JV a (L a)=(a.map λb=>L b.code).sum:=by unfold JV;simp
theorem Ahn(a:List BA):JE a (L a)=sz a:=by unfold JE sz;simp
def Sz(b:List BA):Prop:=∀a∈b,∀c∈a.Bs,L c.code<=65536
theorem RY{b:List Bt}(c:∀d∈b,L d.code<=65536):∀a,a<=L b->JV b a<=a*65536
 |0,_=>by simp[JV]
 |a+1,hj=>by
  have:=RY c a O1;have:=c b[a] (Ao _);rw[Zg O1];omega
theorem XL{b:List BA}(d:Lt b)(c:Sz b):∀a,a<=L b->JE b a<=a*200000000000000000
 |0,_=>by simp[JE]
 |a+1,hk=>by
  have f:=XL d c a O1;have e:=RY (c b[a] (Ao _)) _ .refl;rw[WQ]at e;have h:=(d.g b[a] (Ao _)).1;rw[Zm O1];unfold Np;omega
theorem Adf(a:List BA)(E:X)(d:Q)(U:Iq d E a)(j:Lt a)(w:Sz a):
 Av Aa 47 #[E] d λe f=>e=F (V C (sz a:Int))/\Below d.heap.size d f:=by
 obtain⟨ae,aj,rfl,ad,u⟩:=U;have M:O9 (∀f,Below d.heap.size d f->Ip f ae a):=λf hb=>u.bE hb;have p:=O0 j;have r:=O0 w;have a4:=j.n;clear u w j ad;go_enter Tryz.func47,Tryz.ntmps47;go_wp2;go_loopw [3,10] (λo l wr=>∃b:Nat,b<=L a/\o=V C (JE a b:Int)/\l=V C (b:Int)/\O9 (Below d.heap.size d wr)) (λ_ l _=>L a-(intOf l).toNat)
 case atStart=>exact⟨0,Ak _,rfl,rfl,Ae _ _⟩
 case round=>
  obtain⟨b,ac,rfl,rfl,h⟩:=hrel;rename Q=>wr
  by_cases z:b<L a
  ·have az:(0:Int)<=(b:Int):=O1;have a0:(b:Int)<(L a:Int):=O1;obtain⟨af,aB,a7,a6,ax,au,rfl,ag,ah,ai,v⟩:=(M.o _ h.o).cells z;obtain⟨ay,av,e,a2,x⟩:=v.Bs.2.open;cases e;have H:=O0 x;have Y:=XL p.o r.o b ac;have a3:=(p.o.g a[b] (Ao _)).1;have s:=O0 (Zm z);obtain⟨m,B⟩:∃m,JE a b=m:=⟨_,rfl⟩;rw[B]at Y s ⊢;have K:=O0 (r.o a[b] (Ao _));clear x v B;go_wp2;go_loopw [3,17] (λo k G=>∃c:Nat,c<=a[b].Bs.length/\o=V C ((m+JV a[b].Bs c:Nat):Int)/\k=V C (c:Int)/\O9 (Below wr.heap.size wr G)) (λ_ k _=>a[b].Bs.length-(intOf k).toNat)
   case atStart=>exact⟨0,Ak _,rfl,rfl,bA⟩
   case round=>
    obtain⟨c,ab,rfl,rfl,i⟩:=hrel;rename Q=>G
    by_cases y:c<a[b].Bs.length
    ·have a8:(0:Int)<=(c:Int):=O1;have a9:(c:Int)<(a[b].Bs.length:Int):=O1;obtain⟨gb,aw,am,al,cc,rfl,ao,ap,aq,ar,t,-⟩:=H.o _ i.o c y;obtain⟨an,ak,e,a1,-⟩:=t.open;cases e;have a5:=RY K.o c ab;have D:=Zg y;have O:=O0 D;generalize JV a[b].Bs c=q at*;generalize a[b].Bs[c].code.length=cl at*;generalize a[b].Bs[c].name=gnm at*;generalize a[b].Bs[c].arity=gar at*;generalize a[b].Bs[c].exp=gex at*;clear D t;go_wp2;go_roundw
     case rel=>exact⟨c+1,O1,by rw[O.o];go_num,by go_num,i.o.alloc i.o.size _⟩
     case measure=>simp[intOf];omega
    ·obtain rfl:c=a[b].Bs.length:=O1;have aa:¬(a[b].Bs.length:Int)<(a[b].Bs.length:Int):=O1;go_wp2;go_roundw
     case rel=>exact⟨b+1,O1,by rw[s.o,WQ];rfl,by go_num,h.o.trans (i.o.mono h.o.size)⟩
     case measure=>simp[intOf];omega
  ·obtain rfl:b=L a:=O1;have aa:¬(L a:Int)<(L a:Int):=O1;go_wp2;go_ret;exact⟨Ph (by rw[Ahn];rfl),h.o⟩
theorem Amf(e:n.ownsMap Aa 9 Ma w s x1)(m:∀a:ByteArray,Maps.has x1 (Hk a)=(v7 a).isSome/\x1.atKey (Hk a) (KG N)=KG (v7 a))(a:ByteArray)(g:Nat)(d:Int)(h:Nat)(i:Q)(l:i.ownsMap Aa 9 Ma w h (x1.put (Hk a) (KG (I (g,d))))):XM i w h λb=>if b=a then I (g,d) else v7 b:=by
 refine⟨_,l,λb=>?_⟩;dsimp only;by_cases c:b=a
 ·subst c;rw[if_pos rfl];exact⟨Maps.has_put_same e.isMap (k:=Hk b) trivial _,Maps.atKey_put_same e.isMap (k:=Hk b) trivial _ _⟩
 ·rw[if_neg c];have f:=λj=>c (Ab0 j);rw[Maps.has_put_other f,Maps.atKey_put_other f];exact m b
theorem XM.mono{e:Q}{a c d:Nat}{b:ByteArray->Option (Nat×Int)}(g:XM e a c b)(j:c<=d):XM e a d b:=by
 let ⟨f,h,i⟩:=g
 exact⟨f,h.mono j,i⟩
theorem Aak{Os:List BA}{k:Nat}(b:w<L d)(c:d[w].exp=false\/(FG Os k d w d[w].name).isSome=true)(a:ByteArray):FG Os k d w a=FG Os k d (w+1) a:=by
 rw[VA a b];grind
theorem Aie{Os:List BA}{k:Nat}(b:w<L d)(e:d[w].exp=true)(c:FG Os k d w d[w].name=N)(a:ByteArray):(if a=d[w].name then I (Dl Os k+w,d[w].arity) else FG Os k d w a)=FG Os k d (w+1) a:=by
 rw[VA a b];grind
def Agd(f:Nat->Addr)(a:List BA)(d:Q)(c:Ending)(e:Q):Prop:=Below d.heap.size d e/\match BO (IB a) a 0 with
 |some g=>c=F (R #[.map N,Gv (f 14) 0 (g:Int)])
 |none=>∃b h,c=F (R #[.map (I b),.nilIface])/\XM e b h (Du a (L a))
structure EoS (a:List BA) (c wr:Q) (b:Nat):Prop where
 low:Below c.heap.size c wr
 m:XM wr c.heap.size (Dl a b) (Du a b)
 f:BO (IB a) a 0=BO (IB a) (a.drop b) b
structure TL (b:List BA) (e wr:Q) (d:Nat) (a:List Bt) (c:Nat):Prop where
 low:Below e.heap.size e wr
 m:XM wr e.heap.size (Dl b d+c) (FG b d a c)
 f:BO (HI b d a) a 0=BO (HI b d a) (a.drop c) c
theorem Afx(Os:List BA)(ax:X)(b:Q)(ac:Nat->Addr)(a7:Iq b ax Os)(B:Lt Os)(al:DP b ac):
 Av Aa 45 #[ax] b λp o=>Agd ac Os b p o:=by
 obtain⟨aH,aN,rfl,aE,aj⟩:=a7;have a4:O9 (∀o,Below b.heap.size b o->Ip o aH Os):=λo hb=>aj.bE hb;have O:=O0 B;have bh:=B.n;have a6:=O0 al;have aK:=O0 (Tryz.d6);have bg:=@run_makeMap Aa;clear aj B aE al;go_enter Tryz.func45,Tryz.ntmps45;go_wp2;go_loopw [5,15] (λH G wr=>∃k:Nat,k<=L Os/\H=V C (Dl Os k:Int)/\G=V C (k:Int)/\O9 (EoS Os b wr k)) (λ_ G _=>L Os-(intOf G).toNat)
 case atStart=>exact⟨0,Ak _,rfl,rfl,bA,(XM.new b).congr λ_=>rfl,rfl⟩
 case round=>
  obtain⟨k,bf,rfl,rfl,e⟩:=hrel;rename Q=>wr
  by_cases t:k<L Os
  ·have aY:(0:Int)<=(k:Int):=O1;have aZ:(k:Int)<(L Os:Int):=O1;obtain⟨aM,bk,av,au,ah,ag,rfl,ad,ae,af,ak⟩:=(a4.o _ (Ae _ _)).cells t;replace ad:=Bn e.o.low ad
   replace ae:=Bn e.o.low ae
   replace af:=Bn e.o.low af
   obtain⟨aX,aV,p,bb,an⟩:=ak.Bs.2.open;cases p;have a3:=O0 an;have a8:=O.o.base k O1;have bc:=(O.o.g Os[k] (Ao _)).1;obtain⟨h,D⟩:∃h,Dl Os k=h:=⟨_,rfl⟩;have v:=O0 D;have U:=O0 (e.o.f.trans (LF (IB Os) Os t));have aa:=O0 (OI t);have a2:=O0 (Akf t);rw[D]at a8 ⊢;clear an ak D;have M:O9 (TL Os b (wr.alloc (.cells #[.string Os[k].name,.slice av Os[k].Bu.length au,.slice ah Os[k].Bs.length ag] 41)) k Os[k].Bs 0):=by
    have hb:Below wr.heap.size wr (wr.alloc (.cells #[.string Os[k].name,.slice av Os[k].Bu.length au,.slice ah Os[k].Bs.length ag] 41)):=bA;refine⟨e.o.low.trans (hb.mono e.o.low.size),(e.o.m.bE hb).congr λaJ=>?_,rfl⟩;unfold FG;cases Du Os k aJ<;>rfl
   generalize hgl2:Os[k].Bs=gl at*;generalize Os[k].name=onm at*;generalize Os[k].Bu=oim at*;have Y:=O0 hgl2;clear hgl2;go_wp2;go_loopw [5,23] (λH E l=>∃a:Nat,a<=L gl/\H=V C ((h+a:Nat):Int)/\E=V C (a:Int)/\O9 (TL Os b l k gl a)) (λ_ E _=>L gl-(intOf E).toNat)
   case atStart=>exact⟨0,Ak _,rfl,rfl,M.o⟩
   case round=>
    clear M;obtain⟨a,be,rfl,rfl,d⟩:=hrel;rename Q=>l
    by_cases q:a<L gl
    ·have bi:(0:Int)<=(a:Int):=O1;have bj:(a:Int)<(L gl:Int):=O1;obtain⟨gb,aW,aP,aO,cc,rfl,aQ,aR,aS,aT,-,ap⟩:=a3.o _ d.o.low a q;have s:=λaG=>(d.o.m.bE ((Ae _ _).alloc (Ac _) aG)).look gl[a].name ap;have i:=O0 (d.o.f.trans (LF (HI Os k gl) gl q));have u:=d.o.low.size;have y:=O0 (Aak (Os:=Os) (k:=k) q);have x:=O0 (Aie (Os:=Os) (k:=k) q);have aC:=Go.WideMaps.keyOf_string_mk (P:=Aa) Bg ap;obtain⟨ay,z,ai⟩:=id d.o.m;rw[v.o]at z x;have K:=O0 z;have a0:=O0 ai;have m:=O0 d.o.low;have ab:=O0 d.o.m;unfold HI at i;clear d z ai;have a1:O9 (BO (HI Os k gl) gl 0=I a->BO (IB Os) Os 0=I k):=λaB=>by
      rw[U.o];unfold IB;rw[Y.o,aB];rfl
     generalize hnm:gl[a].name=nm at*;generalize gl[a].arity=ar at*;generalize gl[a].exp=ex at*;cases hf:FG Os k gl a nm with
     |some r=>
      obtain⟨aI,aL⟩:=r;rw[hf]at s i y;simp only[Hx,C6,As0]at s;cases ex with
      |true=>
       have j:=O0 (a1.o (by rw[show BO (HI Os k gl) gl 0=_ from i.o];rfl));have am:=(a6.o.bE m.o).c 14 O1;simp only[CX,Hi,Ar4,Ar3]at am;have ba:=λaw aF=>alloc_old (l.alloc aw) aF _ _ _ (alloc_old l aw _ _ _ am);go_wp2_with (first
        |(go_at_call 27;refine(Sj _ _ _ _).mono ?_;rintro p bm ⟨rfl,rfl⟩))
       go_ret2
       refine⟨(m.o.alloc u _).alloc O5 _,?_⟩;rw[j.o];rfl
      |false=>
       have j:O9 (BO (HI Os k gl) gl 0=BO (HI Os k gl) (gl.drop (a+1)) (a+1)):=i.o;have w:O9 (XM l b.heap.size (Dl Os k+(a+1)) (FG Os k gl (a+1))):=(ab.o.congr (y.o (Ba rfl))).mono O1;go_wp2;go_roundw
       case rel=>exact⟨a+1,O1,by go_num,by go_num,(m.o.alloc u _).alloc O5 _,(w.o.bE bA).bE bA,j.o⟩
       case measure=>simp[intOf];omega
     |none=>
      rw[hf]at s i x;simp only[Hx,C6,As1]at s;have j:O9 (BO (HI Os k gl) gl 0=BO (HI Os k gl) (gl.drop (a+1)) (a+1)):=by
       show _=_;rw[show BO (HI Os k gl) gl 0=_ from i.o];simp only[As1,Bool.and_false];rfl
      cases ex with
      |true=>
       go_wp2_with (first
        |(at_mapUpdate;refine wpList_mapUpdate_own _ rfl (.tmp 44) (.tmp 46) (.tmp 50) 142 rfl 9 147 (Maps.string_keyed Bg) Tryz.eI Ma b.heap.size (h+a) ay rfl ((K.o.alloc _).alloc _) O8 (S nm) (T #[V C ((h+a:Nat):Int),V C ar]) (Hk nm) rfl rfl aC (KG (I (h+a,ar))) [] rfl ?_;intro bl aq ao;have a5:=O0 (Amf K.o a0.o nm (h+a) ar _ _ aq);have az:=O0 (((m.o.alloc u _).alloc O5 _).grown ao O5 (λaI aD=>by cases aD;exact Ac _));clear aq ao))
       go_roundw
       case rel=>exact⟨a+1,O1,by go_num,by go_num,az.o,by rw[v.o];exact a5.o.congr (x.o rfl rfl),j.o⟩
       case measure=>simp[intOf];omega
      |false=>
       have w:O9 (XM l b.heap.size (Dl Os k+(a+1)) (FG Os k gl (a+1))):=(ab.o.congr (y.o (Ba rfl))).mono O1;go_wp2;go_roundw
       case rel=>exact⟨a+1,O1,by go_num,by go_num,(m.o.alloc u _).alloc O5 _,(w.o.bE bA).bE bA,j.o⟩
       case measure=>simp[intOf];omega
    ·obtain rfl:a=L gl:=O1;have a9:¬(L gl:Int)<(L gl:Int):=O1;go_wp2;go_roundw
     case rel=>
      refine⟨k+1,O1,by rw[aa.o,v.o],by go_num,d.o.low,?_,?_⟩
      ·rw[aa.o];exact d.o.m.congr a2.o
      ·rw[U.o];unfold IB;rw[Y.o,d.o.f,Mw _ _ (Ac _)];rfl
     case measure=>simp[intOf];omega
  ·obtain rfl:k=L Os:=O1;have a9:¬(L Os:Int)<(L Os:Int):=O1;go_wp2;go_ret2
   refine⟨e.o.low,?_⟩;rw[e.o.f,Mw _ _ (Ac _)];exact⟨_,_,rfl,e.o.m⟩
end Go.Proofs.YtcacpmkdfnmhaaaGreatDoor
