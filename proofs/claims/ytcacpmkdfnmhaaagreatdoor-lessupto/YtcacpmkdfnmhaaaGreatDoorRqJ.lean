import Derived.Laws.CopyOwn
import Derived.Test.YtcacpmkdfnmhaaaGreatDoorRkJ
set_option linter.unusedSimpArgs false
set_option maxRecDepth 100000
set_option maxHeartbeats 2000000
open Go renaming Calls->Av,TypeId->AX,Value->X,World->Q,getD_set_ne->AY,undef->Aq1
open Go.Act renaming eval->A4
open Go.Ending renaming returned->F
open Go.IntKind renaming i64->C
open Go.Proofs.Tryz renaming prog->Aa
open Go.Value renaming agg->T,bool->A,int->V,pointer->J,slice->W,tuple->R
open Go.World renaming news_of_block->A1
open List renaming length->L,range->AU
open Option renaming none->N,some->I
open Or renaming inl->Ba
namespace Go.Proofs.YtcacpmkdfnmhaaaGreatDoor
open Go.RowKit Go.Sort
variable{w s j m:Nat}{n p H:World}{c:Bq}{nc:List (Cg×Value)}{w8:List (Gk×Value)}{b i r M wu ny:Value}{G:Option Addr}{xe:Gk}{wj:TypeId}{wi vf v2 sh:List Value}{y:List Nat}{nh:Ending}{wx:Program}{wg:Array Oper}{w4:Exit->Act->World->Prop}{w2:Region.Mode}{vr:World->Prop}{w6:Oper}{wn:Act}{vk:Act->World->Prop}{nu:Array Bool}{wf:List Int}{o wm:Int}
theorem BH.resume{a:Nat}(d:BH w n a j c nc (w8++[(xe,wu)]) b i r (W G (L w8+1) s) M):BH w ((((n.setCell ⟨a,3,N⟩ (V C xe.base)).setCell ⟨a,4,N⟩ wu).setCell ⟨a,5,N⟩ (V C xe.at_)).setCell ⟨a,6,N⟩ (W G (L w8) s)) a j {c with fr:=xe,BF:=c.BF.dropLast} nc w8 b i wu (W G (L w8) s) M/\AF (mB a b i (W G (L w8+1) s) M) n ((((n.setCell ⟨a,3,N⟩ (V C xe.base)).setCell ⟨a,4,N⟩ wu).setCell ⟨a,5,N⟩ (V C xe.at_)).setCell ⟨a,6,N⟩ (W G (L w8) s))/\∀f∈mB a b i (W G (L w8) s) M,f∈mB a b i (W G (L w8+1) s) M\/n.heap.size<=f:=by
 have e:=d.dp;rw[Ay]at e;have g:=RU (m:=L w8) e O1;rw[AE,List.take_left' (Mi (enc:=IA) (λ_=>rfl) w8)]at g;refine d.step (((((d.sp.cI (L1:=[_,_,_]) AF.refl g (Gf _) λo k=>have h:o∈vB (W G (L w8+1) s):=LJ▸k;⟨.inl h,(Fc e h).2⟩).dt ?_).dt ?_).dt ?_).dt ?_) d.fl (λp l=>d.dc p (by simp[l])) (d.dc (xe,wu) O2) d.EI (by rw[<-d.FA];simp)<;>omega
theorem Ami(d:n.ownsRow w wj m b s wi)(g:0<s):∃c a,b=W (I ⟨c,0,N⟩) s a/\s<=a:=by
 rcases d.2 with⟨-,e⟩|⟨c,a,_,rfl,-,-,f,-⟩
 ·omega
 grind
theorem An3{i G:Nat}{b:Bq}(x:Int)(g:Nat)(d:MM w n i G b y)(ar:b.BF≠[])(hb:b.fr.base=(g:Int))(ag:g<L b.stack)(aH:(L b.stack)<=5000000000)(aF:(L b.BF)<=1000000000000):
 Av Aa 150 #[J (I ⟨i,0,N⟩),V .i32 x] n λh az=>BL w i G y n (Gs x b) (R #[]) h az:=by
 obtain⟨ao,a,ac,ay,aw,a5,al,d,rfl⟩:=d;obtain⟨ax,sc,rfl⟩:=BW d.sk;obtain⟨a,⟨e,M⟩,rfl⟩:∃l e,a=l++[e]:=(Asl a).elim (λu=>absurd (by rw[<-d.FA,u];rfl) ar) λ⟨l,e,h⟩=>⟨l,e,by simpa using h⟩;have ah:(a++[(e,M)]).length=L a+1:=O2;have O:=d.dp;rw[ah]at O;obtain⟨t,H,rfl,aE⟩:=Ami O O1;have aG:(L a)+1<=1000000000000:=by
  have:=congrArg List.length d.FA;grind
 obtain⟨q,o,k,rfl⟩:∃q o k,M=W q o k:=by
  rcases d.dc (e,M) O2 with⟨h,-⟩|⟨a1,a0,-,h,-⟩<;>exact⟨_,_,_,h⟩
 have aD:=(QE d.sk).1;have ad:=d.m.at 2 rfl;have K:=d.m.at 3 rfl;rw[hb]at K;have ap:=λY=>alloc_old n Y _ _ _ ad;have aq:=λY=>alloc_old n Y _ _ _ K;have am:O9 (Gs x b={b with stack:=b.stack.take g++[x],fr:=e,BF:=b.BF.dropLast}):=by
  have au:b.BF.getLast?=I e:=by rw[<-d.FA];simp
  show _=_;simp[Gs,au,hb]
 have aa:=O0 (Ib (d.dN (Atq ag)));have ab:=O0 λ(an w2:Q) (v:X) (hb:Below n.heap.size n an) p=>d.dI (l:=[x]) (w2:=w2) (v:=v) (Atq ag) hb p;have aI:(0:Int)<=(g:Int):=O1;have aJ:(g:Int)<=(sc:Int):=O1;have aK:(0:Int)<=(L a:Int):=O1;have aL:(L a:Int)<((L a+1:Nat):Int):=O1;have aM:(L a:Int)<=(H:Int):=O1;clear d O;go_enter Tryz.func150,Tryz.ntmps150;go_upto_region 0 with fail
 go_cut [] (λB=>O9 (KW w i G (mB i ac (W ax (L b.stack) sc) (W (I ⟨t,0,N⟩) (L a+1) H) al) n {b with stack:=b.stack.take g++[x]} ao (a++[(e,W q o k)]) ac aw (W (I ⟨t,0,N⟩) (L a+1) H) al B))
 case first=>
  go_region_law
   (first
    |(refine GQ Ov (aa.o.alloc _) (AL n _) (m:=1) (c:=1) (s:=.tmp 15) (x:=.tmp 17) rfl rfl rfl rfl rfl (by intro aS ak;simp at ak;subst ak;rfl) O1 O1 ?_;intro aC c aT ai;obtain⟨U,aj⟩:=ab.o _ _ _ (by first|exact bA|exact bA.drew) ai;have aR:=U.at 2 rfl;have aB:=U.fz 2;have D:O9 (KW ..):=⟨_,aj⟩;clear ai U aj))
  all_goals(try go_wp2)
  all_goals
   go_meet
   first|exact D|exact D.o.drew|exact D.o.drew.drew
 case rest=>
  rename Q=>B
  obtain⟨ay,f,ae,af⟩:=hcut.o;have aN:=f.m.at 3 rfl;have aO:=f.m.at 4 rfl;have aP:=f.m.at 5 rfl;have aQ:=f.m.at 6 rfl;have a6:=f.m.fz 3;have a7:=f.m.fz 4;have a8:=f.m.fz 5;have a9:=f.m.fz 6;have z:∀j,j<3->B.cell? ⟨t,L a*3+j,N⟩=(IA (e,W q o k))[j]?:=λj av=>by
   have u:=f.dp;rw[ah]at u;rw[u.cellAt _ O1,MI (size:=3) IA (λ_=>rfl) _ (L a) O2 j av,List.getElem_concat_length rfl]
  have a2:B.cell? ⟨t,L a*3,N⟩=I (V C e.base):=z 0 O1;have a3:_=I (W q o k):=z 1 O1;have a4:_=I (Value.int C e.at_):=z 2 .refl;have E:=O0 (H3 (r:=R #[]) (Jz ae af f.resume));clear hcut f ae af z ab aa ad K ap aq;go_wp2;go_region
  all_goals(try go_wp2)
  all_goals
   refine bF ?_ O2 rfl rfl;rw[am.o];first|exact E.o.drew|exact E.o|exact E.o.drew.drew
def JK(b:Bq)(a:Int):Int:=((b.cells[a.toNat]?).getD ⟨0,0,0,0,[]⟩).kind
def EM(b:Bq)(a:Int):Int:=((b.cells[a.toNat]?).getD ⟨0,0,0,0,[]⟩).right
def Ks(a:Nat)(b:Bq):List Int:=(b.stack.drop (L b.stack-1-a)).take a
def Dy(c:Int->Int)(a:List Int)(b:Nat):List Int:=a.take (L a-b)++((a.drop (L a-1-b)).take b).map c
theorem QI(d:Int->Int)(a:List Int)(c b:Nat)(e:c<L a):(Dy d a c)[b]?=if b<L a-c then a[b]? else if b<L a then (a[b-1]?).map d else none:=by
 unfold Dy;grind
theorem P4(c:Int->Int)(a:List Int)(b:Nat)(d:b<L a):(Dy c a b).length=L a:=by
 unfold Dy;simp;omega
theorem Ao5(c:Int->Int)(a:List Int)(b:Nat)(e:b+1<L a):Dy c a (b+1)=(Dy c a b).set (L a-1-b) (c (a[L a-2-b]'(by omega))):=by
 apply At8;intro d;rw[QI c a (b+1) d e,List.getElem?_set,QI c a b d O1,P4 c a b O1];grind
theorem Anq(b:Int->Int)(a:List Int):Dy b a 0=a:=by simp[Dy]
def I4(c:Int->Bq->Bq)(b:Nat)(d:List Bx)(a:Bq):Bq:=
 if IL a<(b:Int) then c ((a.stack[a.fr.base.toNat]?).getD 0) a
 else if (Ks b a).all (λe=>decide (JK a e=2)) then {a with stack:=Dy (EM a) a.stack b,fr:=⟨a.fr.base,d,0⟩} else CJ 3 a
theorem Yk{st:Bq}{j:Nat}(a:w<L st.stack)(b:j<w):st.stack[L st.stack-2-j]?=(Ks w st)[w-1-j]?:=by
 unfold Ks;grind
def HF:Nat->Bq->Bq
 |0,st=>st
 |n+1,st=>Mq ⟨0,0,0,0,[]⟩ (HF n st)
theorem Ae4(a:Nat)(b:Bq):(HF a b).stack.length=L b.stack+a/\(HF a b).cells.length=L b.cells+a:=by
 induction a with
 |zero=>exact⟨rfl,rfl⟩
 |succ a ih=>simp[HF,Mq,ih.1,ih.2];omega
def KT(a:Nat)(b:Bq):Bq:=if Iw a b then HF a (Dw a b) else Dw a b
theorem Ape(b:Int)(a:Bq):(Dw b a).stack=a.stack/\(Dw b a).cells=a.cells:=by unfold Dw;split<;>exact⟨rfl,rfl⟩
theorem BL.mm(e:BL w s m y n c b nh p):∃a,MM w p s m c a/\AF y n p/\∀d∈a,d∈y\/n.heap.size<=d:=by
 obtain⟨-,f,a,g,h⟩:=e;grind
theorem Ag1(a:Nat)(ab:a<=1000000)(j:MM w n s m c y)(G:EV c)(aa:(L c.stack)<=1000000000)(U:(L c.cells)<=100000000):
 Av Aa 154 #[J (I ⟨s,0,N⟩),V C (a:Int)] n λe i=>BL w s m y n (KT a c) (R #[]) e i:=by
 have g:=O0 (YI (a:Int) O1 j G);cases hrb:Iw a c with
 |false=>
  rw[hrb]at g;have f:KT a c=Dw a c:=by unfold KT;rw[hrb];rfl
  rw[f];clear j hrb f;go_enter Tryz.func154,Tryz.ntmps154;go_wp2_with (first
   |(go_at_call 211;apply g.o.mono;intro e M d;obtain⟨rfl,-⟩:=id d;have h:=O0 (d.of AF.refl (λv hb=>Ba hb) (r':=R #[]) (e':=F (R #[])) rfl);clear d))
  exact bF h.o O2 rfl rfl
 |true=>
  rw[hrb]at g;have f:KT a c=HF a (Dw a c):=by unfold KT;rw[hrb];rfl
  rw[f];let ⟨q,r⟩:=Ape a c
  have t:O9 (∀b wr,b<a->BL w s m y n (HF b (Dw a c)) (R #[]) (F (R #[])) wr->Av Aa 212 #[J (I ⟨s,0,N⟩),T #[V .u8 0,V C 0,V .i32 0,V .i32 0,W N 0 0]] wr λe i=>e=F (R #[])/\O9 (BL w s m y n (HF (b+1) (Dw a c)) (R #[]) (F (R #[])) i)):=λb wr p d=>by
   let ⟨O,x,z,B⟩:=d.mm
   let ⟨H,K⟩:=Ae4 b (Dw a c)
   rw[q]at H;rw[r]at K;refine(YU ⟨0,0,0,0,[]⟩ (W N 0 0) ⟨N,0,rfl,λac D=>absurd D nofun⟩ ⟨_,_,_,rfl⟩ x O1 O1).mono λe i d=>?_;exact⟨d.1,d.of z B rfl⟩
  clear j hrb f q r;go_enter Tryz.func154,Tryz.ntmps154;go_wp2_with (first
   |(go_at_call 211;refine g.o.mono ?_;intro e M d;obtain⟨rfl,-⟩:=id d;have h:=O0 (d.of AF.refl (λv hb=>Ba hb) (r':=R #[]) (e':=F (R #[])) rfl);clear d))
  go_loopw [9] (λk wr=>∃b:Nat,b<=a/\k=V C (b:Int)/\O9 (BL w s m y n (HF b (Dw a c)) (R #[]) (F (R #[])) wr)) (λk _=>a-(intOf k).toNat)
  case atStart=>exact⟨0,Ak _,rfl,h.o⟩
  case round=>
   rename Q=>wr
   clear h;obtain⟨b,Y,rfl,l⟩:=hrel;by_cases p:b<a
   ·have E:(b:Int)<(a:Int):=O1;go_wp2_with (first
     |(go_at_call 212;apply (O0 (t.o b wr p l.o)).o.mono;rintro e ad ⟨rfl,u⟩))
    exact⟨⟨b+1,O1,rfl,u.o⟩,by simp[intOf];omega⟩
   ·obtain rfl:b=a:=O1;have E:¬((b:Int)<(b:Int)):=O1;go_wp2;exact bF l.o O2 rfl rfl
theorem Ab2(c:Bool)(b:Q):Av Aa 213 #[A c] b λg h=>g=F (T #[V .u8 3,V C (if c then 1 else 0),V .i32 0,V .i32 0,W N 0 0])/\Below b.heap.size b h:=by
 cases c
 ·go_enter Tryz.func213,Tryz.ntmps213;go_wp2;have a:=λe f d=>Cb b #[V .u8 3,V C 0,V .i32 0,V .i32 0,W N 0 0] 153 e f d;refine AV (by simp[results,Tryz.results213,go_sem,a 0 _ rfl,a 1 _ rfl,a 2 _ rfl,a 3 _ rfl,a 4 _ rfl]) rfl ⟨rfl,bA⟩
 ·go_enter Tryz.func213,Tryz.ntmps213;go_wp2;have a:=λe f d=>Cb b #[V .u8 3,V C 1,V .i32 0,V .i32 0,W N 0 0] 153 e f d;refine AV (by simp[results,Tryz.results213,go_sem,a 0 _ rfl,a 1 _ rfl,a 2 _ rfl,a 3 _ rfl,a 4 _ rfl]) rfl ⟨rfl,bA⟩
structure Bw (d c:Q) (b:Nat) (e:List X):Prop where
 a:AF [b] d c
 lt:b<d.heap.size
 m:BN c b e
theorem Bw.size{w X:Q}{M:Nat}{b:List Value}(c:Bw w X M b):w.heap.size<=X.heap.size:=c.a.size
theorem Bw.below(b:Bw n p w wi)(hb:Below p.heap.size p H):Bw n H w wi:=⟨b.a.then hb,b.lt,b.m.bX (hb.block w (Aj b.lt b.size)) hb.size⟩
theorem Bw.drew{c b:Q}{M:Nat}{a:List X}(d:Bw c b M a):Bw c b.drew M a:=d.below (Ae _ _).drew
theorem Bw.alloc{o:Obj}(a:Bw n p w wi):Bw n (p.alloc o) w wi:=a.below bA
theorem Bw.cF{v:X}(b:Bw n p w wi)(c:2<L wi):Bw n (p.setCell ⟨w,2,N⟩ v) w (wi.set 2 v):=⟨b.a.set (.inl (.head _)) _,b.lt,b.m.set c v⟩
theorem Bw.fresh{d:Nat}(c:Bw n p w wi)(hb:n.heap.size<=s):Bw n (p.setCell ⟨s,d,N⟩ b) w wi:=
 have e:=c.lt
 ⟨c.a.set (.inr hb) _,c.lt,c.m.bX (Az _ _ _ _ O6) O2⟩
theorem Bw.cell{f d:Q}{c b j:Nat}{g:List X}{e:X}(h:Bw f d c g)(hb:b≠c)(i:f.cell? ⟨b,j,N⟩=I e):d.cell? ⟨b,j,N⟩=I e:=h.a.cell i (by simpa using hb)
theorem Bw.start{a:Nat}(d:BH w n s a c nc w8 b i r M wu):Bw n n s (mL a b i r M wu c):=⟨AF.refl,d.m.lt,d.m⟩
theorem BH.less{e m:Nat}(d:BH w n s e c nc w8 b (W G (L c.stack) j) i r M)(o:m<=L c.stack)(g:Bw n p s (mL e b (W G m j) i r M {c with stack:=c.stack.take m})):
 BH w p s e {c with stack:=c.stack.take m} nc w8 b (W G m j) i r M/\AF (mB s b (W G (L c.stack) j) r M) n p/\mB s b (W G m j) r M=mB s b (W G (L c.stack) j) r M:=by
 have t:=d.dN o;have q:(c.stack.take m).length=m:=by grind
 have l:=d.step ((d.sp.cI (L1:=[_,_]) AF.refl O6 (Gf _) λk f=>have h:k∈vB (W G (L c.stack) j):=LJ▸f;⟨.inl h,(Fc d.sk h).2⟩).cI (L1:=[]) (A':=mA s (mL e b (W G m j) i r M {c with stack:=c.stack.take m})) g.a ⟨g.m,rfl⟩ O2 λk f=>⟨.inl f,Aq.1 f▸g.m.lt⟩) d.fl d.dc d.cd d.EI d.FA;exact⟨l.1,l.2.1,by unfold mB;rw[LJ]⟩
theorem Tn{f:Int}(b:n.cell? ⟨w,2,N⟩=I (W (I ⟨s,0,N⟩) (m+1) j))(e:n.frozen? ⟨w,2,N⟩=false)(c:n.cell? ⟨s,m,N⟩=I (V .i32 f))(i:m+1<=1000000000000)(p:m+1<=j):
 Av Aa 152 #[J (I ⟨w,0,N⟩)] n λa d=>a=F (V .i32 f)/\d=(n.setCell ⟨w,2,N⟩ (W (I ⟨s,0,N⟩) m j)).drew.drew:=by
 have h:=O0 (Kr 0 b O1 i);have g:O9 (Av Aa 153 #[J (I ⟨w,0,N⟩),V C 1] n.drew λa d=>a=F (R #[])/\d=(n.setCell ⟨w,2,N⟩ (W (I ⟨s,0,N⟩) m j)).drew.drew):=by
  have k:=b;have l:=e;have q:(0:Int)<=((m+1:Nat):Int)-1:=O1;have r:((m+1:Nat):Int)-1<=(j:Int):=O1;have t:(((m+1:Nat):Int)-1).toNat=m:=O1;have u:IntKind.i64.wrap (((m+1:Nat):Int)-1)=((m+1:Nat):Int)-1:=JO O1;go_enter Tryz.func153,Tryz.ntmps153;go_wp2;go_region
  all_goals(try go_wp2)
  all_goals
   refine bF ?_ O2 rfl rfl;simp
 have v:=c;have x:=c;clear b c e;go_enter Tryz.func152,Tryz.ntmps152;go_wp2_with (first
  |(go_at_call 146;apply h.o.mono;rintro a y ⟨rfl,rfl⟩)
  |(go_at_call 153;apply g.o.mono;rintro a z ⟨rfl,rfl⟩))
 go_ret;simp
theorem BH.eB(d:BH w n s m c nc w8 b i r M wu){a:Nat}(D:a<L c.cells){g p o:Nat}(j:b=W (I ⟨g,0,N⟩) p o){e:X}(h:n.cell? ⟨g,a*5+4,N⟩=I e):EC (λf=>w<=f/\f∉mB s b i M wu) n e c.cells[a].fields:=by
 have B:(L nc)=L c.cells:=by rw[<-d.EI,Ax]
 have u:c.cells[a]=nc[a].1:=by simp[<-d.EI]
 have z:=d.fl nc[a] (Ao _);have k:=d.cl;rcases d.cl.2 with⟨-,y⟩|⟨x,q,t,l,-⟩
 ·omega
 ·rw[j]at l;cases l;rw[j]at k;rw[k.cellAt _ O1,MI DK (λ_=>rfl) nc a O1 4 .refl]at h;have v:nc[a].2=e:=by simpa[DK]using h
  grind
theorem BN.dC(a:Q)(b c d e f:X)(h:AX):BN (a.alloc (.cells #[b,c,d,e,f] h)) a.heap.size [b,c,d,e,f]:=by
 refine⟨λg i=>?_,λg=>Rb _ _ _ _,O2⟩;simp_all
theorem BN.drew(a:BN n w wi):BN n.drew w wi:=a.bX rfl .refl
theorem UT(a:Q)(g:Nat)(j b c d e f:X)(i:AX):BN ((a.setCell ⟨g,2,N⟩ j).alloc (.cells #[b,c,d,e,f] i)).drew.drew.drew a.heap.size [b,c,d,e,f]:=by
 have h:=BN.dC (a.setCell ⟨g,2,N⟩ j) b c d e f i;rw[World.size_setCell]at h;exact h.drew.drew.drew
theorem VN(a:Q)(b:Nat)(o j k l m n d e f g h:X)(c:AX)(t:a.heap.size≠b):BN ((((((((a.alloc (.cells #[j,k,l,m,n] c)).setCell ⟨b,2,N⟩ o).setCell ⟨a.heap.size,0,N⟩ d).setCell ⟨a.heap.size,1,N⟩ e).setCell ⟨a.heap.size,2,N⟩ f).setCell ⟨a.heap.size,3,N⟩ g).setCell ⟨a.heap.size,4,N⟩ h)).drew.drew.drew a.heap.size [d,e,f,g,h]:=by
 have p:=(BN.dC a j k l m n c).bX (w':=(a.alloc (.cells #[j,k,l,m,n] c)).setCell ⟨b,2,N⟩ o) (Az _ _ _ _ t) O2;have q:=BN.set (BN.set p (i:=0) O2 d) (i:=1) O2 e;have r:=BN.set (BN.set q (i:=2) O2 f) (i:=3) O2 g;have s:=BN.set r .refl h;exact s.drew.drew.drew
theorem Df.of{lo:Nat}{e:AX}(a:p.ownsRow lo e j (W (I ⟨w,0,N⟩) s m) s wi)(d:n.grownBy p b.ownBlock)(c:b.ownBlock=I w\/w=n.heap.size)(g:w<p.heap.size):Df n e j b (W (I ⟨w,0,N⟩) s m) s wi p:=⟨Ib a,AF.refl.grown d λ_ e=>.inl (BM.2 e),λh f=>by
 obtain rfl:=Aq.1 f;exact⟨c.imp BM.2 λa=>Aso a.symm,g⟩⟩
def Kn(c:Int)(d:Int)(a:Bq):Bq:=
 let b:=(a.cells[d.toNat]?).getD ⟨0,0,0,0,[]⟩
 if b.kind≠3\/(L b.fields:Int)≠c then CJ 3 (BQ 1 a) else {BQ 1 a with stack:=(BQ 1 a).stack++b.fields}
theorem Acs{b q:Nat}(u:Int)(j:MM w n b q c y)(bG:(L c.stack)<=1000000000){s:List Int}{r:Nat}(aj:c.stack=s++[(r:Int)])(aE:r<L c.cells)(bm:c.cells[r].fields.length<=1000000):
 Av Aa 157 #[J (I ⟨b,0,N⟩),V C u] n λf ao=>BL w b q y n (Kn u (r:Int) c) (R #[]) f ao:=by
 obtain⟨aZ,ba,b6,bM,am,U,ab,j,ag⟩:=j;have ak:(L c.stack)=L s+1:=by rw[aj];simp
 obtain⟨d,sc,rfl,ah,aF⟩:=IM j.sk O1;obtain⟨cg,cc,fp,bc,t,a2,aL,aM,aN,aO,an,-⟩:=j.cellAt (r:=r) aE;have a4:=j.eB aE a2 an;subst a2;have G:cg≠b:=λf=>(Arf.1 j.nd).1 (Ad _ (by rw[DV];grind));have bg:d≠b:=λf=>(Arf.1 j.nd).1 (Ah _ (Ad _ (by rw[DV];grind)));have aG:n.cell? ⟨d,L s,N⟩=I (V .i32 (r:Int)):=by rw[aF _ O1,aj];simp[BX]
 rw[ak]at ah;obtain⟨g,D⟩:∃g,mL q (W (I ⟨cg,0,N⟩) (L c.cells) cc) (W (I ⟨d,0,N⟩) (L c.stack) sc) am U ab c=g:=⟨_,rfl⟩;have B:=D▸Bw.start j;have aJ:g[1]?=I (W (I ⟨cg,0,N⟩) (L c.cells) cc):=by rw[<-D];rfl
 have aK:g[2]?=I (W (I ⟨d,0,N⟩) (L s+1) sc):=by rw[<-D,<-ak];rfl
 have bI:(L g)=14:=by rw[<-D];rfl
 have ad:O9 (∀a ae,Bw n a b ae->ae[1]?=I (W (I ⟨cg,0,N⟩) (L c.cells) cc)->a.cell? ⟨b,1,N⟩=I (W (I ⟨cg,0,N⟩) (L c.cells) cc)/\a.cell? ⟨cg,r*5,N⟩=I (.int .u8 c.cells[r].kind)/\a.cell? ⟨cg,r*5+1,N⟩=I (.int C c.cells[r].n)/\a.cell? ⟨cg,r*5+2,N⟩=I (.int .i32 c.cells[r].left)/\a.cell? ⟨cg,r*5+3,N⟩=I (.int .i32 c.cells[r].right)/\a.cell? ⟨cg,r*5+4,N⟩=I (W fp bc t)):=λa ae e be=>⟨e.m.at 1 be,e.cell G aL,e.cell G aM,e.cell G aN,e.cell G aO,e.cell G an⟩;have aq:O9 (∀a,Bw n a b g->Av Aa 152 #[J (I ⟨b,0,N⟩)] a λf ao=>f=F (V .i32 (r:Int))/\ao=(a.setCell ⟨b,2,N⟩ (W (I ⟨d,0,N⟩) (L s) sc)).drew.drew):=λa e=>Tn (e.m.at 2 aK) (e.m.fz 2) (e.cell bg aG) O1 ah;have a8:2<L g:=O1;have bh:=Nat.ne_of_lt B.lt;have a0:n.heap.size≠b:=λf=>bh f.symm;have ar:=O0 (λa (e:Bw n a b g)=>ad.o a g e aJ);have au:=O0 (λa (e:Bw n a b (g.set 2 (W (I ⟨d,0,N⟩) (L s) sc)))=>ad.o a _ e (by simp[aJ]));have ai:(BQ 1 c).stack=s:=by simp[BQ,aj]
 have bH:(L s)<=sc:=O1;have E:O9 (∀a,Bw n a b (g.set 2 (W (I ⟨d,0,N⟩) (L s) sc))->BH w a b q (BQ 1 c) aZ ba (W (I ⟨cg,0,N⟩) (L c.cells) cc) (W (I ⟨d,0,N⟩) (L s) sc) am U ab/\AF y n a/\mB b (W (I ⟨cg,0,N⟩) (L c.cells) cc) (W (I ⟨d,0,N⟩) (L s) sc) U ab=y):=λa e=>by
  have bu:c.stack.take (L s)=c.stack.take (L c.stack-1):=by rw[ak];congr 1
  have Y:Bw n a b (mL q (W (I ⟨cg,0,N⟩) (L c.cells) cc) (W (I ⟨d,0,N⟩) (L s) sc) am U ab {c with stack:=c.stack.take (L s)}):=by
   rw[<-D]at e;exact e
  obtain⟨h,k,p⟩:=j.less (m:=L s) O1 Y;rw[<-ag]at k;rw[bu]at h;exact⟨h,k,by rw[p,ag]⟩
 have av:O9 (∀a,Bw n a b (g.set 2 (W (I ⟨d,0,N⟩) (L s) sc))->Av Aa 101 #[J (I ⟨b,0,N⟩),V C 3] a λf aP=>f=F (R #[])/\O9 (BL w b q y n (CJ 3 (BQ 1 c)) (R #[]) (F (R #[])) aP)):=λa e=>by
  obtain⟨h,k,p⟩:=E.o a e;have bf:MM w a b q (BQ 1 c) y:=⟨_,_,_,_,_,_,_,h,p.symm⟩;exact(IF 3 bf).mono λf aP aD=>⟨aD.1,aD.of k (λaw hb=>Ba hb) rfl⟩
 obtain⟨fl,bn⟩:∃fl,c.cells[r].fields=fl:=⟨_,rfl⟩;rw[bn]at bm a4;have aX:O9 (Kn u (r:Int) c=if c.cells[r].kind≠3\/(L fl:Int)≠u then CJ 3 (BQ 1 c) else {BQ 1 c with stack:=s++fl}):=by
  show _=_;unfold Kn;grind
 obtain⟨bD,bB,bl,a3⟩:=a4;cases bl;have aQ:O9 (∀a M v,Bw n a b (g.set 2 (W (I ⟨d,0,N⟩) (L s) sc))->Df a 85 1 (W (I ⟨d,0,N⟩) (L s) sc) v (L s+L fl) (BX s++BX fl) M->(M.cell? ⟨b,2,N⟩=I (W (I ⟨d,0,N⟩) (L s) sc)/\M.frozen? ⟨b,2,N⟩=false)/\O9 (BL w b q y n {BQ 1 c with stack:=s++fl} (R #[]) (F (R #[])) (M.setCell ⟨b,2,N⟩ v))):=λa M v e aI=>by
  obtain⟨h,k,p⟩:=E.o a e;rw[<-ai]at h p aI ⊢;have aa:=h.dI (l:=fl) (Ac _) (Ae _ _) (by rw[AQ];exact aI);rw[AQ]at aa;exact⟨⟨aa.1.at 2 rfl,aa.1.fz 2⟩,H3 (Jz k (λaw hb=>.inl (p▸hb)) aa.2)⟩
 have bJ:(0:Int)<=(r:Int):=O1;have bK:(r:Int)<(L c.cells:Int):=O1;clear ad;generalize hkd:c.cells[r].kind=rk at*;generalize c.cells[r].n=rn at*;generalize c.cells[r].left=rf at*;generalize c.cells[r].right=rg at*;have ap:=O0 a3;have aR:=O0 j.lz;obtain⟨bv,br,a6⟩:=AB.1 Tryz.eu;simp only[Aq2]at a6;obtain⟨bo,bp,bq⟩:=a6;clear aF aL aM aN aO an aG aK ah j ag D a3;go_enter Tryz.func157,Tryz.ntmps157;go_upto_region 0 with fail
 go_cut [4] (λb0 i=>∃b4:Nat,b0=J (I ⟨b4,0,N⟩)/\n.heap.size<=b4/\(i.cell? ⟨b4,0,N⟩=I (V .u8 rk)/\i.cell? ⟨b4,4,N⟩=I (W fp (L fl) t))/\O9 (Bw n i b (g.set 2 (W (I ⟨d,0,N⟩) (L s) sc))))
 case first=>
  go_region_held_law (λa=>a.cell? ⟨b,1,N⟩=I (W (I ⟨cg,0,N⟩) (L c.cells) cc)/\a.cell? ⟨cg,r*5,N⟩=I (V .u8 rk)/\a.cell? ⟨cg,r*5+1,N⟩=I (V C rn)/\a.cell? ⟨cg,r*5+2,N⟩=I (V .i32 rf)/\a.cell? ⟨cg,r*5+3,N⟩=I (V .i32 rg)/\a.cell? ⟨cg,r*5+4,N⟩=I (W fp (L fl) t))
   (first|(refine ar.o _ ?_;(repeat (first|(with_reducible exact B)|(with_reducible refine Bw.drew ?_)|(with_reducible refine Bw.alloc ?_)));done)|(refine au.o _ ?_;(repeat (first|(with_reducible exact B)|(with_reducible refine Bw.drew ?_)|(with_reducible refine Bw.alloc ?_)|(with_reducible refine Bw.cF ?_ a8)|(with_reducible refine Bw.fresh ?_ (Ac _))));done))
   (first
    |(go_at_call 152;with_reducible refine(aq.o _ ?_).mono ?_<;>first|((repeat (first|(with_reducible exact B)|(with_reducible refine Bw.drew ?_)|(with_reducible refine Bw.alloc ?_)));done)|(rintro f bO ⟨rfl,rfl⟩)))
  all_goals(try go_wp2)
  all_goals
   go_meet
   refine⟨n.heap.size,rfl,Ac _,?_,?_⟩
   ·first
    |with_reducible exact⟨(UT n b (W (I ⟨d,0,N⟩) (L s) sc) (V .u8 rk) (V C rn) (V .i32 rf) (V .i32 rg) (W fp (L fl) t) 153).at 0 rfl,(UT n b (W (I ⟨d,0,N⟩) (L s) sc) (V .u8 rk) (V C rn) (V .i32 rf) (V .i32 rg) (W fp (L fl) t) 153).at 4 rfl⟩
    |with_reducible exact⟨(VN n b (W (I ⟨d,0,N⟩) (L s) sc) (V .u8 0) (V C 0) (V .i32 0) (V .i32 0) (W N 0 0) (V .u8 rk) (V C rn) (V .i32 rf) (V .i32 rg) (W fp (L fl) t) 153 a0).at 0 rfl,(VN n b (W (I ⟨d,0,N⟩) (L s) sc) (V .u8 0) (V C 0) (V .i32 0) (V .i32 0) (W N 0 0) (V .u8 rk) (V C rn) (V .i32 rf) (V .i32 rg) (W fp (L fl) t) 153 a0).at 4 rfl⟩
   ·show Bw _ _ _ _;(repeat (first|(with_reducible exact B)|(with_reducible refine Bw.drew ?_)|(with_reducible refine Bw.alloc ?_)|(with_reducible refine Bw.cF ?_ a8)|(with_reducible refine Bw.fresh ?_ (Ac _))))
 case rest=>
  clear aq ar au B;rename Q=>i
  obtain⟨b4,rfl,bE,⟨b2,ax⟩,z⟩:=hcut;by_cases bj:rk≠3\/(L fl:Int)≠u
  ·have aW:=O0 (av.o i z.o);have O:O9 (Kn u (r:Int) c=CJ 3 (BQ 1 c)):=by
    grind
   by_cases az:rk=3;all_goals(try have aB:¬((L fl:Int)=u):=by omega)
   all_goals
    go_wp2_with (first
     |(go_at_call 101;refine aW.o.mono ?_;rintro f w5 ⟨rfl,x⟩))
    rw[O.o];exact bF x.o O2 rfl rfl
  ·have az:rk=3:=O1;have aB:(L fl:Int)=u:=O1;subst az;subst aB;have O:O9 (Kn ((L fl:Nat):Int) (r:Int) c={BQ 1 c with stack:=s++fl}):=by
    grind
   clear av aX bj;by_cases ay:fl=[]
   ·subst ay;obtain⟨h,k,p⟩:=E.o i z.o;have al:=h.m.at 2 rfl;have bw:i.drew.cell? ⟨b,2,N⟩=_:=al;have b7:i.drew.frozen? ⟨b,2,N⟩=_:=h.m.fz 2;have aY:i.drew.cell? ⟨b4,4,N⟩=_:=ax;have x:O9 (BL w b q y n {BQ 1 c with stack:=s++[]} (R #[]) (F (R #[])) (i.setCell ⟨b,2,N⟩ (W (I ⟨d,0,N⟩) (L s) sc))):=by
     have Y:=z.o.cF (v:=W (I ⟨d,0,N⟩) (L s) sc) O6;rw[List.set_set]at Y;obtain⟨bx,bz,bN⟩:=E.o _ Y;have f:({BQ 1 c with stack:=s++[]}:Bq)=BQ 1 c:=by rw[A2,<-ai]
     rw[f];exact⟨rfl,bz,_,⟨_,_,_,_,_,_,_,bx,rfl⟩,λaw hb=>Ba O6⟩
    clear h k p;cases fp;all_goals
     go_upto_region 3 with fail
     go_region
     all_goals(try go_wp2)
     all_goals
      refine bF ?_ O2 rfl rfl;rw[show Kn 0 (r:Int) c=_ from O.o];first|(with_reducible exact x.o)|(with_reducible exact x.o.drew)
   ·have bt:=Aq8.2 ay;obtain⟨af,fo,⟨-,bs⟩,rfl,-⟩:=ap.o 0 bt;have bi:af≠b:=λf=>bs (f▸Aqu ..);have aT:O9 (∀a,Bw n a b (g.set 2 (W (I ⟨d,0,N⟩) (L s) sc))->∀K ac,(BX fl)[K]?=I ac->a.cell? ((⟨af,fo,N⟩:Addr).add K)=I ac):=λa e K ac H=>by
     have a7:K<L fl:=by
      have:=(Are.1 H).1;simpa[BX]using this
     obtain⟨b9,bC,-,bb,bk⟩:=ap.o K a7;cases bb;rw[Pk];have:=e.cell bi bk;rw[this,<-H];simp[BX,a7]
    obtain⟨h,k,p⟩:=E.o i z.o;have aV:O9 (i.ownsRow w 85 1 (W (I ⟨d,0,N⟩) (L s) sc) (L s) (BX s)):=by
     have:=h.sk;rw[ai]at this;exact this
    have al:=h.m.at 2 rfl;have bw:i.drew.cell? ⟨b,2,N⟩=_:=al;have aY:i.drew.cell? ⟨b4,4,N⟩=_:=ax;have aH:=k.size;have aS:=O0 (Aw aR.o aH);clear h k p aH;go_upto_region 3 with fail
    go_region_law
     (first
      |(refine step_append_lies _ rfl (.tmp 29) (.tmp 31) 87 rfl w 85 bv _ 1 4 Tryz.underlying87 br bo bp bq rfl O1 (W (I ⟨d,0,N⟩) (L s) sc) (L s) (BX s) (by first|(simp[A4];done)|(simp[A4,Act.put];done)) (Tz aV.o (Ae _ _).drew) ⟨af,fo,N⟩ (L fl) t (BX fl) (by first|(simp[A4];done)|(simp[A4,Act.put];done)) (by simp[BX]) (aT.o _ z.o.drew) (by intro ac H;simp[BX]at H;obtain⟨bQ,-,rfl⟩:=H;rfl) O1 O8 O1 aS.o _ rfl ?_;intro b1 b5 bP aC a5 a1 a9;obtain⟨⟨bL,b8⟩,x⟩:=aQ.o _ _ _ z.o.drew (.of aC a5 a1 a9);clear aC a5 a1 a9))
    all_goals(try go_wp2)
    all_goals
     refine bF ?_ O2 rfl rfl;rw[O.o];first|(with_reducible exact x.o)|(with_reducible exact x.o.drew)
structure Wx where
 idx:Nat
 dst:Option Nat
 S8:List Nat
 G:X->Q->Prop
def Anb(c:List Nat)(b:Array Bool):Bool:=(AU b.size).all λa=>b.getD a false||c.contains a
def N9(a:Act):Option Nat->X
 |some d=>a.eval (.tmp d)
 |none=>Aq1
theorem Aig(al:IJ w2 wg=true)(g:List Wx)(t:List Nat)(ah:∀a∈g,∀f,a.dst=I f->f∈t)(am:∀a∈g,∀d∈g,a.idx≠d.idx->∀f,a.dst=I f->d.dst≠I f)(au:(g.map (·.idx)).Nodup)(ax:∀a∈g,∀j∈a.S8,Region.waitsFor w2 wg a.idx j=true)(m:Act)(aw:∀a∈g,∀f,a.dst=I f->f<m.tmps.size)(q:Array Bool->Act->Q->Prop)(ak:∀a3 b e,q a3 b e->vr e)(ad:∀a∈g,∃l,wg[a.idx]?=I l/\l.guard=N/\l.dst=a.dst/\∀c b e,c.size=wg.size->Dm t m b->c.getD a.idx true=false->(∀j∈a.S8,c.getD j false=true)->q c b e->(∀d∈g,c.getD d.idx false=true->d.G (N9 b d.dst) e)->
 l.wp wx b e (λB s=>∃p,B=b.put l.dst p/\q (c.setIfInBounds a.idx true) B s/\a.G (if a.dst=N then Aq1 else p) s/\∀d∈g,d.idx≠a.idx->∀af,d.G af e->d.G af s) w4) {Y:Q} (D:Nat) (k:Array Bool) (ac:k.size=wg.size) (ap:k.toList.count false<=D) (a2:Anb (g.map (·.idx)) k=true) (az:∀a∈g,k.getD a.idx false=false) (aj:q k m Y) (ao:∀c b e,(∀i,i<wg.size->c.getD i false=true)->Dm t m b->q c b e->(∀a∈g,a.G (N9 b a.dst) e)->w4 .normal b e):wpAnyH wx w2 wg w4 vr D k m Y:=by
 refine Aos al (λc b e=>c.size=wg.size/\(∀i,c.getD i true=false->i∈g.map (·.idx))/\Dm t m b/\q c b e/\∀a∈g,c.getD a.idx false=true->a.G (N9 b a.dst) e) ?_ ?_ D k m Y ac ap ?_
 ·rintro c b e i l ⟨U,H,r,M,v⟩ y ae O;obtain⟨a,h,rfl⟩:=AK.1 (H i ae);let ⟨a4,a0,aq,an,a1⟩:=ad a h
  obtain rfl:a4=l:=Ar0 (a0.symm.trans y);have av:a.idx<c.size:=by grind
  have ay:∀j∈a.S8,c.getD j false=true:=λj x=>by
   let ⟨a9,a6,u,a5,hb,a7⟩:=Region.waitsFor_spec (ax a h _ x)
   grind
  unfold wpOp;simp only[y];rw[if_pos (by simp[Region.wanted,aq])];refine .inl (Oper.wp_mono (λB s ag=>?_) (a1 c b e U r ae ay M v));obtain⟨p,rfl,K,w,ai⟩:=ag;have a8:(c.setIfInBounds a.idx true).getD a.idx false=true:=by rw[Aq3,Ar7 av];rfl
  rw[an]at K ⊢;refine⟨ak _ _ _ K,by simpa using U,λj x=>?_,?_,K,λd z ab=>?_⟩
  ·by_cases o:a.idx=j
   ·exact AK.2 ⟨a,h,o⟩
   ·rw[AY true o]at x;exact H j x
  ·cases hx:a.dst with
   |none=>exact r
   |some f=>exact r.put (ah a h f hx) p
  ·by_cases o:a.idx=d.idx
   ·obtain rfl:a=d:=VS au h z o;cases hx:a.dst with
    |none=>
     rw[hx,if_pos rfl]at w;exact w
    |some f=>
     rw[hx,if_neg O2]at w;show a.G ((b.put (I f) p).eval (.tmp f)) s;rw[HJ (by rw[r.size];exact aw a h f hx)];exact w
   ·rw[AY false o]at ab;have n:=ai d z (Asg o) _ (v d z ab);have u:N9 (b.put a.dst p) d.dst=N9 b d.dst:=by
     cases hx:a.dst with
     |none=>rfl
     |some f=>
      cases hy:d.dst with
      |none=>rfl
      |some d'=>exact E8 (λu=>am a h d z o f hx (by rw[hy,u])) p
    rw[u];exact n
 ·rintro c b e ⟨U,H,r,M,v⟩ O;refine ao c b e O r M λa h=>v a h (O _ ?_);obtain⟨l,y,-⟩:=ad a h;exact(A5.1 y).1
 ·refine⟨ac,λi aa=>?_,Dm.refl _ _,aj,λa h n=>?_⟩
  ·have ar:i<k.size:=by
    rcases Asb i k.size with E|E
    ·exact E
    ·simp[Aub E]at aa
   have n:=Ark.1 a2 i (As3.2 ar);rw[getD_both aa]at n;simpa using n
  ·rw[az a h]at n;cases n
theorem LO{w':Q}{v:X}(a:(execOp wn.eval w6).run wx n=.ok (.value v) w')(b:vk (wn.put w6.dst v) w'):w6.wp wx wn n vk w4:=by
 unfold Oper.wp;rw[a];exact b
theorem wp_skip{w':Q}(a:(execOp wn.eval w6).run wx n=.ok .skip w')(b:vk (wn.put w6.dst Aq1) w'):w6.wp wx wn n vk w4:=by
 unfold Oper.wp;rw[a];exact b
theorem Zv{f:FuncId}{args:Array X}(d:(execOp wn.eval w6).run wx n=.ok (.enter f args) n)(e:Av wx f args n λa c=>∃b,a=F b/\vk (wn.put w6.dst b) c):w6.wp wx wn n vk w4:=by
 unfold Oper.wp;rw[d];refine Calls.mono e λa c g=>?_;grind
theorem Aga(a:wpOp wx wg w4 w (w4 .normal) wn n):JL wx wg w4 w (0+1) .normal wn n:=by
 show wpOps wx wg w4 [w] wn n;exact wpOp_mono (λwn n a=>a) a
def GZ(d:Q)(b:X)(c:Q):Prop:=∃a e f g h i,b=J (I ⟨a,0,N⟩)/\d.heap.size<=a/\BN c a [e,f,g,h,i]
theorem GZ.bE{w:Q}(e:GZ n b w)(g:∀a,n.heap.size<=a->a<w.heap.size->p.heap[a]?=w.heap[a]?)(h:w.heap.size<=p.heap.size):GZ n b p:=by
 let ⟨a,i,j,k,l,m,f,c,d⟩:=e
 exact⟨a,i,j,k,l,m,f,c,d.bX (g a c d.lt) h⟩
structure EE (e:Q) (i:Nat) (f g h j:List X) (a:Array Bool) (c:Act) (d:Q):Prop where
 b:Bw e d i (if a.getD 13 false then h else if a.getD 5 false then g else f)
 o:a.getD 13 false=true->a.getD 5 false=true
 ne:a.getD 16 false=true->a.getD 17 false=true->c.eval (.tmp 4)≠c.eval (.tmp 5)
 p:a.getD 18 false=true->a.getD 16 false=true
 st:a.getD 18 false=true->∃b,e.heap.size<=b/\c.eval (.tmp 4)=J (I ⟨b,0,N⟩)/\BN d b j
def E2(b:Q)(h f d g e c:X):List Wx:=[⟨5,I 11,[],λa _=>a=h⟩,⟨6,I 12,[5],λa _=>a=f⟩,⟨7,I 13,[6],λa _=>a=d⟩,⟨13,I 19,[5],λa _=>a=g⟩,⟨14,I 20,[13],λa _=>a=e⟩,⟨15,I 21,[14],λa _=>a=c⟩,⟨16,I 4,[],GZ b⟩,⟨17,I 5,[],GZ b⟩,⟨18,N,[16,7,5,13],λ_ _=>True⟩]
variable{sx:Wx->Prop}
theorem KM(e:sx ⟨5,I 11,[],λa _=>a=b⟩)(f:sx ⟨6,I 12,[5],λa _=>a=i⟩)(g:sx ⟨7,I 13,[6],λa _=>a=r⟩)(h:sx ⟨13,I 19,[5],λa _=>a=M⟩)(j:sx ⟨14,I 20,[13],λa _=>a=wu⟩)(k:sx ⟨15,I 21,[14],λa _=>a=ny⟩)(l:sx ⟨16,I 4,[],GZ n⟩)(m:sx ⟨17,I 5,[],GZ n⟩)(o:sx ⟨18,N,[16,7,5,13],λ_ _=>True⟩):∀c∈E2 n b i r M wu ny,sx c:=by
 intro c d;simp[E2,AW,Asc,or_false]at d;grind
theorem Afh(j:Q)(i f d h e c:X):(∀g∈E2 j i f d h e c,∀a,g.dst=I a->a∈[11,12,13,19,20,21,4,5])/\(∀g∈E2 j i f d h e c,∀k∈E2 j i f d h e c,g.idx≠k.idx->∀a,g.dst=I a->k.dst≠I a)/\((E2 j i f d h e c).map (·.idx)).Nodup:=by
 refine⟨?_,?_,by simp[E2]⟩
 ·refine KM ?_ ?_ ?_ ?_ ?_ ?_ ?_ ?_ ?_<;>(intro a b;simp at b;try subst b;try simp)
 ·refine KM ?_ ?_ ?_ ?_ ?_ ?_ ?_ ?_ ?_<;>refine KM ?_ ?_ ?_ ?_ ?_ ?_ ?_ ?_ ?_<;>(intro l a b;simp at b l;try subst b;try simp)
theorem N8(d:∀f,GZ n f p->GZ n f H)(g:Nat):∀c∈E2 n b i r M wu ny,c.idx≠g->∀e,c.G e p->c.G e H:=
 KM (λ_ _ a=>a) (λ_ _ a=>a) (λ_ _ a=>a) (λ_ _ a=>a) (λ_ _ a=>a) (λ_ _ a=>a) (λ_ _ a=>d _ a) (λ_ _ a=>d _ a) (λ_ _ a=>a)
theorem EE.quiet{f:Q}(c:EE n w wi vf v2 sh nu wn f){i d:Nat}(a:i≠5/\i≠13/\i≠16/\i≠17/\i≠18)(e:d≠4/\d≠5)(g:X):EE n w wi vf v2 sh (nu.setIfInBounds i true) (wn.put (I d) g) f:=by
 refine⟨?_,?_,?_,?_,?_⟩
 ·rw[AY false a.2.1,AY false a.1];exact c.b
 ·rw[AY false a.2.1,AY false a.1];exact c.o
 ·rw[AY false a.2.2.1,AY false a.2.2.2.1,E8 e.1,E8 e.2];exact c.ne
 ·rw[AY false a.2.2.2.2,AY false a.2.2.1];exact c.p
 ·rw[AY false a.2.2.2.2,E8 e.1];exact c.st
theorem Alc(a:w<nu.size):(nu.setIfInBounds w true).getD w false=true:=by simp_all
theorem YA{w0:Q}(c:n=(p.setCell ⟨w,2,N⟩ b).drew.drew)(d:w<w0.heap.size):∀a,w0.heap.size<=a->n.heap[a]?=p.heap[a]?:=λa hb=>by
 rw[c];exact Az _ _ _ _ O6
theorem EE.f4{e:Q}(b:EE n w wi vf v2 sh nu wn e)(l:5<nu.size)(m:nu.getD 5 true=false){d:Nat}(g:d≠4/\d≠5)(t:X):Bw n e w wi/\∀c,Bw n c w vf->(∀a,n.heap.size<=a->c.heap[a]?=e.heap[a]?)->e.heap.size<=c.heap.size->EE n w wi vf v2 sh (nu.setIfInBounds 5 true) (wn.put (I d) t) c:=by
 have f:=getD_both m;have i:nu.getD 13 false=false:=by
  cases hx:nu.getD 13 false with
  |false=>rfl
  |true=>rw[b.o hx]at f;cases f
 have hb:=b.b;rw[i,f]at hb;refine⟨hb,λc u k q=>⟨?_,λ_=>Alc l,?_,?_,?_⟩⟩
 ·simp_all
 ·rw[AY false O4,AY false O4,E8 g.1,E8 g.2];exact b.ne
 ·rw[AY false O4,AY false O4];exact b.p
 ·rw[AY false O4,E8 g.1];intro j;let ⟨a,h,r,s⟩:=b.st j
  exact⟨a,h,r,s.bX (k a h) q⟩
theorem EE.fL{e:Q}(c:EE n w wi vf v2 sh nu wn e)(s:13<nu.size)(l:nu.getD 13 true=false)(j:nu.getD 5 false=true){d:Nat}(f:d≠4/\d≠5)(r:X):Bw n e w vf/\∀b,Bw n b w v2->(∀a,n.heap.size<=a->b.heap[a]?=e.heap[a]?)->e.heap.size<=b.heap.size->EE n w wi vf v2 sh (nu.setIfInBounds 13 true) (wn.put (I d) r) b:=by
 have h:=getD_both l;have hb:=c.b;rw[h,j]at hb;refine⟨hb,λb t k m=>⟨?_,λ_=>by simp_all,?_,?_,?_⟩⟩
 ·simp_all
 ·rw[AY false O4,AY false O4,E8 f.1,E8 f.2];exact c.ne
 ·rw[AY false O4,AY false O4];exact c.p
 ·rw[AY false O4,E8 f.1];intro i;let ⟨a,g,o,q⟩:=c.st i
  exact⟨a,g,o,q.bX (k a g) m⟩
theorem Ua(a:w≠s):Value.pointer (I ⟨w,0,N⟩)≠J (I ⟨s,0,N⟩):=by
 simp
theorem EE.f8{c:Q}(a:EE n w wi vf v2 sh nu wn c)(h:nu.getD 16 true=false)(k:5<wn.tmps.size)(g:nu.getD 17 false=true->GZ n (wn.eval (.tmp 5)) c)(i:Obj):EE n w wi vf v2 sh (nu.setIfInBounds 16 true) (wn.put (I 4) (J (I ⟨c.heap.size,0,N⟩))) (c.alloc i):=by
 have b:nu.getD 16 false=false:=getD_both h;refine⟨?_,?_,?_,?_,?_⟩
 ·rw[AY false (show 16≠13 by decide),AY false (show 16≠5 by decide)];exact a.b.alloc
 ·rw[AY false (show 16≠13 by decide),AY false (show 16≠5 by decide)];exact a.o
 ·rw[AY false (show 16≠17 by decide)];intro _ f;obtain⟨j,_,_,_,_,_,e,-,hb⟩:=g f;have l:=hb.lt;rw[HJ O1,E8 O4,e];exact Ua O1
 ·rw[AY false (show 16≠18 by decide)];intro d;rw[a.p d]at b;cases b
 ·rw[AY false (show 16≠18 by decide)];intro d;rw[a.p d]at b;cases b
theorem EE.dC{a:Q}(b:EE n w wi vf v2 sh nu wn a)(l:5<wn.tmps.size)(i:nu.getD 16 false=true->GZ n (wn.eval (.tmp 4)) a)(d:Obj):EE n w wi vf v2 sh (nu.setIfInBounds 17 true) (wn.put (I 5) (J (I ⟨a.heap.size,0,N⟩))) (a.alloc d):=by
 refine⟨?_,?_,?_,?_,?_⟩
 ·rw[AY false (show 17≠13 by decide),AY false (show 17≠5 by decide)];exact b.b.alloc
 ·rw[AY false (show 17≠13 by decide),AY false (show 17≠5 by decide)];exact b.o
 ·rw[AY false (show 17≠16 by decide)];intro g _;obtain⟨c,_,_,_,_,_,f,-,hb⟩:=i g;have m:=hb.lt;rw[HJ O1,E8 O4,f];exact Ua O1
 ·rw[AY false (show 17≠18 by decide),AY false (show 17≠16 by decide)];exact b.p
 ·rw[AY false (show 17≠18 by decide),E8 O4];intro h;obtain⟨c,j,k,e⟩:=b.st h;exact⟨c,j,k,e.bX (Ara a d e.lt) O2⟩
theorem GZ.new(a:Q)(b:a.heap.size<=n.heap.size)(c:AX):GZ a (J (I ⟨n.heap.size,0,N⟩)) (n.alloc (.cells #[V .u8 0,V C 0,V .i32 0,V .i32 0,W N 0 0] c)):=⟨_,_,_,_,_,_,rfl,b,BN.dC _ _ _ _ _ _ _⟩
def w5(b:Q)(a:Nat)(c d e f g:X):Q:=((((b.setCell ⟨a,0,N⟩ c).setCell ⟨a,1,N⟩ d).setCell ⟨a,2,N⟩ e).setCell ⟨a,3,N⟩ f).setCell ⟨a,4,N⟩ g
theorem BN.dV{k:X}(g:BN n w [b,k,r,M,wu])(a c d e f:X):BN (w5 n w a c d e f) w [a,c,d,e,f]:=by
 have h:=BN.set (BN.set g (i:=0) O2 a) (i:=1) O2 c;have j:=BN.set h (i:=2) O2 d;exact BN.set (BN.set j (i:=3) O2 e) .refl f
theorem BN.eY(b:BN n s wi)(a:s≠w)(c d e f g:X):BN (w5 n w c d e f g) s wi:=by
 refine b.bX ?_ (by simp[w5]);unfold w5;rw[Az _ _ _ _ a,Az _ _ _ _ a,Az _ _ _ _ a,Az _ _ _ _ a,Az _ _ _ _ a]
theorem Bw.dV(a:Bw n p w wi)(hb:n.heap.size<=s)(b c d e f:X):Bw n (w5 p s b c d e f) w wi:=((((a.fresh hb).fresh hb).fresh hb).fresh hb).fresh hb
theorem GZ.dV{i c:Q}{a:Nat}{h:X}{p q r s t:X}(j:GZ i h c)(hb:BN c a [p,q,r,s,t])(k l m n o:X):GZ i h (w5 c a k l m n o):=by
 let ⟨b,u,v,w,x,y,d,e,f⟩:=j
 by_cases g:b=a
 ·subst g;exact⟨b,_,_,_,_,_,d,e,f.dV _ _ _ _ _⟩
 ·exact⟨b,_,_,_,_,_,d,e,f.eY g _ _ _ _ _⟩
theorem EE.stored(c:EE n w wi vf v2 [b,i,r,M,wu] nu wn p)(m:nu.getD 16 false=true)(l:GZ n (wn.eval (.tmp 4)) p):∃a d e f g h,wn.eval (.tmp 4)=J (I ⟨a,0,N⟩)/\n.heap.size<=a/\BN p a [d,e,f,g,h]/\EE n w wi vf v2 [b,i,r,M,wu] (nu.setIfInBounds 18 true) wn (w5 p a b i r M wu):=by
 let ⟨a,d,e,f,g,h,j,hb,k⟩:=l
 refine⟨a,d,e,f,g,h,j,hb,k,?_,?_,?_,?_,?_⟩
 ·rw[AY false O4,AY false O4];exact c.b.dV hb _ _ _ _ _
 ·rw[AY false O4,AY false O4];exact c.o
 ·rw[AY false O4,AY false O4];exact c.ne
 ·simp_all
 ·exact λ_=>⟨a,hb,j,k.dV _ _ _ _ _⟩
def LV(d:Int)(c a:Cg)(b:Bq):Bq:=
 if c.kind≠1\/a.kind≠1 then CJ 3 (BQ 1 (BQ 1 b)) else if NC d a.n=false then CJ 6 (BQ 1 (BQ 1 b)) else G2 (GP d c.n a.n) (BQ 1 (BQ 1 b))
theorem TW(a:c.stack=wf++[o,wm]):BQ 1 (BQ 1 c)={c with stack:=c.stack.take (L wf)}:=by
 unfold BQ;grind
theorem Aiy{b al:Nat}{ar:List Nat}(Y:Int)(cE:9<=Y/\Y<=14)(B:MM w n b al c ar)(a9:EV c)(ci:(L c.stack)<=1000000000)(bv:(L c.cells)<=1000000000){s:List Int}{x y:Nat}(a1:c.stack=s++[(x:Int),(y:Int)])(cj:x<L c.cells)(ck:y<L c.cells):
 Av Aa 159 #[J (I ⟨b,0,N⟩),V C Y] n λz w'=>BL w b al ar n (LV Y c.cells[x] c.cells[y] c) (R #[]) z w':=by
 obtain⟨cz,c1,c0,cI,b7,bp,bK,B,aT⟩:=B;have b2:(L c.stack)=L s+2:=by rw[a1];simp
 obtain⟨t,sc,rfl,bu,aZ⟩:=IM B.sk O1;obtain⟨cg,cc,ak,aj,ai,cd,b8,l1,l2,l3,l4,-⟩:=B.cellAt (r:=x) cj;obtain⟨j,ad,aq,ap,ao,ce,bC,bD,bE,bG,bH,-⟩:=B.cellAt (r:=y) ck;obtain⟨rfl,rfl⟩:j=cg/\ad=cc:=by grind
 clear ce;subst cd;have U:j≠b:=λz=>(Arf.1 B.nd).1 (Ad _ (by rw[DV];grind));have aX:t≠b:=λz=>(Arf.1 B.nd).1 (Ah _ (Ad _ (by rw[DV];grind)));have b6:n.cell? ⟨t,L s+1,N⟩=I (V .i32 (y:Int)):=by rw[aZ _ O1,a1];simp[BX]
 have b5:n.cell? ⟨t,L s,N⟩=I (V .i32 (x:Int)):=by rw[aZ _ O1,a1];simp[BX]
 rw[b2]at bu;obtain⟨D,a0⟩:∃D,mL al (W (I ⟨j,0,N⟩) (L c.cells) ad) (W (I ⟨t,0,N⟩) (L c.stack) sc) b7 bp bK c=D:=⟨_,rfl⟩;have aK:=a0▸Bw.start B;have b9:D[1]?=I (W (I ⟨j,0,N⟩) (L c.cells) ad):=by rw[<-a0];rfl
 have bB:D[2]?=I (W (I ⟨t,0,N⟩) (L s+1+1) sc):=by rw[<-a0,show L s+1+1=L c.stack by omega];rfl
 have b0:(L D)=14:=by rw[<-a0];rfl
 have a4:O9 (∀a,Bw n a b ((D.set 2 (W (I ⟨t,0,N⟩) (L s+1) sc)).set 2 (W (I ⟨t,0,N⟩) (L s) sc))->MM w a b al (BQ 1 (BQ 1 c)) ar/\AF ar n a):=λa g=>by
  rw[List.set_set]at g;have bZ:Bw n a b (mL al (W (I ⟨j,0,N⟩) (L c.cells) ad) (W (I ⟨t,0,N⟩) (L s) sc) b7 bp bK {c with stack:=c.stack.take (L s)}):=by
   rw[<-a0]at g;exact g
  obtain⟨aF,a2,cn⟩:=B.less (m:=L s) O1 bZ;rw[<-aT]at a2;rw[TW a1];exact⟨⟨_,_,_,_,_,_,_,aF,by rw[cn,aT]⟩,a2⟩
 have aP:O9 (∀a ag,Bw n a b ((D.set 2 (W (I ⟨t,0,N⟩) (L s+1) sc)).set 2 (W (I ⟨t,0,N⟩) (L s) sc))->Av Aa 101 #[J (I ⟨b,0,N⟩),V C ag] a λz aG=>z=F (R #[])/\O9 (BL w b al ar n (CJ ag (BQ 1 (BQ 1 c))) (R #[]) (F (R #[])) aG)):=λa ag g=>by
  obtain⟨aF,a2⟩:=a4.o a g;exact(IF ag aF).mono λz aG aC=>⟨aC.1,aC.of a2 (λaa hb=>Ba hb) rfl⟩
 have aO:O9 (∀a ag aL,Bw n a b ((D.set 2 (W (I ⟨t,0,N⟩) (L s+1) sc)).set 2 (W (I ⟨t,0,N⟩) (L s) sc))->Av Aa 151 #[J (I ⟨b,0,N⟩),T #[V .u8 ag,V C aL,V .i32 0,V .i32 0,W N 0 0]] a λz aG=>z=F (R #[])/\O9 (BL w b al ar n (G2 ⟨ag,aL,0,0,[]⟩ (BQ 1 (BQ 1 c))) (R #[]) (F (R #[])) aG)):=λa ag aL g=>by
  obtain⟨aF,a2⟩:=a4.o a g;refine(M7 ⟨ag,aL,0,0,[]⟩ (W N 0 0) ⟨N,0,rfl,λi ch=>absurd ch O2⟩ ⟨_,_,_,rfl⟩ aF ⟨a9.su,a9.sm,a9.mu,a9.mm⟩ (by rw[TW a1];grind) bv).mono λz aG aC=>?_;have cf:=aC.1;exact⟨cf,aC.of a2 (λaa hb=>Ba hb) rfl⟩
 have aJ:O9 (∀bk O h a,EE n b D (D.set 2 (W (I ⟨t,0,N⟩) (L s+1) sc)) ((D.set 2 (W (I ⟨t,0,N⟩) (L s+1) sc)).set 2 (W (I ⟨t,0,N⟩) (L s) sc)) bk O h a->a.cell? ⟨b,1,N⟩=I (W (I ⟨j,0,N⟩) (L c.cells) ad)):=by
  intro bk O h a g;refine g.b.m.at 1 ?_;grind
 have bf:O9 (∀a,Bw n a b D->Av Aa 152 #[J (I ⟨b,0,N⟩)] a λz w'=>z=F (V .i32 (y:Int))/\w'=(a.setCell ⟨b,2,N⟩ (W (I ⟨t,0,N⟩) (L s+1) sc)).drew.drew):=λa g=>Tn (g.m.at 2 bB) (g.m.fz 2) (g.cell aX b6) O1 O1;have aN:O9 (∀a,Bw n a b (D.set 2 (W (I ⟨t,0,N⟩) (L s+1) sc))->Av Aa 152 #[J (I ⟨b,0,N⟩)] a λz w'=>z=F (V .i32 (x:Int))/\w'=(a.setCell ⟨b,2,N⟩ (W (I ⟨t,0,N⟩) (L s) sc)).drew.drew):=λa g=>Tn (g.m.at 2 (by simp[b0])) (g.m.fz 2) (g.cell aX b5) O1 O1;have aM:O9 (∀a bj,Bw n a b bj->(a.cell? ⟨j,x*5,N⟩=I (.int .u8 c.cells[x].kind)/\a.cell? ⟨j,x*5+1,N⟩=I (.int C c.cells[x].n)/\a.cell? ⟨j,x*5+2,N⟩=I (.int .i32 c.cells[x].left)/\a.cell? ⟨j,x*5+3,N⟩=I (.int .i32 c.cells[x].right)/\a.cell? ⟨j,x*5+4,N⟩=I (W ak aj ai))/\a.cell? ⟨j,y*5,N⟩=I (.int .u8 c.cells[y].kind)/\a.cell? ⟨j,y*5+1,N⟩=I (.int C c.cells[y].n)/\a.cell? ⟨j,y*5+2,N⟩=I (.int .i32 c.cells[y].left)/\a.cell? ⟨j,y*5+3,N⟩=I (.int .i32 c.cells[y].right)/\a.cell? ⟨j,y*5+4,N⟩=I (W aq ap ao)):=λa bj g=>⟨⟨g.cell U b8,g.cell U l1,g.cell U l2,g.cell U l3,g.cell U l4⟩,g.cell U bC,g.cell U bD,g.cell U bE,g.cell U bG,g.cell U bH⟩;have bx:2<L D:=O1;have cF:(x:Int)<(L c.cells:Int):=O1;have cG:(y:Int)<(L c.cells:Int):=O1;have bq:n.drew.cell? ⟨b,1,N⟩=I (W (I ⟨j,0,N⟩) (L c.cells) ad):=aK.m.at 1 b9;generalize c.cells[x]=cl at*;generalize c.cells[y]=cr at*;obtain⟨M,ah,am,an,lf⟩:=cl;obtain⟨rk,ac,ax,ay,cH⟩:=cr;simp only at*;obtain⟨au,aV⟩:∃au,D.set 2 (W (I ⟨t,0,N⟩) (L s+1) sc)=au:=⟨_,rfl⟩;obtain⟨a5,aW⟩:∃a5,au.set 2 (W (I ⟨t,0,N⟩) (L s) sc)=a5:=⟨_,rfl⟩;have bz:2<L au:=by grind
 rw[aV]at aP aO aJ aN a4;rw[aW]at aP aO aJ a4;have bh:O9 (∀a,Bw n a b D->Bw n (a.setCell ⟨b,2,N⟩ (W (I ⟨t,0,N⟩) (L s+1) sc)).drew.drew b au):=λa g=>by rw[<-aV];exact(g.cF bx).drew.drew
 have bi:O9 (∀a,Bw n a b au->Bw n (a.setCell ⟨b,2,N⟩ (W (I ⟨t,0,N⟩) (L s) sc)).drew.drew b a5):=λa g=>by rw[<-aW];exact(g.cF bz).drew.drew
 clear B aZ aT a0 b9 bB a1 b2 bu b6 b5 b8 l1 l2 l3 l4 bC bD bE bG bH a9 b0 bv ci aV aW a4 bx bz;have bt:=aK.lt;go_enter Tryz.func159,Tryz.ntmps159;go_upto_region 0 with fail
 go_cut [4,5] (λco cp a3=>∃b4 av:Nat,co=J (I ⟨b4,0,N⟩)/\cp=J (I ⟨av,0,N⟩)/\(a3.cell? ⟨b4,0,N⟩=I (V .u8 rk)/\a3.cell? ⟨b4,1,N⟩=I (V C ac)/\a3.cell? ⟨av,0,N⟩=I (V .u8 M)/\a3.cell? ⟨av,1,N⟩=I (V C ah))/\O9 (Bw n a3 b a5))
 case first=>
  refine Apf (S:=λw'=>w'.cell? ⟨b,1,N⟩=I (W (I ⟨j,0,N⟩) (L c.cells) ad)) 19 0 (by rfl) (by rfl) O3 O3 (by rfl) bq (λcD=>?_);iterate 10
   refine KN (v:=?_) [0,1,2,3,4,8,9,10,11,12] rfl rfl rfl O3 O3 O3 (λ_ _ _ B=>B) (Ba ⟨by rfl,?_⟩) O7 ?_;rotate_left
   ·intro n bY;(try dsimp only at bY);(go_simp<;>with_reducible rfl)
   simp only[Act.put,Ard,Arp,Arl]
  have aI:=Afh n (V .i32 (y:Int)) (J (I ⟨j,y*5,N⟩)) (T #[V .u8 rk,V C ac,V .i32 ax,V .i32 ay,W aq ap ao]) (V .i32 (x:Int)) (J (I ⟨j,x*5,N⟩)) (T #[V .u8 M,V C ah,V .i32 am,V .i32 an,W ak aj ai]);refine Aig O3 (E2 n (V .i32 (y:Int)) (J (I ⟨j,y*5,N⟩)) (T #[V .u8 rk,V C ac,V .i32 ax,V .i32 ay,W aq ap ao]) (V .i32 (x:Int)) (J (I ⟨j,x*5,N⟩)) (T #[V .u8 M,V C ah,V .i32 am,V .i32 an,W ak aj ai])) _ aI.1 aI.2.1 aI.2.2 (KM O2 (by intro aE K;obtain rfl:=Aq.1 K;kernel_rfl) (by intro aE K;obtain rfl:=Aq.1 K;kernel_rfl) (by intro aE K;obtain rfl:=Aq.1 K;kernel_rfl) (by intro aE K;obtain rfl:=Aq.1 K;kernel_rfl) (by intro aE K;obtain rfl:=Aq.1 K;kernel_rfl) O2 O2 (by intro aE K;simp only[AW,Asc,or_false]at K;rcases K with rfl|rfl|rfl|rfl<;>kernel_rfl)) _ (KM ?l1 ?l2 ?l3 ?l4 ?l5 ?l6 ?l7 ?l8 ?l9) (EE n b D au a5 [V .u8 rk,V C ac,V .i32 ax,V .i32 ay,W aq ap ao]) (λcm h a g=>aJ.o _ cm h a g) (KM ?s5 ?s6 ?s7 ?s13 ?s14 ?s15 ?s16 ?s17 ?s18) 9 _ O3 (Aso O3) O3 (KM O3 O3 O3 O3 O3 O3 O3 O3 O3) ⟨?w0,(λB=>by cases B),(λB=>by cases B),(λB=>by cases B),(λB=>by cases B)⟩ ?done;case l1=>intro d E;cases E;show 11<_;simp
  case l2=>intro d E;cases E;show 12<_;simp
  case l3=>intro d E;cases E;show 13<_;simp
  case l4=>intro d E;cases E;show 19<_;simp
  case l5=>intro d E;cases E;show 20<_;simp
  case l6=>intro d E;cases E;show 21<_;simp
  case l7=>intro d E;cases E;show 4<_;simp
  case l8=>intro d E;cases E;show 5<_;simp
  case l9=>intro d E;cases E
  case w0=>exact aK.drew
  case s5=>
   refine⟨_,rfl,rfl,rfl,λO h a ab p l q e k=>?_⟩;obtain⟨hb,aB⟩:=e.f4 (by rw[ab];decide) l (d:=11) O4 (V .i32 (y:Int));have c2:h.tmps[10]?.getD Aq1=J (I ⟨b,0,N⟩):=by rw[p.it 10 O4];rfl
   refine Zv (f:=152) (args:=#[J (I ⟨b,0,N⟩)]) ?_ ?_
   ·clear e k hb aB q l p;go_simp
   ·refine(bf.o a hb).mono ?_;rintro z aH ⟨rfl,aw⟩;have a8:=YA (w0:=n) aw bt;have aD:a.heap.size<=aH.heap.size:=by rw[aw];simp
    exact⟨_,rfl,_,rfl,aB aH (by rw[aw];exact bh.o a hb) a8 aD,rfl,N8 (λv af=>af.bE (λaa u _=>a8 aa u) aD) _⟩
  case s13=>
   refine⟨_,rfl,rfl,rfl,λO h a ab p l q e k=>?_⟩;obtain⟨hb,aB⟩:=e.fL (by rw[ab];decide) l (q 5 O2) (d:=19) O4 (V .i32 (x:Int));have c7:h.tmps[18]?.getD Aq1=J (I ⟨b,0,N⟩):=by rw[p.it 18 O4];rfl
   refine Zv (f:=152) (args:=#[J (I ⟨b,0,N⟩)]) ?_ ?_
   ·clear e k hb aB q l p;go_simp
   ·refine(aN.o a hb).mono ?_;rintro z aH ⟨rfl,aw⟩;have a8:=YA (w0:=n) aw bt;have aD:a.heap.size<=aH.heap.size:=by rw[aw];simp
    exact⟨_,rfl,_,rfl,aB aH (by rw[aw];exact bi.o a hb) a8 aD,rfl,N8 (λv af=>af.bE (λaa u _=>a8 aa u) aD) _⟩
  case s6=>
   refine⟨_,rfl,rfl,rfl,λO h a ab p l q e k=>?_⟩;have cC:h.tmps[9]?.getD Aq1=W (I ⟨j,0,N⟩) (L c.cells) ad:=by rw[p.it 9 O4];rfl
   have c3:h.tmps[11]?.getD Aq1=(V .i32 (y:Int)):=by
    have u:=k ⟨5,I 11,[],λv _=>v=(V .i32 (y:Int))⟩ (by simp[E2]) (q 5 O2);rw[<-Aq3];exact u
   refine LO (v:=(J (I ⟨j,y*5,N⟩))) (w':=a) ?_ ⟨_,rfl,e.quiet (i:=6) (d:=12) O4 O4 _,rfl,λba _ _ bb l=>l⟩;clear e k q l p;go_simp
  case s14=>
   refine⟨_,rfl,rfl,rfl,λO h a ab p l q e k=>?_⟩;have c6:h.tmps[17]?.getD Aq1=W (I ⟨j,0,N⟩) (L c.cells) ad:=by rw[p.it 17 O4];rfl
   have c8:h.tmps[19]?.getD Aq1=(V .i32 (x:Int)):=by
    have u:=k ⟨13,I 19,[5],λv _=>v=(V .i32 (x:Int))⟩ (by simp[E2]) (q 13 O2);rw[<-Aq3];exact u
   refine LO (v:=(J (I ⟨j,x*5,N⟩))) (w':=a) ?_ ⟨_,rfl,e.quiet (i:=14) (d:=20) O4 O4 _,rfl,λba _ _ bb l=>l⟩;clear e k q l p;go_simp
  case s7=>
   refine⟨_,rfl,rfl,rfl,λO h a ab p l q e k=>?_⟩;have c4:h.tmps[12]?.getD Aq1=(J (I ⟨j,y*5,N⟩)):=by
    have u:=k ⟨6,I 12,[5],λv _=>v=(J (I ⟨j,y*5,N⟩))⟩ (by simp[E2]) (q 6 O2);rw[<-Aq3];exact u
   obtain⟨-,bl,bm,bL,bM,bN⟩:=aM.o a _ e.b;refine LO (v:=(T #[V .u8 rk,V C ac,V .i32 ax,V .i32 ay,W aq ap ao])) (w':=a) ?_ ⟨_,rfl,e.quiet (i:=7) (d:=13) O4 O4 _,rfl,λba _ _ bb l=>l⟩;clear e k q l p;go_simp
  case s15=>
   refine⟨_,rfl,rfl,rfl,λO h a ab p l q e k=>?_⟩;have c9:h.tmps[20]?.getD Aq1=(J (I ⟨j,x*5,N⟩)):=by
    have u:=k ⟨14,I 20,[13],λv _=>v=(J (I ⟨j,x*5,N⟩))⟩ (by simp[E2]) (q 14 O2);rw[<-Aq3];exact u
   obtain⟨⟨bl,bm,bL,bM,bN⟩,-⟩:=aM.o a _ e.b;refine LO (v:=(T #[V .u8 M,V C ah,V .i32 am,V .i32 an,W ak aj ai])) (w':=a) ?_ ⟨_,rfl,e.quiet (i:=15) (d:=21) O4 O4 _,rfl,λba _ _ bb l=>l⟩;clear e k q l p;go_simp
  case s16=>
   refine⟨_,rfl,rfl,rfl,λO h a ab p l q e k=>?_⟩;refine LO (v:=J (I ⟨a.heap.size,0,N⟩)) (w':=a.alloc (.cells #[V .u8 0,V C 0,V .i32 0,V .i32 0,W N 0 0] 153)) ?_ ⟨_,rfl,e.f8 l (by rw[p.size];simp) (λu=>k ⟨17,I 5,[],GZ n⟩ (by simp[E2]) u) _,GZ.new n e.b.size _,N8 (λv af=>af.bE (λaa _ aR=>Ara a _ aR) O2) _⟩;clear e k q l p;go_simp
  case s17=>
   refine⟨_,rfl,rfl,rfl,λO h a ab p l q e k=>?_⟩;refine LO (v:=J (I ⟨a.heap.size,0,N⟩)) (w':=a.alloc (.cells #[V .u8 0,V C 0,V .i32 0,V .i32 0,W N 0 0] 153)) ?_ ⟨_,rfl,e.dC (by rw[p.size];simp) (λu=>k ⟨16,I 4,[],GZ n⟩ (by simp[E2]) u) _,GZ.new n e.b.size _,N8 (λv af=>af.bE (λaa _ aR=>Ara a _ aR) O2) _⟩;clear e k q l p;go_simp
  case s18=>
   refine⟨_,rfl,rfl,rfl,λO h a ab p l q e k=>?_⟩;obtain⟨aa,cs,ct,cv,cw,cx,a6,hb,G,bs⟩:=e.stored (q 16 O2) (k ⟨16,I 4,[],GZ n⟩ (by simp[E2]) (q 16 O2));have cB:h.tmps[4]?.getD Aq1=J (I ⟨aa,0,N⟩):=by rw[<-Aq3];exact a6
   have c5:h.tmps[13]?.getD Aq1=(T #[V .u8 rk,V C ac,V .i32 ax,V .i32 ay,W aq ap ao]):=by
    have u:=k ⟨7,I 13,[6],λv _=>v=(T #[V .u8 rk,V C ac,V .i32 ax,V .i32 ay,W aq ap ao])⟩ (by simp[E2]) (q 7 O2);rw[<-Aq3];exact u
   have bn:=G.at 0 rfl;have bo:=G.at 1 rfl;have bO:=G.at 2 rfl;have bP:=G.at 3 rfl;have bQ:=G.at 4 rfl;have bR:=G.fz 0;have bS:=G.fz 1;have bT:=G.fz 2;have bU:=G.fz 3;have bV:=G.fz 4;refine wp_skip (w':=w5 a aa (V .u8 rk) (V C ac) (V .i32 ax) (V .i32 ay) (W aq ap ao)) ?_ ⟨_,rfl,bs,trivial,N8 (λv af=>af.dV G _ _ _ _ _) _⟩;clear e k q l p bs G;unfold w5;go_simp
  case done=>
   intro O h a a7 p e k;have bJ:=a7 18 O4;have bI:=a7 13 O4;obtain⟨b4,aY,a6,bw⟩:=e.st bJ;have b1:=e.ne (a7 16 O4) (a7 17 O4);obtain⟨av,cs,ct,cv,cw,cx,aQ,ca,H⟩:GZ n (h.eval (.tmp 5)) a:=k ⟨17,I 5,[],GZ n⟩ (by simp[E2]);have br:h.eval (.tmp 21)=(T #[V .u8 M,V C ah,V .i32 am,V .i32 an,W ak aj ai]):=k ⟨15,I 21,[14],λv _=>v=(T #[V .u8 M,V C ah,V .i32 am,V .i32 an,W ak aj ai])⟩ (by simp[E2]);have aS:=e.b;rw[bI,if_pos rfl]at aS;have bW:b4≠av:=λz=>b1 (by rw[a6,aQ,z]);have ae:=QN p;simp only[List.foldl_cons,List.foldl_nil]at ae;rw[a6,aQ,br]at ae;generalize h.eval (.tmp 11)=y11 at ae;generalize h.eval (.tmp 12)=y12 at ae;generalize h.eval (.tmp 13)=y13 at ae;generalize h.eval (.tmp 19)=y19 at ae;generalize h.eval (.tmp 20)=y20 at ae;simp only[Act.put,Ard,Arp,Arl]at ae;clear p k a7 e b1 a6 aQ br bJ bI;subst ae;have bn:=H.at 0 rfl;have bo:=H.at 1 rfl;have bO:=H.at 2 rfl;have bP:=H.at 3 rfl;have bQ:=H.at 4 rfl;have bR:=H.fz 0;have bS:=H.fz 1;have bT:=H.fz 2;have bU:=H.fz 3;have bV:=H.fz 4;have bc:=O0 (bw.eY bW (V .u8 M) (V C ah) (V .i32 am) (V .i32 an) (W ak aj ai));have be:=O0 (H.dV (V .u8 M) (V C ah) (V .i32 am) (V .i32 an) (W ak aj ai));have az:=O0 (aS.dV ca (V .u8 M) (V C ah) (V .i32 am) (V .i32 an) (W ak aj ai));clear bw H aS aI;refine Aga ?_;refine wpOp_step (o:=⟨N,.store _ (.tmp 5) (.tmp 21),0,_,_,N⟩) rfl (λcy bX=>?_);go_simp;refine bX _ _ ?_;(try go_wp2)
   go_meet
   exact⟨b4,av,rfl,rfl,⟨bc.o.at 0 rfl,bc.o.at 1 rfl,be.o.at 0 rfl,be.o.at 1 rfl⟩,az.o⟩
 case rest=>
  clear bf aN aJ aK aM bh bi bq U aX;rename Q=>a3
  obtain⟨b4,av,rfl,rfl,⟨bl,bm,bn,bo⟩,az⟩:=hcut;rcases(show M=1/\rk≠1\/M≠1\/M=1/\rk=1/\(Y=12/\ac=0\/Y=12/\ac≠0\/Y=9\/Y=10\/Y=11\/Y=13\/Y=14) by omega) with⟨rfl,u⟩|u|⟨rfl,rfl,⟨rfl,rfl⟩|⟨rfl,u⟩|rfl|rfl|rfl|rfl|rfl⟩;all_goals
   go_wp2_with (first
    |(go_at_call 101;refine(aP.o _ _ az.o).mono ?_;rintro z w5 ⟨rfl,bg⟩)
    |(go_at_call 213;refine(Ab2 _ _).mono ?_;rintro z cJ ⟨rfl,aY⟩;replace az:=O0 (az.o.below aY);clear aY)
    |(go_at_call 151;refine(aO.o _ _ _ az.o).mono ?_;rintro z w5 ⟨rfl,bg⟩))
   all_goals
    refine bF ?_ O2 rfl rfl;refine(congrArg (λcq=>BL w b al ar n cq (R #[]) (F (R #[])) _) ?_).mpr bg.o;first|(simp[LV,NC,GP,Lm,PI,u];done)|(simp[LV,NC,GP,Lm,PI];done)|(simp[LV,NC,GP,Lm,PI, *];done)
def IU(c:Int)(b:Nat)(a:Bq):Bq:=G2 ⟨3,c,0,0,a.stack.drop (L a.stack-b)⟩ (BQ b a)
theorem U3(a:Nat)(i:a<=1000000)(b:Q):(Instr.makeSlice 87 (V C (a:Int)) (V C (a:Int))).run Aa b=.ok (W (I ⟨b.heap.size,0,N⟩) a a) (b.alloc (.cells (madeCells #[V .i32 0] a) 85)):=by
 let ⟨h,d,c⟩:=AB.1 Tryz.eu
 simp[Aq2]at c;let ⟨e,f,g⟩:=c
 rw[run_make b 87 85 h _ Tryz.underlying87 d e C C a a O1 O1 (by rw[g];omega) O1,f];simp[Value.cells]
theorem Vz(a:Nat):(madeCells #[Value.int .i32 0] a).toList=List.replicate a (V .i32 0):=by
 simp[madeCells,Nat.mod_one,List.map_const']
theorem Af1{u:Nat}(g:Int)(a:Nat)(aC:a<=1000)(e:MM w n s u c y)(f:EV c)(a9:(L c.stack)<=1000000000)(an:(L c.cells)<=1000000000)(av:0<L c.stack)(aw:a<=L c.stack):
 Av Aa 155 #[J (I ⟨s,0,N⟩),V C g,V C (a:Int)] n λd t=>BL w s u y n (IU g a c) (R #[]) d t:=by
 have au:=U3 a O1 n;have H:=e;obtain⟨a3,a5,a4,aK,aJ,a6,aL,e,G⟩:=e;obtain⟨p,sc,rfl,a7,M⟩:=IM e.sk av;obtain⟨b,v⟩:∃b,n.alloc (.cells (madeCells #[V .i32 0] a) 85)=b:=⟨_,rfl⟩;have q:Below n.heap.size n b:=by rw[<-v];exact bA
 have K:b.heap[n.heap.size]?=I (.cells (List.replicate a (Value.int .i32 0)).toArray 85 (0,0)):=by
  rw[<-v,AL,<-Vz]
 have ae:O9 (b.drew.heap[n.heap.size]?=I (.cells (List.replicate a (Value.int .i32 0)).toArray 85 (0,0))):=K;have aB:n.heap.size<b.heap.size:=by grind
 have ad:=O0 (rfl:c.stack.drop (L c.stack-a)=c.stack.drop (L c.stack-a));obtain⟨fl,z⟩:∃fl,c.stack.drop (L c.stack-a)=fl:=⟨_,rfl⟩;have j:(L fl)=a:=by grind
 have ai:O9 (∀r B,(BX fl)[r]?=I B->b.drew.cell? ((⟨p,L c.stack-a,N⟩:Addr).add r)=I B):=λr B U=>by
  have a8:r<a:=by
   have:=(Are.1 U).1;simpa[BX,j]using this
  rw[Pk];show b.cell? _=_;refine Bn q ?_;rw[M _ O1,<-U,<-z];simp[BX]
 have af:O9 (∀h,h.heap[n.heap.size]?=I (.cells (splice (List.replicate a (Value.int .i32 0)) 0 (BX fl)).toArray 85 (0,0))->Below n.heap.size n h->n.heap.size<h.heap.size->Av Aa 153 #[J (I ⟨s,0,N⟩),V C (a:Int)] h λd w5=>d=F (R #[])/\O9 (Av Aa 151 #[J (I ⟨s,0,N⟩),T #[V .u8 3,V C g,V .i32 0,V .i32 0,W (I ⟨n.heap.size,0,N⟩) a a]] w5 λd t=>d=F (R #[])/\O9 (BL w s u y n (IU g a c) (R #[]) (F (R #[])) t))):=λh k i a2=>by
  have az:splice (List.replicate a (Value.int .i32 0)) 0 (BX fl)=BX fl:=by
   have:(BX fl).length=a:=by simp[BX,j]
   simp[splice,this]
  rw[az]at k;refine(N4 a (H.bE i) aw O1).mono λd w5 l=>?_;have x:=l.1;obtain⟨-,E,aa,am,al⟩:=l;have ap:n.heap.size∉y:=λf=>by
   have:=(e.rg _ (G▸f)).2;omega
  have ao:w5.heap[n.heap.size]?=I (.cells (BX fl).toArray 85 (0,0)):=by rw[E.block _ a2 ap,k]
  have a1:=e.lz;have aq:n.heap.size∉aa:=λf=>by
   grind
  refine⟨x,?_⟩;refine(M7 ⟨3,g,0,0,fl⟩ (W (I ⟨n.heap.size,0,N⟩) a a) ⟨I ⟨n.heap.size,0,N⟩,a,by rw[j],λY ar=>⟨n.heap.size,0,⟨a1,aq⟩,rfl,?_⟩⟩ ⟨_,_,_,rfl⟩ am ⟨f.su,f.sm,f.mu,f.mm⟩ ?_ an).mono λd t l=>?_
  ·have:=A1 ao (0+Y) (.int .i32 fl[Y]) (by simp[BX,ar]);rw[Pk]at this;simpa using this
  ·simp[BQ];omega
  ·have x:=l.1;refine⟨x,?_⟩;have ay:IU g a c=G2 ⟨3,g,0,0,fl⟩ (BQ a c):=by unfold IU;rw[z]
   rw[ay];have ak:=(AF.bG i (X:=y)).trans E λD hb=>Ba hb;exact l.of ak (λD hb=>(al D hb).imp id λaj=>Aw i.size aj) rfl
 have aI:b.drew.cell? ⟨s,2,N⟩=I (W (I ⟨p,0,N⟩) (L c.stack) sc):=(e.bE q).m.at 2 rfl;have a0:(Aa.info? 85).map (·.size)=I 1:=rfl;have ab:=O0 q;have aD:(0:Int)<=(L c.stack:Int)-(a:Int):=O1;have aE:(L c.stack:Int)-(a:Int)<=(L c.stack:Int):=O1;have aF:((L c.stack:Int)-(a:Int)).toNat=L c.stack-a:=O1;have aG:IntKind.i64.wrap ((L c.stack:Int)-(a:Int))=(L c.stack:Int)-(a:Int):=JO O1;have aH:(L c.stack)-(L c.stack-a)=a:=O1;clear e H M G f q K z ad;go_enter Tryz.func155,Tryz.ntmps155;go_upto_region 1 with fail
 clear au v;go_region_law
  (first
   |(refine step_copy_splice rfl (.tmp 9) (.tmp 21) 87 87 rfl 85 Tryz.underlying87 a0 (I ⟨n.heap.size,0,N⟩) (if sc=L c.stack-a then I ⟨p,0,N⟩ else I ⟨p,L c.stack-a,N⟩) a a a (sc-(L c.stack-a)) (by first|(simp[A4];done)|(simp[A4,Act.put];done)) (by first|(simp[A4];done)|(simp[A4,Act.put];done)) n.heap.size 0 (List.replicate a (V .i32 0)) 85 ae.o (BX fl) (by simp[BX,j]) (λax=>⟨rfl,⟨p,L c.stack-a,N⟩,by rw[if_neg];simp[BX,j]at ax;omega,ai.o⟩) (by simp[BX,j]) (by intro aM O;simp[BX]at O;obtain⟨aO,-,rfl⟩:=O;rfl) n.heap.size n ab.o.drew (Ac _) ?_;intro h k i;have ac:=O0 (af.o h k.out i (by have:=k.out;exact(A5.1 this).1));clear k i))
 all_goals
  go_wp2_with (first
   |(go_at_call 153;refine ac.o.mono ?_;rintro d w5 ⟨rfl,ag⟩)
   |(go_at_call 151;refine ag.o.mono ?_;rintro d aN ⟨rfl,ah⟩))
 all_goals
  exact bF ah.o O2 rfl rfl
theorem Ac1(g:MM w n s m c y)(h:EV c)(e:DC c=false):
 Av Aa 99 #[J (I ⟨s,0,N⟩)] n λa i=>BL w s m y n (CJ 1 c) (R #[]) a i:=by
 have b:=O0 (MH g h);have a:BR c=CJ 1 c:=by unfold BR;rw[e];rfl
 rw[e,a]at b;go_enter Tryz.func99,Tryz.ntmps99;go_wp2_with (first
  |(apply b.o.mono;intro a k d;obtain⟨rfl,-⟩:=id d;have f:=O0 d))
 exact bF (f.o.of AF.refl (λj hb=>Ba hb) rfl) O2 rfl rfl
theorem Ahd{r:Nat}(f:Int)(e:MM w n s r c y)(h:EV c)(ag:(L c.cells)<=1000000000)(D:c.stack=[]):
 Av Aa 155 #[J (I ⟨s,0,N⟩),V C f,V C 0] n λa k=>BL w s r y n (IU f 0 c) (R #[]) a k:=by
 have x:=U3 0 O1 n;rw[show((0:Nat):Int)=0 from rfl]at x;have U:=e;obtain⟨ao,ar,aq,a3,a2,au,a4,e,ae⟩:=e;obtain⟨E,sc,rfl⟩:=BW e.sk;have z:E=N->sc=0:=λa=>by
  subst a;rcases e.sk.2 with⟨O,aw⟩|⟨av,an,ap,ak,-⟩
  ·grind
  ·cases ak
 obtain⟨d,j⟩:∃d,n.alloc (.cells (madeCells #[V .i32 0] 0) 85)=d:=⟨_,rfl⟩;have t:Below n.heap.size n d:=by rw[<-j];exact bA
 have Y:d.heap[n.heap.size]?=I (.cells ([]:List Value).toArray 85 (0,0)):=by
  have ai:madeCells #[Value.int .i32 0] 0=#[]:=Array.toList_inj.1 (by rw[Vz];rfl);rw[<-j,AL,ai]
 have H:O9 (d.drew.heap[n.heap.size]?=I (.cells ([]:List Value).toArray 85 (0,0))):=Y;have ax:n.heap.size<d.heap.size:=by grind
 have K:O9 (∀g,Below n.heap.size n g->Av Aa 153 #[J (I ⟨s,0,N⟩),V C 0] g λa w5=>a=F (R #[])/\O9 (Av Aa 151 #[J (I ⟨s,0,N⟩),T #[V .u8 3,V C f,V .i32 0,V .i32 0,W (I ⟨n.heap.size,0,N⟩) 0 0]] w5 λa k=>a=F (R #[])/\O9 (BL w s r y n (IU f 0 c) (R #[]) (F (R #[])) k))):=λg b=>by
  refine(N4 0 (U.bE b) O1 (by rw[D];simp)).mono λa w5 i=>?_;have u:=i.1;obtain⟨-,ac,am,af,ad⟩:=i;refine⟨u,?_⟩;refine(M7 ⟨3,f,0,0,[]⟩ (W (I ⟨n.heap.size,0,N⟩) 0 0) ⟨I ⟨n.heap.size,0,N⟩,0,rfl,λay ah=>absurd ah nofun⟩ ⟨_,_,_,rfl⟩ af ⟨h.su,h.sm,h.mu,h.mm⟩ ?_ ag).mono λa k i=>?_
  ·simp[BQ,D]
  ·have u:=i.1;refine⟨u,?_⟩;have aj:IU f 0 c=G2 ⟨3,f,0,0,[]⟩ (BQ 0 c):=by unfold IU;simp
   rw[aj];have ab:=(AF.bG b (X:=y)).trans ac λM hb=>Ba hb;exact i.of ab (λM hb=>(ad M hb).imp id λO=>Aw b.size O) rfl
 have a1:d.drew.cell? ⟨s,2,N⟩=I (W E 0 sc):=by
  have:=(e.bE t).m.at 2 rfl;simp_all
 have aa:(Aa.info? 85).map (·.size)=I 1:=rfl;have G:=O0 t;have a0:IntKind.i64.wrap 0=0:=JO O1;clear e U ae h t Y D;cases E with
 |none=>
  obtain rfl:=z rfl;clear z;go_enter Tryz.func155,Tryz.ntmps155;go_upto_region 1 with fail
  clear x j;go_region_law
   (first
    |(refine step_copy_splice rfl (.tmp 9) (.tmp 21) 87 87 rfl 85 Tryz.underlying87 aa (I ⟨n.heap.size,0,N⟩) N 0 0 0 0 (by first|(simp[A4];done)|(simp[A4,Act.put];done)) (by first|(simp[A4];done)|(simp[A4,Act.put];done)) n.heap.size 0 [] 85 H.o [] O2 (λB=>absurd B O2) O2 O2 n.heap.size n G.o.drew (Ac _) ?_;intro g v b;have l:=O0 (K.o g b);clear v b))
  all_goals
   go_wp2_with (first
    |(go_at_call 153;refine l.o.mono ?_;rintro a w5 ⟨rfl,p⟩)
    |(go_at_call 151;refine p.o.mono ?_;rintro a al ⟨rfl,q⟩))
  all_goals
   exact bF q.o O2 rfl rfl
 |some sa=>
  clear z;have az:(0:Int)<=(sc:Int):=O1;go_enter Tryz.func155,Tryz.ntmps155;go_upto_region 1 with fail
  clear x j;go_region_law
   (first
    |(refine step_copy_splice rfl (.tmp 9) (.tmp 21) 87 87 rfl 85 Tryz.underlying87 aa (I ⟨n.heap.size,0,N⟩) (I sa) 0 0 0 sc (by first|(simp[A4];done)|(simp[A4,Act.put];done)) (by first|(simp[A4];done)|(simp[A4,Act.put];done)) n.heap.size 0 [] 85 H.o [] O2 (λB=>absurd B O2) O2 O2 n.heap.size n G.o.drew (Ac _) ?_;intro g v b;have l:=O0 (K.o g b);clear v b))
  all_goals
   go_wp2_with (first
    |(go_at_call 153;refine l.o.mono ?_;rintro a w5 ⟨rfl,p⟩)
    |(go_at_call 151;refine p.o.mono ?_;rintro a al ⟨rfl,q⟩))
  all_goals
   exact bF q.o O2 rfl rfl
end Go.Proofs.YtcacpmkdfnmhaaaGreatDoor
