import Derived.Test.YtpkbnogifdlcmaaGreatDoorWbJ
import Derived.Test.YtpkbnogifdlcmaaGreatDoorKSJ
import Derived.Laws.Concat
import Derived.ScopeJumps
import Derived.WalkMore
import Derived.Laws.CopyOwn
set_option linter.unusedSimpArgs false
set_option maxRecDepth 100000
set_option maxHeartbeats 8000000
open And renaming intro->Aw6
open Go renaming Calls->Az,TypeId->A0,Value->X,World->Q,getD_set_ne->A3,undef->Aw7
open Go.Ending renaming returned->F
open Go.IntKind renaming i64->C
open Go.Obj renaming cells->AW
open Go.Proofs.Tryz renaming prog->Aa,underlying9->Awz
open Go.RowKit renaming wrap64->Bf
open Go.Value renaming agg->T,bool->A,iface->Z,int->V,ownBlock->Awu,pointer->J,slice->W,string->S,tuple->R
open Go.World renaming news_of_block->A5
open List renaming length->L,range->AV
open Option renaming none->N,some->I
open Or renaming inl->Be,inr->Axf
namespace Go.Proofs.YtpkbnogifdlcmaaGreatDoor
open Go.RowKit Go.Sort Go.Lib Go.Proofs.Tryz
variable{wy:Oy->Bool}{r w8:KS}{wo x8:Ex}{m w0:Oy}{t n8 st:List Nat}{wi xg:List Int}{w s b j wf:Nat}{D nf sx:Int}{O:List (Oy×Int)}{na:List Co}{w4 ss:Bool}{wl yw:List BJ}{wv xo:BJ}{xx:List B3}{xj:B3}{wq f:List Oy}{nt:BI}{wm:List BI}{sb:Oy×List IT×List DD}{we:List IT}{v0:List DD}{n9:KU}{wa n3:Type}{wc:List DT}{n q Y:World}{p y e G wz vh zi zj zk zl:Value}{nc:List GG}{wj vy sv xe:List Value}{vl:Hb}{i:List Bx}{wg ng:List As}{U vr:Option Addr}{wk:Array Oper}{yo:List Oper}{nl:Oper}{ws:Act}{nh:Exit->Act->World->Prop}{o:List UInt8}{ve:Bx}{M:Nat->Addr}{w1:BD}{H:List BD}{x2:Option Nat}{v8 ya:Nat->Prop}{wp:TypeId}{nk:Prop}{vi:Nat->Int×Option Addr×Nat×Nat}{zm:Array Value}{w6:Program}{y9:Code}{wu:List (List Value)}{n2:Ending}{w9:Region.Mode}{sf:World->Prop}{v6:Act->World->Prop}{vf:Array Bool}
theorem Pe.cJ{b:Nat}{ns:Bs}(a:Pe wy m (b+1) wo r)(e:(x8,ns)∈Ch wo)(d:EY w8=EY r++ns.map (·.1))(s:2*L ns+wt b x8<=wt (b+1) wo)(hb:0<=w8.Bn/\2*w8.Bn+(wt b x8:Int)<=2000)(p:Cx w8+900*wt b x8<=1900000)(o:Lo w8):Pe wy m b x8 w8:=by
 let ⟨j,k⟩:=(PZ a.g).2 _ e
 have q:=RP _ a.l j;refine⟨by have:=a.h;omega,?_,by rw[d];exact k,O6,by rw[d,Aw,An];have:=a.w;omega,hb,p,o,a.n⟩;rcases Sh e with c|⟨i,hb,c⟩
 ·exact a.f.2.1 _ c
 ·simp at c;exact c▸a.f.2.2 i hb
def cg:Ex->Nat
 |.op _ _ _=>900
 |.case _ _=>900
 |_=>1550
theorem T6(a:Ex):900<=cg a:=by cases a<;>simp[cg]
theorem K8(a:Ex):1500<=cc a:=by cases a<;>simp[cc]
def LV(c:Oy->Bool)(k0:List Oy×Int)(g:Oy)(d:Nat):Prop:=∀(b:Ex) (a:KS) (f:List Int) (e:List Nat),Wk c k0 a f e true->Pe c g d b a->Ev c k0 e a f (kG g d b a) (900*wt d b-cg b) (a.Bn+1)
theorem Ev.fold{i:Oy->Bool}{k0:List Oy×Int}{m:List Nat}{b:Nat}{n:Oy}(o:LV i k0 n b):∀(l:List Ex) {a:KS} {g:List Int},Wk i k0 a g m true->(∀d∈l,2<=wt b d/\∀e,e.Br=a.Br->(0<=e.Bn/\2*e.Bn+(wt b d:Int)<=2000)->Cx e+900*wt b d<=1900000->Lo e->Pe i n b d e)->Lo a->(0<=a.Bn/\2*a.Bn+((l.map (wt b)).sum:Int)<=2000)->Cx a+900*(l.map (wt b)).sum<=1900000->
 Ev i k0 m a g (l.foldl (λa q=>kG n b q a) a) (900*(l.map (wt b)).sum-900*L l) (a.Bn+(L l:Int))
 |[],a,g,h,_,_,_,_=>(Ev.refl h).le .refl O2
 |d::l,a,g,h,hk,ho,hb,hq=>by
  simp[Int.natCast_add]at hb hq ⊢;have u:=GO (l:=l) λk j=>(hk k (by simp[j])).1;have v:=(hk d O2).1;have f:=(o d a g m h ((hk d O2).2 a rfl ⟨hb.1,O1⟩ O1 ho)).le (c:=900*wt b d-900) (by have:=T6 d;omega) rfl;have w:=f.p;refine(Ev.trans (c2:=900*(l.map (wt b)).sum-900*L l) (D2:=a.Bn+1+(L l:Int)) f λt r=>?_).le O1 O1;exact(Ev.fold o l r (λk j=>⟨(hk k (by simp[j])).1,λe s=>(hk k (by simp[j])).2 e (s.trans f.l)⟩) (Lm ho f.l (by rw[f.d];omega)) (by rw[f.d];omega) O1).le .refl (f.d▸rfl)
theorem XA(e:Int):∀d b,∀f∈Iv e b d,∃c,b<=c/\c<b+L d/\f.2=Bf (e+(c:Int))
 |[],_,_,a=>by cases a
 |t::d,b,f,a=>by
  rcases AX.1 a with rfl|a
  ·grind
  ·let ⟨c,g,h,i⟩:=XA e d (b+1) f a
   grind
theorem Aax(b:Int):∀a c,(Iv b c a).map (·.1)=a
 |[],_=>rfl
 |t::a,c=>by simp[Iv,Aax b a]
theorem WQ{k0:List Oy×Int}{ns:Bs}{b:Int}(d:Wk wy k0 r wi t true)(g:Lo r)(hb:0<=b/\r.Bn=b+(L ns:Int)/\r.Bn<=1000):Wk wy k0 (DM b ns r) wi t true/\Lo (DM b ns r)/\EY (DM b ns r)=EY r++ns.map (·.1)/\Cx (DM b ns r)=Cx r+L ns:=by
 refine⟨d.Br,λc a=>?_,by simp[EY,DM,Aax],by unfold Cx DM;simp only;omega⟩;rcases Ag.1 a with a|a
 ·exact g c a
 ·let ⟨i,h,e,f⟩:=XA b _ 0 c a
  rw[An]at e;rw[f];show 0<=_/\_<r.Bn;simp[Bf];omega
theorem Ev.eU{k0:List Oy×Int}(c:LV wy k0 m w)(b:Wk wy k0 r wi t true)(a:Pe wy m w wo r)(hb:(wt w wo:Int)+2+2*r.Bn<=2000):Ev wy k0 t r wi (KB (Dm m w) (kG m w) wo r) (900*wt w wo+1700) (r.Bn+1):=by
 have d:=Ed w wo a.f;have e:=Mf w wo;unfold KB;split
 ·exact(Ev.wait b a O1).le (by simp[cc];omega) rfl
 ·exact(Ev.wait b a O1).le (by simp[cc];omega) rfl
 ·exact(c wo r wi t b a).le O1 rfl
theorem Ev.cP{i:Oy->Bool}{k0:List Oy×Int}{j:List Nat}{d:KS}{k:List Int}{a:Nat}{e:Oy}(n:LV i k0 e a){es:List Ex}{b:Int}(x:0<=b/\d.Bn=b+(L es:Int))(m:Wk i k0 d k j true)(o:∀h∈es,∀g,g.Br=d.Br->(0<=g.Bn/\2*g.Bn+(wt a h:Int)<=2000)->Cx g+900*wt a h<=1900000->Lo g->Pe i e a h g)(q:Lo d)(hb:∀h∈es,(wt a h:Int)+2+2*d.Bn<=2000)(y:Cx d+900*(es.map (wt a)).sum+1790*L es<=1900000):∀c,c<=L es->
 Ev i k0 j d k (EX (nth (KB (Dm e a) (kG e a)) es) b c d) (900*((es.take c).map (wt a)).sum+1790*c) d.Bn
 |0,_=>(Ev.refl m).le O2 rfl
 |c+1,hj=>by
  have f:=Ev.cP n x m o q hb y c O1;have r:es[c]∈es:=Ao _;have u:((es.take (c+1)).map (wt a)).sum=((es.take c).map (wt a)).sum+wt a es[c]:=by rw[Av O1,AC,Ayv];rfl
  have z:((es.take (c+1)).map (wt a)).sum<=(es.map (wt a)).sum:=by
   have:=Axq (c+1) es;grind
  have G:=f.p;have E:=hb _ r;refine(Ev.trans (c2:=900*wt a es[c]+1700+90) (D2:=d.Bn) f λB v=>?_).le (by rw[u];omega) rfl;rw[EX,show nth (KB (Dm e a) (kG e a)) es c=KB (Dm e a) (kG e a) es[c] by simp[nth,show c<L es from hj]];have s:=Ev.eU n v (o _ r _ f.l (by rw[f.d];omega) O1 (Lm q f.l (by rw[f.d];omega))) (by rw[f.d];omega);refine Ev.trans s λD w=>?_;have t:(KB (Dm e a) (kG e a) es[c] (EX (nth (KB (Dm e a) (kG e a)) es) b c d)).Bn=d.Bn+1:=by rw[s.d,f.d]
  unfold ER;rw[t,show Bf (Bf (d.Bn+1-2)-Bf (b+(c:Int)))=d.Bn-1-(b+(c:Int)) by simp[Bf];omega];exact(Ev.put w (op:=5) ⟨⟨O1,O1,O1,O1⟩,O1,O1,O1⟩ O1).le (by simp[iy]) rfl
structure Ant (e:Oy->Bool) (k0:List Oy×Int) (f:List Nat) (b:KS) (h:List Int) (a:KS) (c:Bs) (g:Nat):Prop where
 w:∃g',Wk e k0 a (h++g') f true
 d:a.Bn=b.Bn+(L c:Int)
 p:Cx a<=Cx b+g
 n:EY a=EY b++c.map (·.1)
 o:Lo a
theorem UN{k0:List Oy×Int}{d:Nat}(G:LV wy k0 m d){D:Bool}{ns:Bs}{es:List Ex}{b:Ex}(E:Wk wy k0 r wi t true)(e:Pe wy m (d+1) (.lets D ns es b) r):Ant wy k0 t r wi (FJ (Dm m d) (kG m d) D ns es r) ns (900*(nW ns+(es.map (wt d)).sum)+90):=by
 have af:=GK ns;have u:=e.f.1.1;have ae:=e.f.1.2;have aa:wt (d+1) (.lets D ns es b)=4+nW ns+(es.map (wt d)).sum+wt d b:=rfl;have hb:=e.b;have U:=e.p;rw[aa]at hb U;have Y:∀h∈es,wt d h<=(es.map (wt d)).sum:=λh g=>Hu (f:=wt d) g;have ad:=Ed d b (e.f.2.1 b (by simp[BK]));unfold FJ;split
 ·rename_i y
  subst y;have c:=Ev.put E (op:=7) (a:=(L ns:Int)) ⟨⟨O1,O1,O1,O1⟩,O1,rfl⟩ O1;have H:Cx (BL 7 (L ns:Int) r)=Cx r+90:=by rw[M5];rfl
  let ⟨n,q⟩:=c.w
  obtain⟨B,j,k,K⟩:=WQ (ns:=ns) (b:=r.Bn) q (Lm e.o rfl (by rw[c.d];omega)) ⟨hb.1,c.d,by rw[c.d];omega⟩;have i:=Ev.cP G (b:=r.Bn) (es:=es) ⟨hb.1,by rw[u];exact c.d⟩ B (λh g ac z s x v=>e.cJ (ns:=ns) (by simp[Ch,g]) (by rw[LF z,k];rfl) O6 s x v) j (λh g=>by have:=Y h g;show _+2+2*(BL 7 (L ns:Int) r).Bn<=_;rw[c.d];omega) O1 (L es) (Ac _);have ab:=i.p;rw[AP,K,H]at ab;let ⟨M,O⟩:=i.w
  exact⟨⟨n++M,by simpa using O⟩,i.d.trans c.d,O1,by rw[LF i.l,k];rfl,Lm j i.l (by rw[i.d];omega)⟩
 ·rename_i y
  have c:=Ev.fold G es E (λh g=>⟨(λh g=>Ed d h (e.f.2.1 h (by simp[BK,g]))) h g,λac z s x v=>e.cJ (ns:=[]) (by simp[Ch,g,y]) (by rw[LF z];simp) O6 s x v⟩) e.o ⟨hb.1,O1⟩ O1;let ⟨n,q⟩:=c.w
  have H:=c.p;let ⟨B,j,k,K⟩:=WQ (ns:=ns) (b:=r.Bn) q (Lm e.o c.l (by rw[c.d];omega)) ⟨hb.1,by rw[c.d,u],by rw[c.d];omega⟩
  exact⟨⟨n,B⟩,by rw[<-u];exact c.d,O1,by rw[k,LF c.l],j⟩
theorem Sy{k0:List Oy×Int}{s:KS}{n:Nat}{D:Int}{R:List (Oy×Int)}(c:Wk wy k0 r wi t true)(j:r.Br=s.Br++R)(h:(L R)=n)(i:r.Bn=D+(n:Int))(g:1<=D/\r.Bn<=1000):(∃f,Wk wy k0 (CU n r) (wi++f) t true)/\(CU n r).Bn=D/\Cx (CU n r)<=Cx r+90/\(CU n r).Br=s.Br:=by
 have e:r.Br.take (L r.Br-n)=s.Br:=by simp_all
 unfold CU;simp[e];split
 ·have b:=Ev.put (c.Br (l:=s.Br) (z:=r.z)) (op:=4) (a:=(n:Int)) (d':=D) ⟨⟨by simp only;omega,by simp only;omega,O1,O1⟩,O1,by simp only;omega,by simp only;omega⟩ O1;exact⟨b.w,b.d,Ay b.p .refl,b.l⟩
 ·exact⟨⟨[],by rw[A6];exact c.Br⟩,by simp only;omega,by simp[Cx],rfl⟩
theorem Amz{d:Nat}{k:Nat}{l r:Ex}:2*Db (d+1) (.op k l r)+2<=wt (d+1) (.op k l r):=by
 have:=Mf d l;have:=Mf d r;simp[Db,Ch,wt];omega
theorem Aoz{d:Nat}{x:Ex}{bs:List (Nat×Bs×Ex)}:2*Db (d+1) (.case x bs)+2<=wt (d+1) (.case x bs):=by
 have e:=Mf d x;have f:2*(bs.map λa=>Db d a.2.2).sum<=(bs.map λa=>2+nW a.2.1+wt d a.2.2).sum:=by rw[<-M1];exact Mo λa _=>by have:=Mf d a.2.2;omega
 have b:((bs.map (λa=>(a.2.2,a.2.1))).map λc:Ex×Bs=>Db d c.1)=bs.map λa=>Db d a.2.2:=O2;simp[Db,Ch,wt,b];omega
theorem Ev.rev{k0:List Oy×Int}(n:LV wy k0 m w)(a:List Ex)(l:Wk wy k0 r wi t true)(c:Pe wy m (w+1) wo r)(h:∀b∈a,(b,[])∈Ch wo)(x:(a.map (wt w)).sum<=wt (w+1) wo):
 2*L a<=(a.map (wt w)).sum/\Ev wy k0 t r wi (a.reverse.foldl (λr wo=>kG m w wo r) r) (900*(a.map (wt w)).sum-900*L a) (r.Bn+(L a:Int)):=by
 have i:∀b∈a,2<=wt w b:=λb d=>by
  rcases Sh (h b d) with e|⟨k,hb,e⟩
  ·exact Ed w b (c.f.2.1 _ e)
  ·simp at e;exact Ed w b (e▸c.f.2.2 k hb)
 have g:(a.reverse.map (wt w)).sum=(a.map (wt w)).sum:=O2;have hb:=c.b;have v:=c.p;have j:=Ev.fold n a.reverse l (λb d=>by
  rw[Azx]at d;refine⟨i b d,λy g q u s=>c.cJ (h b d) (by rw[LF g];simp) ?_ q u s⟩;have:=Hu (f:=wt w) d;simp;omega) c.o ⟨hb.1,O1⟩ O1
 rw[g,Ayt]at j;exact⟨GO i,j⟩
theorem QD{B:Oy->Bool}{k0:List Oy×Int}{v:Oy}:∀d,LV B k0 v d
 |0=>λ_ _ _ _ _ e=>e.f.elim
 |d+1=>λz s aj E m e=>by
  have y:LV B k0 v d:=QD d;have hb:=e.b;have K:=e.p;have ae:=Ed (d+1) z e.f;cases z with
  |num n=>exact(Ev.put m (op:=0) (a:=n) (d':=s.Bn+1) ⟨⟨O1,O1,O1,O1⟩,e.f.1.1,e.f.1.2,rfl⟩ O1).le (by simp[iy,wt,cg]) rfl
  |Bo q t pl=>
   refine(Ev.look m e.o (t:=t) O1 ?_).le (by simp only[cg];omega) rfl;have h:=(PZ e.g).1;simp only[fN]at h;split at h
   ·exact .inl (Ls.1 ‹_›)
   ·split at h
    ·exact .inr (m.kg t ‹_›)
    ·cases h
  |case x bs=>
   have i:5<=wt (d+1) (.case x bs):=(by simp only[wt];omega);have:=Aoz (d:=d) (x:=x) (bs:=bs);exact(Ev.wait m e O1).le (by simp only[cc,cg];omega) rfl
  |op k l r=>
   have i:6<=wt (d+1) (.op k l r):=(by have:=Ed d l (e.f.2.1 l (by simp[BK]));have:=Ed d r (e.f.2.1 r (by simp[BK]));simp only[wt];omega);have:=Amz (d:=d) (k:=k) (l:=l) (r:=r);exact(Ev.wait m e O1).le (by simp only[cc,cg];omega) rfl
  |CE t fs=>
   have i:wt (d+1) (.CE t fs)=6+(fs.map (wt d)).sum:=rfl;obtain⟨G,g⟩:=Ev.rev y fs m e (λx M=>by simp[Ch,M]) O1;rw[i]at hb K ⊢;have al:=e.f.1.2;have ad:=e.f.1.1;refine(Ev.trans (c2:=90) (D2:=s.Bn+1) g λj h=>?_).le (by simp only[cg];omega) rfl;refine(Ev.put h (op:=15) (d':=s.Bn+1) ⟨⟨by rw[g.d];omega,by rw[g.d];omega,O1,O1⟩,t,L fs,by simp[Bf];omega,ad,O1,by rw[g.d];omega,by rw[g.d];omega⟩ O1).le (by simp[iy]) rfl
  |call ps=>
   have i:wt (d+1) (.call ps)=(ps.map (wt d)).sum:=rfl;have G:2<=L ps:=e.f.1;match ps with
   |[]=>simp at G
   |x::l=>
    rw[A1,Axm]at i;rw[AO]at G;obtain⟨U,g⟩:=Ev.rev y l m e (λx M=>by simp[Ch,M]) O1;have ae:=Ed d x (e.f.2.1 x (by simp[BK]));rw[i]at hb K ⊢;have af:=g.p;have u:=λj (h:Wk B k0 _ j E true)=>(y x (l.reverse.foldl (λs z=>kG v d z s) s) j E h (e.cJ (ns:=[]) (by simp[Ch]) (by rw[LF g.l];simp) (by rw[i];simp) (by rw[g.d];omega) O1 (Lm e.o g.l (by rw[g.d];omega)))).le (c:=900*wt d x-900) (by have:=T6 x;omega) rfl;refine(Ev.trans (c2:=900*wt d x-900+L l*30) (D2:=s.Bn+1) g λj h=>Ev.trans (u j h) λO H=>?_).le (by simp only[cg];omega) rfl;have Y:=(u j h).d;rw[g.d]at Y;exact(Ev.cI (L l) H O1).le (Ac _) O1
  |lets r ns es b=>
   have i:wt (d+1) (.lets r ns es b)=4+nW ns+(es.map (wt d)).sum+wt d b:=rfl;have am:=GK ns;have g:=UN y m e;rw[i]at hb K ⊢;obtain⟨j,h⟩:=g.w;have af:=g.p;have ak:=Ed d b (e.f.2.1 b (by simp[BK]));have u:=y b (FJ (Dm v d) (kG v d) r ns es s) _ E h (e.cJ (ns:=ns) (by simp[Ch]) g.n O1 (by rw[g.d];omega) O1 g.o);obtain⟨O,U⟩:=u.w;have an:=u.p;obtain⟨⟨R,ab,ac⟩,-⟩:=Gn.bind (Gw.wait v d) (Iy v d) r ns es s;obtain⟨⟨aa,H⟩,ag,ah,ai⟩:=Sy (s:=s) (n:=L ns) (D:=s.Bn+1) (R:=R) U (u.l.trans ab) ac (by rw[u.d,g.d];omega) (by rw[u.d,g.d];omega);exact⟨⟨j++(O++aa),by rw[<-AG,<-AG];exact H⟩,ag,Ay ah (by have:=T6 b;simp only[cg];omega),ai⟩
def nJ(a:List Nat):List Int:=a.map Int.ofNat
structure Ar (m:Oy->Bool) (k0:List Oy×Int) (n:List Nat) (h:Nat) (e:Int) (f:List (Oy×Int)) (r:Bool) (o:List Int) (c:KS) (d:List Int) (i:List Nat) (g:List Co) (q:Nat) (k:List Nat):Prop where
 w:Wk m k0 c d (h::(i++n)) false
 cf:c.Bj[h]?=I ⟨17,0,[]⟩
 gf:d[h]?=I e
 j:∀j∈i,c.Bj[j]?=I ⟨18,0,[]⟩/\d[j]?=I e
 a:∀b∈g,0<=b.BU/\d[b.BU.toNat]?=I e
 t:g.map (·.tag)=k.map Int.ofNat
 l:c.Br.take (L f)=f
 p:Cx c+100*L g<=q
 gp:o<+:d
 vv:r=true->k≠[]->c.Bn=e/\c.Br=f
theorem U7(e:Int):∀d b,∀f∈E7 e b d,∃c,b<=c/\c<b+L d/\f.2=Bf (Bf (e-1)-(c:Int))
 |[],_,_,a=>by cases a
 |t::d,b,f,a=>by
  rcases AX.1 a with rfl|a
  ·grind
  ·let ⟨c,g,h,i⟩:=U7 e d (b+1) f a
   grind
theorem Vb(b:Int):∀a c,(E7 b c a).map (·.1)=a
 |[],_=>rfl
 |t::a,c=>by simp[E7,Vb b a]
structure Ab (f:Oy->Bool) (k0:List Oy×Int) (g:List Nat) (e:Int) (c:List (Oy×Int)) (b:Bs) (a:KS) (h:List Int):Prop where
 w:Wk f k0 a h g true
 d:a.Bn=e-1+(L b:Int)
 l:∃R,a.Br=c++R/\L R=L b
 n:EY a=c.map (·.1)++b.map (·.1)
 o:Lo a
theorem Ar.dR{k0:List Oy×Int}{g:Nat}(e:Ar wy k0 t g D O w4 xg r wi n8 na s st){a:Bs}(p:1<=D/\D-1+(L a:Int)<=1000/\D<=1000/\L a<=20)(q:∀c∈O,0<=c.2/\c.2<D-1):Ab wy k0 (g::(n8++t)) D O a (Dq D (L O) a r) (wi++[D])/\Cx (Dq D (L O) a r)=Cx r+90+L a/\(Dq D (L O) a r).Bj=r.Bj++[⟨16,(L a:Int),[]⟩]:=by
 have h:Ik (L r.kn) 16 (L a) D (D-1+L a):=⟨⟨O1,O1,O1,O1⟩,O1,O1,O1,rfl⟩;have i:=Ev.put (e.w.shut (l:=r.Br.take (L O)) (z:=r.z)) h O1;have n:=(e.w.shut (l:=r.Br.take (L O)) (z:=r.z)).put h λ_=>⟨nofun,nofun,.inr rfl⟩;have m:(Dq D (L O) a r).Bn=D-1+L a:=i.d;have f:(Dq D (L O) a r).Br=O++E7 (D-1+L a) 0 (a.map (·.1)):=by
  unfold Dq EB;simp[i.d];rw[show(BL 16 (L a) {r with Bn:=D,Br:=r.Br.take (L O)}).Br=r.Br.take (L O) from rfl,e.l]
 refine⟨⟨n.Br,m,⟨_,f,by rw[ME,An]⟩,by unfold EY;rw[f,AC,Vb],λc b=>?_⟩,?_,rfl⟩
 ·rw[f]at b;rcases Ag.1 b with b|b
  ·grind
  ·let ⟨u,o,j,k⟩:=U7 _ _ _ c b
   rw[An]at j;rw[k];simp[Bf];omega
 ·have:=M5 16 (L a) {r with Bn:=D,Br:=r.Br.take (L O)};unfold Dq EB;simp[Cx,iy]at this ⊢;omega
def QF(h:Oy->Bool)(k0:List Oy×Int)(i:List Nat)(k:Nat)(e:Int)(d:List (Oy×Int))(o:Bool)(n:BT)(j:Nat)(c:KJ->KJ):Prop:=∀(a:KS) (g:List Int) (b:List Nat),Ab h k0 (k::(b++i)) e d n.2.2.1 a g->Cx a+900*j<=1900000->
 ∃l f,Wk h k0 (c (a,nJ b)).1 (g++l) (k::(b++f++i)) false/\(c (a,nJ b)).2=nJ (b++f)/\(∀m∈f,(c (a,nJ b)).1.Bj[m]?=I ⟨18,0,[]⟩/\(g++l)[m]?=I e)/\a.Bj<+:(c (a,nJ b)).1.Bj/\(c (a,nJ b)).1.Br.take (L d)=d/\Cx (c (a,nJ b)).1<=Cx a+900*j/\(o=true->(c (a,nJ b)).1.Bn=e/\(c (a,nJ b)).1.Br=d)
theorem NQ(a:wl<+:yw)(b:wl[w]?=I wv):yw[w]?=I wv:=by
 obtain⟨c,rfl⟩:=a;grind
theorem Mk(a:wi[w]?=I D):(wi++xg)[w]?=I D:=by
 grind
theorem VC{u:Oy->Bool}{k0:List Oy×Int}{x:List Nat}{G:List Int}{z:Nat}{c:Int}{g:List (Oy×Int)}{B:Bool}{D:BT->KJ->KJ}{i:BT->Nat}(hD:1<=c/\c<=1000)(M:∀s∈g,0<=s.2/\s.2<c-1):∀(f:List BT) (d:KS) (n:List Int) (e:List Nat) (k:List Co) (j:Nat) (r:List Nat),(∀b∈f,QF u k0 x z c g B b (i b) (D b)/\c-1+(L b.2.2.1:Int)<=1000/\L b.2.2.1<=20)->Ar u k0 x z c g B G d n e k j r->j+900*(f.map λb=>2+nW b.2.2.1+i b).sum<=1900000->
 ∃q E v y,De D c (L g) f ((d,nJ e),k)=((q,nJ v),y)/\Ar u k0 x z c g B G q E v y (j+900*(f.map λb=>2+nW b.2.2.1+i b).sum) (r++f.map (·.1))/\d.Bj<+:q.Bj
 |[],d,n,e,k,j,r,_,h,_=>⟨d,n,e,k,rfl,by simpa using h,Ay0 _⟩
 |b::f,d,n,e,k,j,r,hT,h,hq=>by
  rw[A1,Axm]at hq ⊢;let ⟨hb,ab,ac⟩:=hT b O2
  let ⟨O,am,an⟩:=h.dR ⟨hD.1,ab,hD.2,ac⟩ M
  have ap:=h.p;have ao:=GK b.2.2.1;let ⟨Y,K,ah,aq,ai,aj,ak,ar,al⟩:=hb _ _ e O O1
  have o:=(show d.Bj<+:(Dq c (L g) b.2.2.1 d).Bj by grind).trans aj;have aa:Ar u k0 x z c g B G (D b (Dq c (L g) b.2.2.1 d,nJ e)).1 (n++[c]++Y) (e++K) (k++[⟨b.1,L d.Bj⟩]) (j+900*(2+nW b.2.2.1+i b)) (r++[b.1]):=by
   refine⟨ah,NQ o h.cf,Mk (Mk h.gf),λH l=>?_,λs m=>?_,by rw[AC,h.t];simp,ak,O6,(h.gp.trans (Aw2 _ _)).trans (Aw2 _ _),λad _=>al ad⟩
   ·rcases Ag.1 l with l|l
    ·exact⟨NQ o (h.j H l).1,Mk (Mk (h.j H l).2)⟩
    ·exact ai H l
   ·rcases Ag.1 m with m|m
    ·exact⟨(h.a s m).1,Mk (Mk (h.a s m).2)⟩
    ·obtain rfl:=Ax.1 m;exact⟨O2,Mk (by simp[<-h.w.gl])⟩
  let ⟨q,E,v,y,ae,af,ag⟩:=VC hD M f _ _ (e++K) _ _ _ (λU o=>hT U (by simp[o])) aa O1
  refine⟨q,E,v,y,?_,by rw[show j+900*(2+nW b.2.2.1+i b+(f.map λb=>2+nW b.2.2.1+i b).sum)=j+900*(2+nW b.2.2.1+i b)+900*(f.map λb=>2+nW b.2.2.1+i b).sum by omega];simpa using af,o.trans ag⟩;rw[<-ae];unfold De;grind
theorem Y0:∀{a:List BJ} {c:Nat} {b y:BJ},a[c]?=I b->cb (a.set c y)+iy b=cb a+iy y
 |[],_,_,_,h=>by cases h
 |z::a,0,b,y,h=>by cases h;simp[cb];omega
 |z::a,c+1,b,y,h=>by
  have:=Y0 (y:=y) (by simpa using h);simp[cb]at this ⊢;omega
theorem UO{F:BJ->BJ}(a:r.Bj[w]?=I wv):Cx (DW w F r)+20*iy wv=Cx r+20*iy (F wv)/\DW w F r={r with Bj:=r.Bj.set w (F wv)}:=by
 have b:DW w F r={r with Bj:=r.Bj.set w (F wv)}:=by unfold DW;rw[a]
 have:=Y0 (y:=F wv) a;unfold Cx;grind
theorem Wk.mod{k0:List Oy×Int}(c:Wk wy k0 r wi n8 ss)(y:r.Bj[w]?=I wv)(v:wi[w]?=I D)(i:∀b∈n8,b=w\/b∈t)(x:ss=true->w4=true)(z:Ik (L r.kn) xo.op.toNat xo.a D nf/\0<=xo.op/\(xo.op≠17->xo.alts=[])/\(xo.op=17->0<L xo.alts/\(xo.alts.map (·.tag)).Nodup/\∀d∈xo.alts,0<=d.tag/\d.tag<256/\0<=d.BU)/\∀g∈sc xo w,wi[g]?=I nf\/w4=true/\g=L r.Bj/\r.Bn=nf):Wk wy k0 {r with Bj:=r.Bj.set w xo} wi t w4:=by
 refine {c with gl:=by simpa using c.gl,ok:=λb m h f j k=>?_,se:=λe=>by grind};simp;by_cases e:b=w
 ·grind
 ·rw[List.getElem?_set_ne (λc=>e c.symm)]at f;let ⟨n,o,p,q,s,u⟩:=c.ok b m h f j λl=>(i b l).elim e k
  grind
theorem Ar.done{k0:List Oy×Int}{f:Nat}(b:Ar wy k0 t f D O w4 xg r wi n8 na s st)(m:1<=D/\D<=1000)(u:0<L st)(y:st.Nodup)(l:∀e∈st,e<256):Wk wy k0 (DW f (λc=>{c with alts:=na}) r) wi (n8++t) false/\Cx (DW f (λc=>{c with alts:=na}) r)<=s/\∀i∈n8,(DW f (λc=>{c with alts:=na}) r).Bj[i]?=I ⟨18,0,[]⟩:=by
 let ⟨j,q⟩:=UO (F:=λc=>{c with alts:=na}) b.cf
 have z:=b.p;simp[iy]at j;rw[q]at j ⊢;have x:(L na)=L st:=by have:=congrArg L b.t;simpa using this
 refine⟨b.w.mod b.cf b.gf (λB o=>by simpa using o) (λb=>b) ⟨⟨⟨O1,O1,O1,O1⟩,rfl,m.1,rfl⟩,O2,λb=>absurd rfl b,λ_=>⟨by simp only;omega,?_,λd hb=>?_⟩,λe h=>.inl ?_⟩,O1,λi n=>?_⟩
 ·rw[b.t];grind
 ·have:d.tag∈st.map Int.ofNat:=by rw[<-b.t];grind
  let ⟨e,h,k⟩:=AE.1 this
  have g:=l e h;have v:d.tag=e:=k.symm;exact⟨O1,O1,(b.a d hb).1⟩
 ·simp[sc]at h;obtain⟨d,hb,rfl⟩:=h;exact(b.a d hb).2
 ·have g:=(b.j i n).1;rw[List.getElem?_set_ne]
  ·exact g
  ·rintro rfl;rw[b.cf]at g;cases g
theorem ZR{k0:List Oy×Int}{v:Bool}{F:KS->KS}{T:BT->KJ->KJ}{W:BT->Nat}{bs:List BT}{g:Nat}(c:Ev wy k0 t r wi (F r) g (r.Bn+1))(aa:Lo r)(s:0<=r.Bn/\r.Bn+1<=1000)(o:0<L bs)(Y:(bs.map (·.1)).Nodup)(G:∀a∈bs,a.1<256)(K:∀n,n=(F r).Bj.length->∀a∈bs,QF wy k0 t n (r.Bn+1) r.Br v a (W a) (T a)/\r.Bn+(L a.2.2.1:Int)<=1000/\L a.2.2.1<=20)(ab:Cx r+g+70+900*(bs.map λa=>2+nW a.2.2.1+W a).sum<=1900000):
 ∃b j i,D9 F T bs (r,[])=(b,nJ i)/\Wk wy k0 b (wi++j) (i++t) false/\(∀e∈i,b.Bj[e]?=I ⟨18,0,[]⟩/\(wi++j)[e]?=I (r.Bn+1))/\Cx b<=Cx r+g+70+900*(bs.map λa=>2+nW a.2.2.1+W a).sum/\(v=true->b.Bn=r.Bn+1/\b.Br=r.Br)/\r.Br<+:b.Br:=by
 let ⟨z,q⟩:=c.w
 have aj:=c.p;have M:Ik (F r).kn.length 17 0 (F r).Bn (r.Bn+1):=by rw[c.d];exact⟨⟨O1,O1,O1,O1⟩,rfl,O1,rfl⟩
 have E:=(q.at (P':=(F r).Bj.length::([]++t)) (λak O=>by simp[O])).put (o':=false) M (λU=>absurd (Aw3 ..) U);have H:Ar wy k0 t (F r).Bj.length (r.Bn+1) r.Br v wi (BL 17 0 (F r)) (wi++z++[(F r).Bn]) [] [] (Cx r+g+70) []:=by
  refine⟨E,by simp[BL],by rw[<-q.gl,Ayl,c.d],λe h=>(by cases h),λa hb=>(by cases hb),rfl,?_,?_,(Aw2 _ _).trans (Aw2 _ _),λ_ D=>absurd rfl D⟩
  ·show(F r).Br.take _=_;rw[c.l,AP]
  ·rw[M5];simp[iy];omega
 obtain⟨b,j,y,m,ah,f,am⟩:=VC (hD:=⟨O1,s.2⟩) (λai ad=>by have:=aa ai ad;omega) bs _ _ _ _ _ _ (λa hb=>by have:=K _ rfl a hb;exact⟨this.1,O1,this.2.2⟩) H ab;obtain⟨ae,af,ag⟩:=f.done ⟨O1,s.2⟩ (by simpa using o) (by simpa using Y) (λan u=>by rw[Bb]at u;obtain⟨a,hb,rfl⟩:=AE.1 u;exact G a hb);obtain⟨B,rfl⟩:=f.gp;let ⟨al,x⟩:=UO (F:=λk=>{k with alts:=m}) f.cf
 refine⟨DW (F r).Bj.length (λk=>{k with alts:=m}) b,B,y,?_,ae,λe h=>⟨ag e h,(f.j e h).2⟩,af,λac=>?_,?_⟩
 ·unfold D9;simp only;rw[c.d,c.l,show([])=nJ [] from rfl,ah]
 ·rw[x];exact f.vv ac (by simpa using List.ne_nil_of_length_pos o)
 ·rw[x];rw[<-f.l];exact List.take_prefix _ _
theorem Ar3(a:KS):29*L a.Bj<=Cx a:=by
 have:∀l:List BJ,L l<=cb l:=λl=>by
  have:=GO (f:=iy) (m:=1) (l:=l) λb _=>by unfold iy;grind
  unfold cb;omega
 have:=this a.Bj;unfold Cx;omega
theorem Abc{k:Oy->Bool}{k0:List Oy×Int}{l:List Nat}{i:List Int}{g:Int}{n:Int}(r:0<=g/\g<=1000):∀b {a:KS} {j:Bool},Wk k k0 a i (b++l) j->(∀c∈b,(∃h,a.Bj[c]?=I ⟨18,h,[]⟩)/\i[c]?=I g)->a.Bn=g->n=(L a.Bj:Int)->L a.Bj<=65535->Wk k k0 (EC n (nJ b) a) i l true/\Cx (EC n (nJ b) a)=Cx a/\(EC n (nJ b) a).Bn=a.Bn/\(EC n (nJ b) a).Br=a.Br
 |[],a,j,d,_,_,_,_=>⟨by
  cases j with
  |true=>exact d
  |false=>exact d.shut,rfl,rfl,rfl⟩
 |c::b,a,j,d,hj,hd,hn,hl=>by
  let ⟨⟨h,o⟩,s⟩:=hj c O2
  let ⟨m,p⟩:=UO (F:=λe=>{e with a:=n}) o
  have v:Wk k k0 {a with Bj:=a.Bj.set c ⟨18,n,[]⟩} i (b++l) true:=d.mod o s (λf u=>by simpa using u) (λ_=>rfl) ⟨⟨⟨O1,O1,O1,O1⟩,by simp only;omega,by simp only;omega,rfl⟩,O2,λ_=>rfl,λd=>by simp at d,λx w=>.inr ?_⟩
  ·have f:=Abc r b v (λe t=>⟨?_,(hj e (by simp[t])).2⟩) hd (by simpa using hn) (by simpa using hl)
   ·have q:EC n (nJ (c::b)) a=EC n (nJ b) {a with Bj:=a.Bj.set c ⟨18,n,[]⟩}:=by
     show EC n (nJ b) (DW c (λe=>{e with a:=n}) a)=_;rw[p]
    rw[q];refine⟨f.1,f.2.1.trans ?_,f.2.2.1,f.2.2.2⟩;rw[p]at m;simp[iy]at m;exact m
   grind
  ·simp[sc]at w;grind
def S1(c:Oy->Bool)(k0:List Oy×Int)(g:Oy)(d:Nat):Prop:=∀(b:Ex) (a:KS) (f:List Int) (e:List Nat),Wk c k0 a f e true->Pe c g d b a->Ev c k0 e a f (kV g d b a) (900*wt d b-cc b) (a.Bn+1)
theorem Pe.dR{k0:List Oy×Int}(b:Pe wy m (w+1) (.case wo xx) w8)(hb:xj∈xx){c:List Nat}(a:Ab wy k0 c (w8.Bn+1) w8.Br xj.2.1 r wi)(d:Cx r+900*wt w xj.2.2<=1900000):Pe wy m w xj.2.2 r:=by
 have e:=Hu (f:=λxj:B3=>2+nW xj.2.1+wt w xj.2.2) hb;have i:wt (w+1) (.case wo xx)=5+wt w wo+(xx.map λxj:B3=>2+nW xj.2.1+wt w xj.2.2).sum:=rfl;have h:=GK xj.2.1;have g:=b.b;exact b.cJ (Awv _ (AE.2 ⟨xj,hb,rfl⟩)) a.n O1 (by rw[a.d];omega) d a.o
theorem Avg{k0:List Oy×Int}{b:Nat}{f:Nat}(H:S1 wy k0 m b){U:Ex}{k:List B3}{a:B3}(u:Pe wy m (b+1) (.case U k) r)(hb:a∈k):QF wy k0 t f (r.Bn+1) r.Br true (EL a) (wt b a.2.2) (Eg (EL a).2.2.1.length (kV m b (EL a).2.2.2.2.1)):=by
 intro s e j c O;have c:Ab wy k0 (f::(j++t)) (r.Bn+1) r.Br a.2.1 s e:=c;have i:=u.dR hb c O;have aa:=Ed b a.2.2 i.f;have ab:=i.b;have Y:=u.b.1;have ad:=c.d;have d:=H a.2.2 s e _ c.w i;have ah:=d.p;have ac:=K8 a.2.2;let ⟨g,z⟩:=d.w
 let ⟨y,E,G⟩:=c.l
 let ⟨⟨h,o⟩,v,ai,x⟩:=Sy (s:=r) (D:=r.Bn+1) (R:=y) z (d.l.trans E) G (by rw[d.d];omega) (by rw[d.d];omega)
 have q:Ik (CU (L a.2.1) (kV m b a.2.2 s)).kn.length 18 0 (CU (L a.2.1) (kV m b a.2.2 s)).Bn (r.Bn+1):=by rw[v];exact⟨⟨O1,O1,O1,O1⟩,O1,O1,rfl⟩
 have B:=(o.at (P':=f::(j++[(CU (L a.2.1) (kV m b a.2.2 s)).Bj.length]++t)) (λag ae=>O6)).put (o':=false) q (λM=>absurd O2 M);rw[v]at B;have n:e++(g++(h++[r.Bn+1]))=e++g++h++[r.Bn+1]:=O2;refine⟨g++(h++[r.Bn+1]),[(CU (L a.2.1) (kV m b a.2.2 s)).Bj.length],?_,by simp[Eg,nJ,EL],λaf K=>?_,?_,?_,?_,λ_=>⟨Ti q,x⟩⟩
 ·rwa[n]
 ·obtain rfl:=Ax.1 K;refine⟨by simp[Eg,BL,EL],?_⟩;rw[n,<-o.gl,Ayl]
 ·exact((Jq m b a.2.2 s).2.trans (T5 _ _)).trans (Aw2 _ _)
 ·show(CU (L a.2.1) (kV m b a.2.2 s)).Br.take _=_;rw[x,AP]
 ·show Cx (BL 18 0 (CU (L a.2.1) (kV m b a.2.2 s)))<=_;rw[M5];simp[iy];omega
theorem ML(c:Pe wy m (w+1) (.case wo xx) r):∀a∈xx.map EL,r.Bn+(L a.2.2.1:Int)<=1000/\L a.2.2.1<=20/\a.1<256:=λa hb=>by
 obtain⟨b,d,rfl⟩:=AE.1 hb;have e:=Hu (f:=λa:B3=>2+nW a.2.1+wt w a.2.2) d;have k:wt (w+1) (.case wo xx)=5+wt w wo+(xx.map λa:B3=>2+nW a.2.1+wt w a.2.2).sum:=rfl;have j:=GK b.2.1;have i:=c.b;have h:(EY r).length+L b.2.1<=20:=RP _ c.l ((PZ c.g).2 (b.2.2,b.2.1) (Awv _ (AE.2 ⟨b,d,rfl⟩))).1;exact⟨by show _+(L b.2.1:Int)<=_;omega,by show L b.2.1<=20;omega,c.f.1.2.1 b d⟩
theorem Vz{E:Oy->Bool}{k0:List Oy×Int}{f:Oy}:∀a,S1 E k0 f a
 |0=>λ_ _ _ _ _ b=>b.f.elim
 |a+1=>λu s G m z b=>by
  have y:S1 E k0 f a:=Vz a;have hb:=b.b;have K:=b.p;have a8:=Ed (a+1) u b.f;have e:=QD (a+1) u s G m z b;cases u with
  |num n=>exact e.le (by simp only[cg,cc];omega) rfl
  |CE t fs=>exact e.le (by simp only[cg,cc];omega) rfl
  |Bo q t pl=>
   refine(Ev.trans (c2:=30) (D2:=s.Bn+1) e λh g=>?_).le (by simp only[cg,cc];omega) rfl;exact(Ev.put g (op:=8) ⟨⟨by rw[e.d];omega,by rw[e.d];omega,O1,O1⟩,rfl,by rw[e.d];omega,by rw[e.d]⟩ O1).le (by simp[iy]) rfl
  |call ps=>
   refine(Ev.trans (c2:=30) (D2:=s.Bn+1) e λh g=>?_).le (by simp only[cg,cc];omega) rfl;exact(Ev.put g (op:=8) ⟨⟨by rw[e.d];omega,by rw[e.d];omega,O1,O1⟩,rfl,by rw[e.d];omega,by rw[e.d]⟩ O1).le (by simp[iy]) rfl
  |lets r ns es c=>
   clear e;have i:wt (a+1) (.lets r ns es c)=4+nW ns+(es.map (wt a)).sum+wt a c:=rfl;have a6:=GK ns;have d:=UN (QD a) z b;rw[i]at hb K ⊢;obtain⟨h,g⟩:=d.w;have al:=d.p;have a0:=Ed a c (b.f.2.1 c (by simp[BK]));have j:=y c (FJ (Dm f a) (kG f a) r ns es s) _ m g (b.cJ (ns:=ns) (by simp[Ch]) d.n O1 (by rw[d.d];omega) O1 d.o);obtain⟨Y,ag⟩:=j.w;have aB:=j.p;obtain⟨⟨R,ah,ai⟩,-⟩:=Gn.bind (Gw.wait f a) (Iy f a) r ns es s;obtain⟨⟨af,H⟩,am,an,ao⟩:=Sy (s:=s) (n:=L ns) (D:=s.Bn+1) (R:=R) ag (j.l.trans ah) ai (by rw[j.d,d.d];omega) (by rw[j.d,d.d];omega);exact⟨⟨h++(Y++af),by rw[<-AG,<-AG];exact H⟩,am,Ay an (by have:=K8 c;simp only[cc];omega),ao⟩
  |op k l r=>
   clear e;have i:wt (a+1) (.op k l r)=2+wt a l+wt a r:=rfl;have a5:=Ed a l (b.f.2.1 l (by simp[BK]));have a7:=Ed a r (b.f.2.1 r (by simp[BK]));have a3:k<6:=b.f.1;rw[i]at hb K ⊢;have d:=y l s G m z (b.cJ (ns:=[]) (by simp[Ch]) O2 (by rw[i];simp;omega) ⟨hb.1,O1⟩ O1 b.o);have al:=d.p;have ay:=K8 l;have c2:=K8 r;have j:=λh (g:Wk E k0 _ h m true)=>y r (kV f a l s) h m g (b.cJ (ns:=[]) (by simp[Ch]) (by rw[LF d.l];simp) (by rw[i];simp) (by rw[d.d];omega) O1 (Lm b.o d.l (by rw[d.d];omega)));refine(Ev.trans (c2:=900*wt a r-cc r+30) (D2:=s.Bn+1) d λh g=>Ev.trans (j h g) λY H=>?_).le (by rw[show cc (.op k l r)=4100 from rfl];omega) rfl;have U:=(j h g).d;rw[d.d]at U;have aj:Ik (kV f a r (kV f a l s)).kn.length (9+k) 0 (kV f a r (kV f a l s)).Bn (s.Bn+1):=by
    rw[U];refine⟨⟨O1,O1,O1,O1⟩,?_⟩;obtain rfl|rfl|rfl|rfl|rfl|rfl:k=0\/k=1\/k=2\/k=3\/k=4\/k=5:=O1;all_goals exact⟨rfl,O1,O1⟩
   exact(Ev.put H (op:=9+k) aj O1).le (by rw[iy,if_neg O5,if_pos O5];exact Ac _) rfl
  |case x bs=>
   clear e;have i:wt (a+1) (.case x bs)=5+wt a x+(bs.map λc:B3=>2+nW c.2.1+wt a c.2.2).sum:=rfl;have a9:=Ed a x (b.f.2.1 x (by simp[BK]));rw[i]at hb K ⊢;have d:=y x s G m z (b.cJ (ns:=[]) (Aw3 ..) O2 (by rw[i];simp;omega) ⟨hb.1,O1⟩ O1 b.o);have a1:=K8 x;have aa:((bs.map EL).map λc:BT=>2+nW c.2.2.1+wt a c.2.2.2.2.1).sum=(bs.map λc:B3=>2+nW c.2.1+wt a c.2.2).sum:=by rw[A4];rfl
   obtain⟨B,ae,O,av,aw,ad,ax,M,-⟩:=ZR (v:=true) (F:=kV f a x) (T:=λc=>Eg (L c.2.2.1) (kV f a c.2.2.2.2.1)) (W:=λc=>wt a c.2.2.2.2.1) (bs:=bs.map EL) d b.o O1 (by simpa using b.f.1.1) (by rw[A4];exact b.f.1.2.2) (λc hb=>(ML b c hb).2.2) (λaz a2 c hb=>⟨by
    obtain⟨aC,ak,rfl⟩:=AE.1 hb;exact Avg y b ak,(ML b c hb).1,(ML b c hb).2.1⟩) (by rw[aa];omega)
   rw[aa]at ax;have a4:=Ar3 B;obtain⟨ap,aq,ar,au⟩:=Abc (n:=(L B.Bj:Int)) ⟨O1,O1⟩ O aw (λac ab=>⟨⟨0,(ad ac ab).1⟩,(ad ac ab).2⟩) (M rfl).1 rfl O1;have u:kV f (a+1) (.case x bs) s=EC (L B.Bj:Int) (nJ O) B:=by
    show Kl _ _ _ s=_;unfold Kl;simp only;rw[av]
   rw[u];exact⟨⟨ae,ap⟩,by rw[ar,(M rfl).1],by rw[aq];simp only[cc];omega,by rw[au,(M rfl).2]⟩
structure Er (c:Oy->Bool) (k0:List Oy×Int) (d:List Nat) (b:KS) (f:List Int) (a:KS) (e:Nat):Prop where
 w:∃g',Wk c k0 a (f++g') d false
 p:Cx a<=Cx b+e
 l:b.Br<+:a.Br
def UB(c:Oy->Bool)(k0:List Oy×Int)(g:Oy)(d:Nat):Prop:=∀(b:Ex) (a:KS) (f:List Int) (e:List Nat),Wk c k0 a f e true->Pe c g d b a->1<=a.Bn->Er c k0 e a f (kR g d b a) (900*wt d b-(cc b-220))
theorem Atb{k0:List Oy×Int}{c:Nat}(b:Ev wy k0 t r wi w8 c (r.Bn+1))(n:1<=r.Bn/\r.Bn+1<=1000):Er wy k0 t r wi (Gc (ER 0 w8)) (c+210):=by
 have a:Ev wy k0 t r wi (ER 0 w8) (c+90) r.Bn:=Ev.trans b λj g=>by
  unfold ER;rw[b.d,show Bf (Bf (r.Bn+1-2)-0)=r.Bn-1 by simp[Bf];omega];exact(Ev.put g (op:=5) ⟨⟨by rw[b.d];omega,by rw[b.d];omega,O1,O1⟩,O1,by rw[b.d];omega,by rw[b.d];omega⟩ O1).le .refl rfl
 have i:∀e,Ev wy k0 t r wi e (c+180) 1->Er wy k0 t r wi (BL 19 0 e) (c+210):=λe f=>by
  let ⟨k,h⟩:=f.w
  have o:=f.p;have m:=h.put (o':=false) (op:=19) (by rw[f.d];exact⟨⟨O1,O1,O1,O1⟩,rfl,rfl,rfl⟩) λ_=>⟨nofun,nofun,.inl rfl⟩;exact⟨⟨k++[e.Bn],O6⟩,by rw[M5];simp[iy];omega,by show _<+:e.Br;rw[f.l];simp⟩
 unfold Gc;split
 ·refine i _ (Ev.le (Ev.trans (c2:=90) a λj h=>?_) .refl rfl);rw[a.d,show Bf (r.Bn-1)=r.Bn-1 by simp[Bf];omega];exact(Ev.put h (op:=6) ⟨⟨O1,by rw[a.d];omega,O1,O1⟩,O1,by rw[a.d];omega,by rw[a.d];omega⟩ O1).le .refl rfl
 ·rename_i g
  rw[a.d]at g;exact i _ (a.le O1 O1)
theorem Ahs{k0:List Oy×Int}{b:Nat}(j:UB wy k0 m b){u:Ex}{f:List B3}{a:B3}(n:Pe wy m (b+1) (.case u f) r)(y:1<=r.Bn)(hb:a∈f):QF wy k0 t s (r.Bn+1) r.Br false (EL a) (wt b a.2.2) (λd=>(kR m b (EL a).2.2.2.2.1 d.1,d.2)):=by
 intro d g v c o;have c:=c;have e:=j a.2.2 d g _ c.w (n.dR hb c o) (by rw[c.d];omega);let ⟨h,q⟩:=e.w
 obtain⟨x,z,-⟩:=c.l;refine⟨h,[],by rw[A6];exact q,O2,λD k=>(by cases k),(N8 m b a.2.2 d).2,?_,Ay e.p O1,λi=>(by cases i)⟩;let ⟨E,B⟩:=e.l
 show(kR m b a.2.2 d).Br.take _=_;grind
theorem W8{H:BT->KS->KS}{c:Int}{e:Nat}:∀b a,(De (λd a=>(H d a.1,a.2)) c e b a).1.2=a.1.2
 |[],_=>rfl
 |_::b,_=>(W8 b _).trans rfl
theorem VW{j:Oy->Bool}{k0:List Oy×Int}{e:Oy}:∀a,UB j k0 e a
 |0=>λ_ _ _ _ _ c=>c.f.elim
 |a+1=>λd f k h m c t=>by
  have y:UB j k0 e a:=VW a;have hb:=c.b;have u:=c.p;have an:=Ed (a+1) d c.f;have Y:Er j k0 h f k (Gc (ER 0 (kV e (a+1) d f))) (900*wt (a+1) d-(cc d-220)):=by
   have i:=Atb (Vz (a+1) d f k h m c) ⟨t,O1⟩;have aj:cc d<=900*wt (a+1) d:=by
    cases d with
    |op i l r=>have:=Ed a l (c.f.2.1 l (by simp[BK]));have:=Ed a r (c.f.2.1 r (by simp[BK]));simp only[cc,wt];omega
    |case x bs=>simp only[cc,wt];omega
    |_=>simp only[cc];omega
   have:=K8 d;exact⟨i.w,Ay i.p O1,i.l⟩
  cases d with
  |lets r ns es b=>
   have q:wt (a+1) (.lets r ns es b)=4+nW ns+(es.map (wt a)).sum+wt a b:=rfl;have am:=GK ns;have g:=UN (QD a) m c;rw[q]at hb u ⊢;obtain⟨G,M⟩:=g.w;have ap:=g.p;have ai:=Ed a b (c.f.2.1 b (by simp[BK]));have s:=y b (FJ (Dm e a) (kG e a) r ns es f) _ h M (c.cJ (ns:=ns) (by simp[Ch]) g.n O1 (by rw[g.d];omega) O1 g.o) (by rw[g.d];omega);obtain⟨K,O⟩:=s.w;obtain⟨⟨ae,ag,ah⟩,-⟩:=Gn.bind (Gw.wait e a) (Iy e a) r ns es f;exact⟨⟨G++K,by rw[<-AG];exact O⟩,Ay s.p (by have:=K8 b;simp only[show cc (.lets r ns es b)=1500 from rfl];omega),(show f.Br<+:_ by grind).trans s.l⟩
  |case x bs=>
   have q:wt (a+1) (.case x bs)=5+wt a x+(bs.map λb:B3=>2+nW b.2.1+wt a b.2.2).sum:=rfl;have ao:=Ed a x (c.f.2.1 x (by simp[BK]));rw[q]at hb u ⊢;have g:=(Vz a) x f k h m (c.cJ (ns:=[]) (Aw3 ..) O2 O6 ⟨hb.1,O1⟩ O1 c.o);have ak:=K8 x;have U:((bs.map EL).map λb:BT=>2+nW b.2.2.1+wt a b.2.2.2.2.1).sum=(bs.map λb:B3=>2+nW b.2.1+wt a b.2.2).sum:=by rw[A4];rfl
   obtain⟨ad,E,D,z,ab,aq,B,-,ac⟩:=ZR (v:=false) (F:=kV e a x) (T:=λb f=>(kR e a b.2.2.2.2.1 f.1,f.2)) (W:=λb=>wt a b.2.2.2.2.1) (bs:=bs.map EL) g c.o O1 (by simpa using c.f.1.1) (by rw[A4];exact c.f.1.2.2) (λb hb=>(ML c b hb).2.2) (λaf al b hb=>⟨by
    obtain⟨ar,aa,rfl⟩:=AE.1 hb;exact Ahs y c t aa,(ML c b hb).1,(ML c b hb).2.1⟩) O1
   rw[U]at B;obtain rfl:D=[]:=by simpa[nJ]using((congrArg Prod.snd z).symm.trans (W8 (H:=λb=>kR e a b.2.2.2.2.1) _ _))
   have d:kR e (a+1) (.case x bs) f=ad:=congrArg Prod.fst z;rw[d];exact⟨⟨E,ab⟩,Ay B (by rw[show cc (.case x bs)=4100 from rfl];omega),ac⟩
  |_=>exact Y
def Sd(j:Nat)(i:Int)(e:List BJ):Prop:=e≠[]/\∃c:List Int,L c=L e/\c[0]?=I (i+1)/\∀f b g,e[f]?=I b->c[f]?=I g->∃h,Ik j b.op.toNat b.a g h/\0<=b.op/\(b.op≠17->b.alts=[])/\(b.op=17->0<L b.alts/\(b.alts.map (·.tag)).Nodup/\∀d∈b.alts,0<=d.tag/\d.tag<256/\0<=d.BU)/\∀k∈sc b f,c[k]?=I h
theorem Sd.up{c d:Nat}{a:Int}{b:List BJ}(h:Sd c a b)(p:c<=d):Sd d a b:=by
 let ⟨i,g,j,k,l⟩:=h
 refine⟨i,g,j,k,λr s e q o=>?_⟩;let ⟨f,m,n⟩:=l r s e q o
 exact⟨f,m.up p,n⟩
theorem Wk.sd{k0:List Oy×Int}(b:Wk wy k0 r wi [] false):Sd (L r.kn) (k0.2-1) r.Bj:=by
 have g:wi≠[]:=λc=>by cases (b.se c).1
 have d:=b.gl;refine⟨λc=>g (Axy (by rw[d,c];rfl)),wi,d,?_,λi j e h f=>?_⟩
 ·cases wi with
  |nil=>grind
  |cons a wi=>have:=b.st a rfl;rw[this];simp
 ·let ⟨k,l,m,n,o,p⟩:=b.ok i j e h f nofun
  grind
theorem Ar8:∀a b,XF a b->cc b<=900*wt a b
 |0,_,h=>h.elim
 |a+1,b,h=>by
  have c:=Ed (a+1) b h;cases b with
  |op k l r=>have:=Ed a l (h.2.1 l (by simp[BK]));have:=Ed a r (h.2.1 r (by simp[BK]));simp[cc,wt];omega
  |case x bs=>simp[cc,wt];omega
  |_=>simp[cc];omega
def It(b:List Bx):Nat:=(b.map λa=>20*cb a.Bj+9*L a.Bj).sum
def mu(a:KU):Nat:=a.z+440*L a.kn+(a.td.map JN).sum
def pa(b:KU):List (Oy×Int):=b.gs.map (λc=>(c.Bo,c.BH))++b.td.map λa=>(a.1,(L a.2.1:Int))
structure Ru (b:Oy->Bool) (c e:List Oy) (d:List (Oy×Int)) (a:KU):Prop where
 kg:∀t,b t=true->t∈a.kn
 tk:∀t∈a.td,TK b t
 kp:c<+:a.kn
 kf:∀i t,L c<=i->a.kn[i]?=I t->Nw t i
 nn:a.kn=e++(pa a).map (·.1)
 ap:d<+:pa a
 gd:∀x∈a.gs,QN x.Bo/\0<=x.BH/\x.BH<=20/\x.exp=!Ce x.Bo/\Sd (L a.kn) x.BH x.Bj
 th:It a.gs+mu a<=1890000
theorem Ru.ca{q:List Oy}{A:List (Oy×Int)}{u:KU}(e:Ru wy q wq A u)(j:u.td=nt::wm):Ru wy q wq A (EA u)/\mu (EA u)+29<=mu u:=by
 have c:=e.tk nt (by simp[j]);have au:=e.th;have ao:mu u=u.z+440*L u.kn+(JN nt+(wm.map JN).sum):=by unfold mu;rw[j];rfl
 have al:=K8 nt.2.2;have ai:cc nt.2.2<=4100:=by cases nt.2.2<;>simp[cc]
 have av:=Ed 31 nt.2.2 c.f;have ah:=c.w;have aj:=Ar8 31 nt.2.2 c.f;have aq:JN nt=L nt.2.1+(900*wt 31 nt.2.2-(cc nt.2.2-220)):=rfl;obtain⟨a,g⟩:∃a,a=k0 u.kn wm u.z nt.2.1:=⟨_,rfl⟩;have ad:Cx a=u.z+L nt.2.1+440*L u.kn+(wm.map JN).sum:=by rw[g];simp[Cx,k0,cb]
 have B:a.Bn=(L nt.2.1:Int)+1:=by rw[g];rfl
 have s:EY a=nt.2.1:=by rw[g];exact Vb _ _ _
 have G:Wk wy (q,(L nt.2.1:Int)+1) a [] [] true:=by
  rw[g];exact⟨rfl,λk h x b=>O2,e.kg,λh b=>e.tk h (by rw[j];exact Awv _ b),e.kp,e.kf,λx H=>(by cases H),λ_=>⟨rfl,rfl⟩⟩
 have E:Pe wy nt.1 31 nt.2.2 a:=by
  refine⟨Ac _,c.f,by rw[s];exact c.g,by rw[s];exact c.l,O6,O1,O1,λh b=>?_,c.n⟩;rw[g]at b;obtain⟨k,af,ag,D⟩:=U7 _ _ _ h b;have:=c.l;rw[B,D];simp only[Bf];omega
 have k:=VW 31 nt.2.2 a [] [] G E O1;have K:=QC nt.1 31 nt.2.2 a;obtain⟨ae,i⟩:=k.w;have aw:=k.p;have d:EA u=⟨(kR nt.1 31 nt.2.2 a).kn,(kR nt.1 31 nt.2.2 a).td,u.gs++[⟨nt.1,(L nt.2.1:Int),!Ce nt.1,(kR nt.1 31 nt.2.2 a).Bj⟩],(kR nt.1 31 nt.2.2 a).z⟩:=by unfold EA Jt;rw[j,g]
 rw[Bb]at i;have o:=i.sd;generalize kR nt.1 31 nt.2.2 a=s1 at*;obtain⟨r,M,O⟩:=K;have ax:s1.td=wm++r:=by rw[M,g];rfl
 have v:s1.kn=u.kn++r.map (·.1):=by rw[O,g];rfl
 have an:1<=L s1.Bj:=Axd.2 o.1;have ak:(L s1.Bj)<=cb s1.Bj:=by
  have:=GO (f:=iy) (m:=1) (l:=s1.Bj) λh _=>by unfold iy;grind
  unfold cb;omega
 have ar:Cx s1=20*cb s1.Bj+9*L s1.Bj+mu (EA u):=by rw[d];unfold Cx mu;simp only;omega
 have am:It (EA u).gs=It u.gs+(20*cb s1.Bj+9*L s1.Bj):=by rw[d];simp[It]
 have t:pa (EA u)=pa u++r.map λnt=>(nt.1,(L nt.2.1:Int)):=by rw[d];unfold pa;grind
 refine⟨⟨by rw[d];exact i.kg,by rw[d];exact i.tk,by rw[d];exact i.kp,by rw[d];exact i.kf,?_,by rw[t];exact e.ap.trans (Aw2 _ _),λh b=>?_,O1⟩,O1⟩
 ·rw[t,AC,<-AG,<-e.nn,d];simp only;rw[v,A4];rfl
 ·rw[d]at b ⊢;rcases Ag.1 b with b|b
  ·obtain⟨U,Y,aa,ab,ac⟩:=e.gd h b;exact⟨U,Y,aa,ab,ac.up (by rw[v];simp)⟩
  ·obtain rfl:=Ax.1 b;have:=c.l;refine⟨c.n,O2,by simp only;omega,rfl,?_⟩;have y:(L nt.2.1:Int)+1-1=(L nt.2.1:Int):=O1;simp only[y]at o;exact o
theorem Ru.run{g:Oy->Bool}{j i:List Oy}{e:List (Oy×Int)}:∀c a,Ru g j i e a->mu a<=c->∃b,LH b a/\Ru g j i e (EE b a)/\(EE b a).td=[]
 |0,a,h,hn=>by
  cases ht:a.td with
  |nil=>exact⟨0,ht,h,ht⟩
  |cons t r=>have:=(h.ca ht).2;omega
 |c+1,a,h,hn=>by
  cases ht:a.td with
  |nil=>exact⟨0,ht,h,ht⟩
  |cons t r=>
   let ⟨k,u⟩:=h.ca ht
   let ⟨b,p,q,s⟩:=Ru.run c (EA a) k O1
   have n:=h.th;have v:29*L a.gs<=It a.gs:=by
    refine GO λd o=>?_;have w:=Axd.2 (h.gd d o).2.2.2.2.1;have:=GO (f:=iy) (m:=1) (l:=d.Bj) λd _=>by unfold iy;grind
    unfold cb;omega
   exact⟨b+1,⟨by unfold mu at n;omega,O1,p⟩,q,s⟩
theorem Ap9(a:Dd m=.ok sb):JV sb.2.1 sb.2.2=[]:=by
 unfold Dd at a;split at a
 ·cases a
 ·split at a
  ·cases a
  ·split at a
   ·rename_i hb
    cases a;exact((TQ _ N).2 hb).2
   ·cases a
theorem An3{Gn:Bs}:HQ Gn m=true↔m∈Gn.map (·.1):=Ls
theorem Ur(c:Dd m=.ok (w0,we,v0)){b:List DT}(e:b.map Df=v0){h:List (Oy×Int)}(l:h.Perm (we.map ia)):
 Ru (HQ (KW we v0)) (u0 h b).kn (h.map (·.1)) (b.map λa=>(a.1.1,(L a.2.2.1:Int))) (u0 h b):=by
 let ⟨M,U,q⟩:=OR c
 obtain⟨-,⟨Gn,j⟩,p⟩:=Qm q;have n:=Ap9 c;simp at j p n;have i:∀a∈b,Df a∈v0:=λa g=>e▸Axa g;have E:(L h)=L we:=by simpa using l.length_eq
 have z:(L b)=L v0:=O6;have s:∀a∈v0,6+nW a.2.1+wt 31 a.2.2<=dW v0:=λa e=>Hu (f:=λa:DD=>6+nW a.2.1+wt 31 a.2.2) e;refine⟨λt d=>?_,λt d=>?_,Ay0 _,λO t D d=>?_,?_,?_,λu o=>(by cases o),?_⟩
 ·rw[An3]at d;simp only[KW,AC,A4,Ag]at d;refine Ag.2 (d.imp (λc=>?_) λc=>?_)
  ·obtain⟨u,o,rfl⟩:=AE.1 c;exact AE.2 ⟨ia u,l.mem_iff.2 (Axa o),rfl⟩
  grind
 ·obtain⟨a,g,rfl⟩:=AE.1 d;let ⟨v,w⟩:=j.d _ (i a g)
  have k:=Bad.1 n _ (i a g);simp only[dF,Aze]at k;have x:=RP _ (Ai 20) k.1;have y:=s _ (i a g);have B:=GK a.2.2.1;simp only at y x;exact⟨.inl v,by simp[tk];omega,w,k.2,by simp only[tk,An];omega⟩
 ·grind
 ·simp[u0,pa,tk,Aw4]
 ·simp[u0,pa,tk,Aw4]
 ·have K:((b.map tk).map JN).sum+441*L b<=900*dW v0:=by
   rw[<-e];unfold dW;clear s i z p n j l e q c;induction b with
   |nil=>simp
   |cons a r ih=>
    have H:JN (tk a)<=L a.2.2.1+900*wt 31 a.2.2.2.2.1:=by unfold JN tk;simp
    have G:=GK a.2.2.1;grind
  simp only[It,mu,u0,Axs,List.sum_nil,Aw,An];omega
theorem Ru.any{d:Oy->Bool}{f e:List Oy}{c:List (Oy×Int)}:∀b a,Ru d f e c a->LH b a->Ru d f e c (EE b a)/\(EE b a).td=[]
 |0,_,h,k=>⟨h,k⟩
 |b+1,a,h,k=>by
  refine Ru.any b (EA a) ?_ k.2.2;cases ht:a.td with
  |nil=>rw[show EA a=a by unfold EA;rw[ht]];exact h
  |cons t r=>exact(h.ca ht).1
theorem Sd.Ly(c:Sd w D wl){b:BJ}(e:b∈wl)(j:b.op=1):0<=b.a/\b.a<(w:Int):=by
 obtain⟨-,i,l,-,c⟩:=c;obtain⟨g,f,rfl⟩:=AQ e;obtain⟨h,d,-⟩:=c g _ _ (Af f) (Af O1);have k:=d.2;grind
theorem Amg(i:Dd m=.ok (w0,we,v0)):ZC we v0:=λg k p n=>by
 obtain⟨b,q,a,-⟩:=Ru.run _ _ (Ur i k n) .refl;have d:=a.th;have s:(EE b (u0 p g)).kn.length<=10000:=by unfold mu at d;omega
 have o:=congrArg L a.nn;simp[pa]at o;refine⟨b,q,O1,O1,O1,λh c=>⟨?_,λt l j=>(a.gd h c).2.2.2.2.Ly l j⟩⟩;have r:=Hu (f:=λe:Bx=>20*cb e.Bj+9*L e.Bj) c;unfold It at d;omega
theorem TU(a:Nat):(Lib.decDigits a).foldl (λb c=>b*10+(c.toNat-48)) 0=a:=by
 induction a using Nat.strongRecOn with
 |ind a ih=>
  rw[Lib.decDigits];split
  ·simp;omega
  ·rw[Azs,ih (a / 10) O1];simp;omega
theorem Are(a:Lib.itoa (w:Int)=Lib.itoa (s:Int)):w=s:=by
 rw[Lib.itoa_nonneg,Lib.itoa_nonneg]at a;rw[<-TU w,a,TU]
theorem Xx{b:UInt8}:∀{a e c f:List UInt8},b∉a->b∉c->a++b::e=c++b::f->e=f
 |[],_,[],_,_,_,h=>by cases h;rfl
 |[],_,z::c,_,_,hx,h=>O6
 |z::a,_,[],_,ha,_,h=>O6
 |z::a,_,w::c,_,ha,hx,h=>Xx (λd=>ha (Awv _ d)) (λd=>hx (Awv _ d)) (List.cons.inj h).2
theorem Nw.inj(a:Nw m w)(d:Nw m s):w=s:=by
 let ⟨h,b,c⟩:=a
 let ⟨g,e,f⟩:=d
 exact Are (Xx (J8 b).2.1 (J8 e).2.1 (c.symm.trans f))
theorem Nw.no(a:Nw m w):¬CQ m=true:=λc=>by
 let ⟨e,d,b⟩:=a
 exact(J8 c).2.1 (by rw[b];simp)
theorem Ru.nodup(e:Ru wy f wq O n9)(q:f.Nodup)(s:∀h∈f,CQ h=true):n9.kn.Nodup:=by
 let ⟨v,r⟩:=e.kp
 refine Ayg.2 λd a u o m t=>?_;have c:=Af o;have b:n9.kn[d]?=I n9.kn[a]:=O6;generalize n9.kn[a]=h at b c;by_cases p:(L f)<=a
 ·have g:=e.kf a _ p c;by_cases n:(L f)<=d
  ·have:=(e.kf d _ n b).inj g;omega
  ·refine g.no (s _ ?_);grind
 ·rw[<-r,A8 O1]at b c;let ⟨i,j⟩:=AK.1 b
  let ⟨k,l⟩:=AK.1 c
  exact Ayg.1 q d a i k m (j.trans l.symm)
theorem Sd.re(q:Sd w D wl)(E:(L f)=w)(x:∀e∈f,e∈wq)(G:(L wq)=w):Sd w D (wl.map (EI f wq)):=by
 let ⟨r,p,s,t,u⟩:=q
 refine⟨by simpa using r,p,by simpa using s,t,λB H o n v=>?_⟩;rw[Awt]at n;obtain⟨g,z,rfl⟩:=AB.1 n;let ⟨h,d,i,j,k,l⟩:=u B g o z v
 unfold EI;split
 ·rename_i c
  have b:=d.2;rw[c]at b;have y:f.getD g.a.toNat ⟨#[]⟩∈wq:=by
   have:g.a.toNat<L f:=by have:=b.1;have:=b.2.1;omega
   rw[Azj,Af this];exact x _ (Ao this)
  have:=Zt y;refine⟨h,?_,i,j,k,λe m=>l e ?_⟩
  ·simp only;rw[c];exact⟨d.1,this.1,O1,b.2.2⟩
  ·simp[sc,c]at m ⊢;exact m
 ·exact⟨h,d,i,j,k,l⟩
theorem Ar0(a:Ik w s D nf sx)(j:w<=65535):s<21/\(s≠0->0<=D/\D<=65535)/\GJ s D nf=false/\sx=nf+C8 s D:=by
 let ⟨e,a⟩:=a
 split at a;case h_16=>
  obtain⟨d,c,rfl,f,g,h,i⟩:=a;have b:((d:Int)*256+c) % 256=c:=O1;refine⟨O1,λ_=>O1,?_,?_⟩
  ·simp[GJ,DC,C8,b];omega
  ·simp[C8,b];omega
 all_goals first
  |exact a.elim
  |(refine⟨O1,λ_=>O1,?_,?_⟩
    ·simp[GJ,DC,C8];omega
    ·simp[C8];omega)
theorem WP:∀b (c:List Nat),c.Nodup->(∀d∈c,d<b)->L c<=b
 |0,[],_,_=>Ac _
 |0,a::_,_,h=>absurd (h a O2) nofun
 |b+1,c,hd,h=>by
  have:=WP b (c.erase b) (hd.erase b) λd e=>by
   grind
  grind
theorem Sd.ff(B:Sd w D wl)(ap:w<=65535)(ao:(L wl)<=65535)(G:0<=D/\D<=20):(∃h,Sg wl D h)/\(∀e∈wl,∃b,Fg e b)/\(∀e∈wl,-9223372036854775808<=e.a/\e.a<=9223372036854775807)/\∀e∈wl,e.op=1->e.a<(w:Int):=by
 obtain⟨ak,h,al,aa,ab⟩:=B;have H:∀{f n},h[f]?=I n->h.getD f 0=n:=λB=>by rw[Azj,B];rfl
 have E:∀a (p:a<L wl),∃b:Nat,Fg wl[a] b/\(-9223372036854775808<=wl[a].a/\wl[a].a<=9223372036854775807)/\(b=1->wl[a].a<(w:Int))/\(b≠0->0<=wl[a].a/\wl[a].a<=65535)/\0<=h.getD a 0/\h.getD a 0<=1000/\GJ b wl[a].a (h.getD a 0)=false/\(FH b wl[a].a wl[a].alts a).length<=256/\∀j∈FH b wl[a].a wl[a].alts a,∃c:Nat,j=c/\c<L wl/\h.getD c 0=h.getD a 0+C8 b wl[a].a:=λa p=>by
  obtain⟨n,ad⟩:∃n,h[a]?=I n:=⟨_,Af O1⟩;obtain⟨ag,f,ar,r,m,ae⟩:=ab a wl[a] n (Af p) ad;rw[H ad];have M:∀c∈sc wl[a] a,c<L wl/\h.getD c 0=ag:=λc q=>⟨by have:=(AK.1 (ae c q)).1;omega,H (ae c q)⟩;obtain⟨b,K⟩:=A7 ar;obtain⟨e,u⟩:∃e,wl[a]=e:=⟨_,rfl⟩;rw[u]at f r m M K ⊢;obtain⟨a5,s,t⟩:=e;simp only at f r m K ⊢;subst K;rw[Bd]at f;obtain⟨av,O,aw,ax⟩:=Ar0 f ap;have au:∀j∈FH b s t a,∃c:Nat,j=c/\c∈sc ⟨b,s,t⟩ a:=λj i=>by
   unfold FH at i;unfold sc;simp only;split at i
   ·cases i
   ·rename_i af
    rw[if_neg af];split at i
    ·rename_i z
     rw[if_pos z];have:=O O1;exact⟨s.toNat,by rw[Ax.1 i];omega,O2⟩
    ·rename_i z
     rw[if_neg z];split at i
     ·rename_i v
      rw[if_pos v];obtain⟨g,hb,rfl⟩:=AE.1 i;have:=(m v).2.2 g hb;exact⟨g.BU.toNat,O1,AE.2 ⟨g,hb,rfl⟩⟩
     ·rename_i v
      rw[if_neg v];exact⟨a+1,by rw[Ax.1 i];omega,O2⟩
  have ac:(L t)<=256:=by
   by_cases d:(b:Int)=17
   ·obtain⟨a6,ay,U⟩:=m d;have az:=WP 256 (t.map λg=>g.tag.toNat) (by
     refine Ax8.2 ((Ax8.1 ay).imp_of_mem fun {s g} G hb hne he=>hne ?_);have:=U s G;have:=U g hb;omega) λc q=>by
     obtain⟨g,hb,rfl⟩:=AE.1 q;have:=U g hb;omega
    rwa[An]at az
   ·rw[r d];simp
  have aq:b≠17->t=[]:=λd=>r O1;refine⟨b,⟨rfl,av,aq,ac,?_,?_,λg hb=>?_⟩,?_,λd=>?_,O,f.1.1,f.1.2.1,aw,?_,λj i=>?_⟩
  ·have x:=f.2;simp only;split at x;case h_16=>
    obtain⟨c,b,rfl,al,aa,ab,E⟩:=x;simp[J1,JE,BP,FO];omega
   case h_18=>exact .inr ⟨O4,.inr ⟨O4,x.1,λ_=>(m rfl).1⟩⟩
   all_goals first
    |exact x.elim
    |(simp[J1,JE,BP,FO];done)
    |(have:=f.1;simp[J1,JE,BP,FO];omega)
  ·by_cases d:(b:Int)=17
   ·exact Ax8.1 (m d).2.1
   ·simp only;rw[r d];simp
  ·by_cases d:(b:Int)=17
   ·have a7:=(m d).2.2 g hb;have:=(M g.BU.toNat (by unfold sc;simp only;rw[if_neg O1,if_neg O1,if_pos d];exact Axa hb)).1;omega
   ·simp only at hb;rw[r d]at hb;cases hb
  ·by_cases d:b=0
   ·subst d;have:=f.2;exact⟨this.1,by have:=this.2.1;omega⟩
   ·have:=O d;omega
  ·subst d;exact f.2.2.1
  ·unfold FH;split
   ·simp
   ·split
    ·simp
    ·split
     ·simpa using ac
     ·simp
  ·obtain⟨c,rfl,q⟩:=au j i;obtain⟨am,an⟩:=M c q;exact⟨c,rfl,am,by rw[an,ax]⟩
 refine⟨⟨h,Axd.2 ak,ao,G,H aa,λa p=>?_⟩,λe u=>?_,λe u=>?_,λe u d=>?_⟩
 ·obtain⟨b,k,-,-,y,Y,a0,a1,a2,a3⟩:=E a p;have a4:=Ar7 b wl[a].a k.l y;refine⟨b,k.o,k.l,y,k.a,Y,a0,a1,a2,λj i=>?_⟩;obtain⟨c,ah,ai,aj⟩:=a3 j i;exact⟨c,ah,ai,aj,O1,O1⟩
 all_goals
  obtain⟨a,p,rfl⟩:=AQ u;obtain⟨b,k,y,Y,-⟩:=E a p
 ·exact⟨b,k⟩
 ·exact y
 ·exact Y (by have:=k.o;omega)
theorem Aar:∀a b,b<10 ^ (a+1)->(Lib.decDigits b).length<=a+1/\∀d∈Lib.decDigits b,GN d.toNat=true
 |a,b,h=>by
  have g:∀c,c<10->GN ((UInt8.ofNat (48+c)).toNat)=true:=λc i=>by
   have:(48+c) % 256=48+c:=O1;simp[GN,M7,this];omega
  rw[Lib.decDigits];split
  ·grind
  ·cases a with
   |zero=>omega
   |succ a=>
    let ⟨e,f⟩:=Aar a (b / 10) O1
    grind
theorem Qw(a:CQ m=true):CO m=true:=by
 rw[<-VM]at a;grind
theorem Nw.nm{t:Oy}(i:Nw t w)(m:w<10000):CO t=true:=by
 let ⟨d,f,e⟩:=i
 have l:=(J8 f).2.2;have g:=Qw f;let ⟨k,h⟩:=Aar 3 w O1
 rw[Lib.itoa_nonneg]at e;have n:t.size=d.size+((Lib.decDigits w).length+1):=by
  show t.data.size=d.data.size+_;rw[<-Ax5,e];simp
 simp only[CO,Bh,decide_eq_true_eq,FZ,Axk]at g ⊢;let ⟨⟨⟨o,p⟩,q⟩,j⟩:=g
 refine⟨⟨⟨O1,O1⟩,?_⟩,λc b=>?_⟩
 ·cases hw:d.data.toList with
  |nil=>have:(L d.data.toList)=d.size:=Ax5;grind
  |cons a r=>grind
 ·rw[e]at b;rcases Ag.1 b with b|b
  ·exact j c b
  ·rcases AX.1 b with rfl|b
   ·decide
   ·exact h c b
theorem Ru.at(b:Ru wy f wq O n9){a:Oy}(g:a∈n9.kn):a∈f\/∃i,i<L n9.kn/\Nw a i:=by
 let ⟨i,d,e⟩:=AQ g
 rcases Aw8 i (L f) with c|c
 ·let ⟨j,h⟩:=b.kp
  grind
 ·exact .inr ⟨i,d,b.kf i a c O6⟩
theorem Ru.nm{d:Oy->Bool}{c g:List Oy}{A:List (Oy×Int)}{u:KU}(b:Ru d c g A u)(f:∀t∈c,CQ t=true){t:Oy}(e:t∈u.kn):CO t=true:=by
 rcases b.at e with a|⟨i,h,a⟩
 ·exact Qw (f t a)
 ·have:=b.th;unfold mu at this;exact a.nm O1
theorem Aaa(b:Cy m w0<=0)(a:m≠w0):Cy m w0<0:=by
 have:=mt (KQ m w0).1 a;omega
theorem Agx(b:CO m=true):Cy ⟨#[]⟩ m<0:=by
 have c:0<m.size:=by simp[CO,decide_eq_true_eq]at b;omega
 let ⟨⟨d⟩⟩:=m
 cases d with
 |nil=>simp[ByteArray.size]at c
 |cons a r=>simp[Cy,Lib.compareBytes]
theorem WK{f:wa->Oy}{b:List wa}(g:b.Pairwise λd e=>Cy (f d) (f e)<0)(h:∀i∈b,CO (f i)=true)(a:Nat)(c:a<L b):Fc (f b[a]) (IC (b.map f) a)=true:=by
 rw[Og];cases a with
 |zero=>exact Agx (h _ (Ao c))
 |succ a=>
  rw[<-NJ O1];exact Ayg.1 g a (a+1) O1 c .refl
theorem Apz(a:Fg wv w):zz wv<=iy wv:=by
 have b:=a.l;unfold zz iz iy;rw[a.o,Bd];clear a;rcases Nd w b with rfl|rfl|rfl|rfl|rfl|rfl|rfl|rfl|rfl|rfl|rfl|rfl|rfl|rfl|rfl|rfl|rfl|rfl|rfl|rfl|rfl;all_goals simp[J1,JE,BP,FO]
theorem Apk{O:BD}(h:∀g∈O.Bv,∀c∈g.Bj,∃d,Fg c d):fz O<=25+18*L O.BG+22*L O.Bv+(O.Bv.map λg=>cb g.Bj).sum:=by
 have i:=Mo (f:=gz) (g:=λg=>22+cb g.Bj) λg j=>by
  have:=Mo (f:=zz) λc l=>by let ⟨d,k⟩:=h g j c l;exact Apz k
  unfold gz cb;omega
 have e:∀b:List Bx,(b.map λg=>22+cb g.Bj).sum=22*L b+(b.map λg=>cb g.Bj).sum:=λb=>by
  induction b with
  |nil=>rfl
  |cons a r ih=>grind
 rw[e]at i;unfold fz;omega
structure W6 (e:List IT) (c:List DD) (b:BD):Prop where
 g:Gd b
 r:∀g∈b.Bv,∀x∈g.Bj,-9223372036854775808<=x.a/\x.a<=9223372036854775807
 l:(L b.BG)+L b.Bv<10000
 f:fz b+4<=100000
 il:(L b.BG)=L e
 ii:∀x∈e,(⟨x.1.1,(x.2:Int)⟩:Dv)∈b.BG
 no:∀g∈b.Bv,g.exp=false->Ce g.Bo=true
 ex:∀g∈b.Bv,g.exp=true->∃d∈c,d.1.1=g.Bo/\(L d.2.1:Int)=g.BH
 n:b.Bv.countP (·.exp)=L c
theorem Af9(b c:List Oy)(a:BJ):iy (EI b c a)=iy a:=by
 unfold EI;split
 ·rfl
 ·rfl
theorem WF:∀b:List Bx,20*(b.map λa=>cb a.Bj).sum<=It b
 |[]=>Ac _
 |a::r=>by
  have:=WF r;simp[It]at this ⊢;omega
theorem Nw.has(a:Nw m w):Ce m=true:=by
 obtain⟨b,-,a⟩:=a;simp[Ce,a]
theorem Qu(a:CQ m=true):Ce m=false:=by
 have:=(J8 a).2.1;simp only[Ce,Ax9,beq_iff_eq];grind
theorem Yi{aN:Oy}{l:List (Oy×Int)}{E:List Oy}(e:Dd aN=.ok (w0,we,v0))(G:wc.map Df=v0)(m:J0 w we wc n p y l n9 E nc):W6 we v0 ⟨w0,BZ l,(nc.map (C9 n9.kn (n9.kn.take (L l)++E))).map Cn⟩:=by
 obtain⟨aW,aX,a6⟩:=OR e;obtain⟨al,⟨Gn,q⟩,-⟩:=Qm a6;obtain⟨av,ay,az⟩:=m.r;obtain⟨k,an⟩:=Ru.any av _ (Ur e G m.lp) ay;rw[az]at k an;simp only at q al;have aj:(u0 l wc).kn.Perm (Gn.map (·.1)):=by
  rw[q.gn];refine List.Perm.append ?_ ?_
  ·have:=m.lp.map (·.1);simpa[ia,Aw4]using this
  ·rw[<-G,A4];exact .refl _
 have ac:∀g∈(u0 l wc).kn,CQ g=true:=λg i=>by
  have:=aj.mem_iff.1 i;rw[q.gn]at this;rcases Ag.1 this with e|e
  ·obtain⟨b,d,rfl⟩:=AE.1 e;exact(q.i b d).1
  ·obtain⟨b,d,rfl⟩:=AE.1 e;exact(q.d b d).1
 have ak:=k.nodup (aj.nodup_iff.2 q.nd) ac;have H:pa n9=n9.gs.map λb=>(b.Bo,b.BH):=by unfold pa;rw[an];simp
 have u:=k.nn;rw[H,A4]at u;have u:n9.kn=l.map (·.1)++n9.gs.map (·.Bo):=u;have aT:(L n9.kn)=L l+L n9.gs:=by rw[u];simp
 have a9:=k.th;have aV:440*L n9.kn<=mu n9:=by unfold mu;omega
 have aR:(L nc)=L n9.gs:=by simpa using m.gp.length_eq
 have aa:(n9.kn.take (L l)++E).Perm n9.kn:=by
  have:=(Baf (n9.kn.take (L l))).append m.sp;rwa[Axq]at this
 obtain⟨j,a8⟩:∃j,j=n9.kn.take (L l)++E:=⟨_,rfl⟩;rw[<-a8]at aa ⊢;rw[u,AY]at ak;obtain⟨aH,aI,aJ⟩:=ak;have aS:((nc.map (C9 n9.kn j)).map Cn).map (·.Bo)=(nc.map Cn).map (·.Bo):=by simp[Cn,C9,Aw4]
 have a3:=m.gp.map (·.Bo);have t:∀c∈(nc.map (C9 n9.kn j)).map Cn,CO c.Bo=true/\0<=c.BH/\c.BH<=20/\c.exp=!Ce c.Bo/\(c.Bo,c.BH)∈pa n9/\(∃r,Sg c.Bj c.BH r)/\(∀b∈c.Bj,∃m,Fg b m)/\(∀b∈c.Bj,-9223372036854775808<=b.a/\b.a<=9223372036854775807)/\∀b∈c.Bj,b.op=1->b.a<(L n9.kn:Int):=λc h=>by
  obtain⟨D,x,rfl⟩:=AE.1 h;obtain⟨b,d,rfl⟩:=AE.1 x;have K:=m.gp.mem_iff.1 (Axa d);obtain⟨-,aq,ar,aK,aL⟩:=k.gd _ K;have a0:=aL.re rfl (λg i=>aa.mem_iff.2 i) aa.length_eq;have a1:(Cn (C9 n9.kn j b)).Bj=(Cn b).Bj.map (EI n9.kn j):=by simp[Cn,C9,E1,Aw4]
  have ag:=Hu (f:=λb:Bx=>20*cb b.Bj+9*L b.Bj) K;have aP:=GO (f:=iy) (m:=1) (l:=(Cn b).Bj) λb _=>by unfold iy;split;omega;split;omega;split<;>omega
  have aQ:(Cn b).Bj.length<=cb (Cn b).Bj:=by unfold cb;omega
  unfold It at a9;have a7:((Cn b).Bo,(Cn b).BH)∈pa n9:=by rw[H];exact AE.2 ⟨_,K,rfl⟩
  have ah:=a0.ff O1 (by rw[An];omega) ⟨aq,ar⟩;rw[<-a1]at ah;exact⟨k.nm ac (by rw[u];exact Ag.2 (.inr (AE.2 ⟨_,K,rfl⟩))),aq,ar,aK,a7,ah⟩
 have a5:∀b∈l,∃D∈we,ia D=b:=λb d=>AE.1 (m.lp.mem_iff.1 d);have ai:∀b∈BZ l,CO b.Bo=true/\0<=b.BH/\b.BH<=20:=λb d=>by
  obtain⟨D,x,rfl⟩:=AE.1 d;obtain⟨au,ad,rfl⟩:=a5 D x;obtain⟨B,M⟩:=q.i au ad;exact⟨Qw B,by simp[ia],by simp only[ia];omega⟩
 obtain⟨aM,ab⟩:=k.ap;have am:∀g∈aM.map (·.1),∃z,Nw g z:=λg i=>by
  obtain⟨aC,a4,rfl⟩:=AQ i;refine⟨_,k.kf ((u0 l wc).kn.length+aC) _ O1 ?_⟩;rw[k.nn,<-ab,AC,<-AG];have s:l.map (·.1)++(wc.map λr=>(r.1.1,(L r.2.2.1:Int))).map (·.1)=(u0 l wc).kn:=by simp[u0,Aw4]
  rw[s,Bi O1];simp only[Ay8];exact Af a4
 refine⟨⟨Qw al,ai,λae Y=>WK (f:=Dv.Bo) ?_ (λb d=>(ai b d).1) ae Y,λc h=>?_,λae Y=>WK (f:=Bx.Bo) ?_ (λb d=>(t b d).1) ae Y⟩,λc h=>(t c h).2.2.2.2.2.2.2.1,by simp only[BZ,An];omega,?_,by simpa[BZ]using m.lp.length_eq,λb d=>AE.2 ⟨ia b,m.lp.mem_iff.2 (Axa d),rfl⟩,λc h U=>?_,λc h U=>?_,?_⟩
 ·exact Ax8.2 ((m.ls.and (Ax8.1 aH)).imp λe=>Aaa e.1 e.2)
 ·obtain⟨B,M,ao,-,o,aF,aG,-,aD⟩:=t c h;refine⟨B,M,ao,λD x=>?_,aG,aF,λz v ag=>?_⟩
  ·obtain⟨au,ad,rfl⟩:=AE.1 x;rw[H]at o;obtain⟨aO,aB,s⟩:=AE.1 o;exact aJ _ (Axa ad) _ (AE.2 ⟨aO,aB,congrArg Prod.fst s⟩)
  ·have:=aD z v ag;simp only[BZ,An];omega
 ·have:=a3.nodup_iff.2 aI;rw[A4]at this;exact Ax8.2 (Ax8.2 ((m.gz.and (Ax8.1 this)).imp λe=>Aaa e.1 e.2))
 ·have B:=Apk (O:=⟨w0,BZ l,(nc.map (C9 n9.kn j)).map Cn⟩) λc h=>(t c h).2.2.2.2.2.2.1;have M:(((nc.map (C9 n9.kn j)).map Cn).map λc=>cb c.Bj).sum=(n9.gs.map λc=>cb c.Bj).sum:=by
   rw[<-(m.gp.map λc=>cb c.Bj).sum_nat];simp[Cn,C9,E1,cb,Aw4,Af9]
  have ao:=WF n9.gs;have aE:(BZ l).length=L l:=by simp[BZ]
  simp only[aE,An,M]at B;omega
 ·have:=(t c h).2.2.2.1;rw[U]at this;simpa using this.symm
 ·obtain⟨-,-,-,af,o,-⟩:=t c h;rw[U]at af;rw[<-ab]at o;rcases Ag.1 o with o|o
  ·obtain⟨r,a2,s⟩:=AE.1 o;exact⟨Df r,G▸Axa a2,congrArg Prod.fst s,congrArg Prod.snd s⟩
  ·obtain⟨z,v⟩:=am c.Bo (AE.2 ⟨_,o,rfl⟩);rw[v.has]at af;cases af
 ·have aw:((nc.map (C9 n9.kn j)).map Cn).countP (·.exp)=(nc.map Cn).countP (·.exp):=by simp[List.countP_map,Cn,C9,Aw4]
  have ax:n9.gs.countP (·.exp)=((pa n9).map (·.1)).countP λg=>!Ce g:=by
   rw[H,A4,List.countP_map];exact List.countP_congr λb d=>by simp[(k.gd b d).2.2.2.1]
  show((nc.map (C9 n9.kn j)).map Cn).countP (·.exp)=_;rw[aw,m.gp.countP_eq,ax,<-ab,AC,List.countP_append,List.countP_eq_length.2,List.countP_eq_zero.2,<-G]
  ·simp
  ·intro g i;obtain⟨z,v⟩:=am g i;simp[v.has]
  ·intro g i;rw[A4]at i;rw[Qu (ac g (Ag.2 (.inr i)))];rfl
theorem NE(e:n.ownsRow 0 w s p b wj):∃f c,p=W f b c/\∀i,i<b->∃d,f=I ⟨d,0,N⟩/\∀a,a<b*s->n.cell? ⟨d,a,N⟩=wj[a]?:=by
 rcases Bac b with rfl|h
 ·obtain⟨f,c,rfl⟩:=Cf e;simp
 ·obtain⟨d,c,rfl,-,-⟩:=World.ownsRow.form e h;exact⟨_,c,rfl,λ_ _=>⟨d,rfl,λa g=>e.cellAt a g⟩⟩
theorem Asy(g:n.ownsRow 0 184 2 p (L na) (na.flatMap Gs))(j:(L na)<=65535):GC n p na:=by
 obtain⟨i,e,rfl,h⟩:=NE g;refine⟨i,e,rfl,by unfold short;omega,λc b=>?_⟩;obtain⟨f,rfl,d⟩:=h c b;refine⟨f,0,rfl,?_⟩;rw[Bg,d _ O1,d _ O1];exact K2 (λa:Co=>Value.int C a.tag) (λa=>Value.int C a.BU) na c b
theorem Ap1(k:(cA p vl).h n)(l:(aA vl).h n)(r:(L vl)<=65535)(m:∀b∈vl,L b.1.alts<=65535):Fy n p (vl.map (·.1)):=by
 obtain⟨q,f,rfl,o⟩:=NE k;refine⟨q,f,O2,by unfold short;simp;omega,λd c=>?_⟩;rw[An]at c;obtain⟨j,rfl,e⟩:=o d c;refine⟨j,0,vl[d].2,rfl,?_⟩;let ⟨g,h,i⟩:=Pk (λb:BJ×X=>Value.int C b.1.op) (λb=>Value.int C b.1.a) (λb=>b.2) vl d c
 rw[Bg,e _ O1,e _ O1,e _ O1,AN];exact⟨g,h,i,Asy (l _ (Ao c)) (m _ (Ao c))⟩
theorem YC{s:Q}(k:Sp w s (gA y nc::(gL nc++[pA 94 2 p (L O) (O.flatMap D1)])))(o:Gd ⟨m,BZ O,nc.map Cn⟩)(K:(L O)+L nc<10000):Fv s (T #[S m,p,y]) ⟨m,BZ O,nc.map Cn⟩:=by
 refine⟨p,y,rfl,by have:=Si o.n;unfold maxLen;omega,?_,?_⟩
 ·obtain⟨r,g,rfl,q⟩:=NE (k.mem (A:=pA 94 2 p (L O) (O.flatMap D1)) O2);refine⟨r,g,by simp[BZ],by unfold short;simp[BZ];omega,λc f=>?_⟩;have l:=Si (o.i _ (Ao f)).1;have e:c<L O:=by simpa[BZ]using f
  obtain⟨j,rfl,d⟩:=q c e;refine⟨j,0,rfl,?_⟩;let ⟨h,i⟩:=K2 (λb:Oy×Int=>Value.string b.1) (λb=>Value.int C b.2) O c e
  rw[Bg,d _ O1,d _ O1];simp[BZ]at l ⊢;exact⟨h,i,by unfold maxLen;omega⟩
 ·obtain⟨r,g,rfl,q⟩:=NE (k.mem (A:=gA y nc) O2);refine⟨r,g,O2,by unfold short;simp;omega,λc f=>?_⟩;obtain⟨G,-,-,-,u,⟨_,H⟩,-⟩:=o.g _ (Ao f);have l:=Si G;have e:c<L nc:=by simpa using f
  obtain⟨j,rfl,d⟩:=q c e;refine⟨j,0,nc[c].cv,rfl,?_⟩;let ⟨h,i,x,z⟩:=U4 (λb:GG=>Value.string b.nm) (λb=>Value.int C b.ar) (λb=>Value.bool b.ex) (λb=>b.cv) nc c e
  rw[Bg,d _ O1,d _ O1,d _ O1,d _ O1];have t:∀A∈[cA nc[c].cv nc[c].cs,aA nc[c].cs],A.h s:=λA B=>k.mem (Awv _ (Ag.2 (.inl (AU.2 ⟨_,Ao e,B⟩))));have v:=H.m;simp only[AN,Cn,An]at l u v ⊢;exact⟨h,i,x,z,Ap1 (t _ O2) (t (aA nc[c].cs) (Awv _ (Aw3 ..))) v λb E=>by
   let ⟨M,D⟩:=u b.1 (Axa E)
   have:=D.a;omega,by unfold maxLen;omega⟩
def Ia(a:List UInt8):Oy:=⟨(a++K4 (Lp a)).toArray⟩
theorem Af3(a:List UInt8):(Ia a).size=L a+4:=by
 show(a++K4 (Lp a)).toArray.size=_;simp[K4]
theorem An2(a:List UInt8):(Ia a).extract 0 (L a)=⟨a.toArray⟩/\(Ia a).extract (L a) (L a+4)=KL ⟨a.toArray⟩:=by
 constructor
 ·apply Axv;simp[Ia,List.extract]
 ·apply Axv;simp[Ia,KL,List.extract,K4]
structure Ob (c:Oy) (b:List (Oy×Int)) (a:List Bx):Prop where
 i:Oi c b a
 g:Gd ⟨c,BZ b,a⟩
 n:(L b)+L a<10000
 s:∀x∈a,So ((L b:Int)+(L a:Int)) x
 z:(oU c b a).length<=99996
def GY(h:Nat)(j:Q)(nm:Oy)(b:List (Oy×Int))(g:List Bx)(i:X):Prop:=∃(f d:Option Addr) (e c:Nat) (a:List GG),i=T #[S nm,W f (L b) e,W d (L a) c]/\a.map Cn=g/\Sp h j (gA (W d (L a) c) a::(gL a++[pA 94 2 (W f (L b) e) (L b) (b.flatMap D1)]))
theorem GY.bG{c:Nat}{w e:Q}{nm:Oy}{b:List (Oy×Int)}{a:List Bx}{d:X}(j:GY c w nm b a d)(hb:Ow w e):GY c e nm b a d:=by
 let ⟨n,h,m,g,i,f,k,l⟩:=j
 exact⟨n,h,m,g,i,f,k,l.bG hb⟩
theorem GY.cell{b j:Nat}{u:X}(h:GY w n m O i p)(hb:b<w):GY w (n.setCell ⟨b,j,N⟩ u) m O i p:=by
 let ⟨q,f,o,e,g,d,k,a⟩:=h
 exact⟨q,f,o,e,g,d,k,a.fr O2 λc l=>AA _ _ _ _ (show c≠b by have:=(a.rg c l).1;omega)⟩
theorem GY.at{d:Nat}{w:Q}(b:GY d w m O i p)(a:Ob m O i):Fv w p ⟨m,BZ O,i⟩:=by
 obtain⟨k,f,j,e,h,rfl,rfl,c⟩:=b;have:=a.n;rw[An]at this;exact YC c a.g this
theorem Sp.left{M:List As}(a:Sp w n (wg++M)):Sp w n wg:=
 ⟨a.z,λb c=>a.h b (Ad _ c),by have:=a.nd;simp[fp,AH,AY]at this;exact this.1,λe d=>a.rg e (by simp only[fp,AH,Ag];exact .inl d)⟩
theorem Ai8(a:Q)(b:List UInt8):Bz a.heap.size a [] (a.alloc (.cells #[S ⟨b.toArray⟩,V C 0] 178)) [eA a.heap.size ⟨b.toArray⟩ b]:=by
 exact(Sp.ca ⟨Ac _,λ_ c=>(by cases c),by simp[fp],λ_ c=>by cases c⟩).box _ rfl ⟨0,⟨Ai _,rfl⟩,⟨O2,O2,O2⟩⟩
theorem GY.of{lo:Nat}{nm:Oy}{r:List UInt8}(a:Sp lo n (gA (W vr (L nc) b) nc::(gL nc++[pA 94 2 (W U (L O) s) (L O) (O.flatMap D1),eA w m r])))(c:nc.map Cn=i):GY lo n nm O i (T #[S nm,W U (L O) s,W vr (L nc) b]):=by
 refine⟨U,vr,s,b,nc,rfl,c,Sp.left (M:=[eA w m r]) ?_⟩;simpa using a
theorem Aok{a:Q}(b:Ob m O i)(d:GY w a m O i p)(g:CJ a):Az Aa 66 #[p] a λc j=>c=F .nilIface/\Ow a j:=by
 obtain⟨o,k,rfl,-,f,e⟩:=d.at b;have l:=b.n;have h:(BZ O).length=L O:=by simp[BZ]
 exact Adm g f e (h▸b.s) O6
theorem Aeq{w:Q}{nm:Oy}{l:List (Oy×Int)}{gl:List Bx}(x:CJ w)(aE:24<w.heap.size)(ad:Ob nm l gl):Az Aa 33 #[S (Ia (oU nm l gl))] w λr ak=>∃(d b:Option Addr) (c a ac:Nat),r=F (R #[T #[S nm,W d (L l) c,W b ac a],.nilIface])/\(∃lo,w.heap.size<=lo/\GY lo ak nm l gl (T #[S nm,W d (L l) c,W b ac a]))/\Ow w ak:=by
 have an:=O0 ad;obtain⟨ai,ah,aN,aj,aO⟩:=ad;have a2:4<=(oU nm l gl).length:=by simp[oU]
 obtain⟨aw,ax⟩:=An2 (oU nm l gl);have ay:=Af3 (oU nm l gl);have am:=O0 λa3=>(Ae w.heap.size w).alloc (Ac _) a3;have ao:=O0 (Aw6 ai (Aw6 ah aj));generalize hbs:oU nm l gl=bs at*;have aD:(⟨bs.toArray⟩:Oy).size=L bs:=rfl;have ab:=O0 (λw=>Yz ⟨bs.toArray⟩ w O1);have B:=O0 hbs;have aK:¬(100000:Int)<((Ia bs).size:Int):=O1;have aL:4<=L bs:=a2;generalize Ia bs=s at*;have a0:((s.size:Int)-4).toNat=L bs:=O1;have aB:(0:Int)<=(s.size:Int)-4:=O1;have aC:(s.size:Int)-4<=(s.size:Int):=O1;have a1:s.size-4=L bs:=O1;have h:O9 ((s.extract 0 (s.size-4)=⟨bs.toArray⟩/\s.extract 0 ((s.size:Int)-4).toNat=⟨bs.toArray⟩)/\s.extract (s.size-4) s.size=KL ⟨bs.toArray⟩/\s.extract ((s.size:Int)-4).toNat s.size=KL ⟨bs.toArray⟩):=by
  grind
 by_cases aM:(s.size:Int)<8
 ·omega
 ·clear ai ah aj aw ax a0 hbs ay a1;go_enter func33,ntmps33;go_upto_region 6 with fail
  have Y:=O0 (C4.new w (S ⟨#[]⟩) (W N 0 0) (W N 0 0) 58);have z:=O0 (am.o (AW #[S ⟨#[]⟩,W N 0 0,W N 0 0] 58));generalize w.alloc (AW #[S ⟨#[]⟩,W N 0 0,W N 0 0] 58)=W1 at*;go_cut [32] (λav a7=>av=A false/\O9 (Ow W1 a7))
  case first=>
   go_region_with ((go_at_call 64;(first|rw[h.o.1.1]|rw[h.o.1.2]);refine(ab.o _).mono ?_;rintro r g ⟨rfl,af⟩;have i:=O0 af;clear af))
   all_goals go_wp2_with fail
   all_goals go_meet
   all_goals exact⟨by(first|rw[h.o.2.1]|rw[h.o.2.2]);simp,((Ae _ _).drew).trans i.o⟩
  case rest=>
   obtain⟨rfl,i⟩:=hcut;rename Q=>g
   have q:=O0 (Y.o.bG i.o);have n:O9 (Ow w g):=z.o.trans (i.o.mono z.o.size);have M:=q.o.lt;clear Y z i ab;go_upto_region 9 with fail
   first|rw[h.o.1.1]|rw[h.o.1.2]
   have D:=O0 (Ai8 g bs);generalize g.alloc (.cells #[S ⟨bs.toArray⟩,V C 0] 178)=W2 at*;have G:=D.o.lw ⟨Ac _,λ_ e=>(by cases e),by simp[fp],λ_ e=>by cases e⟩;have al:=O0 (n.o.trans (G.mono n.o.size));have a8:=O0 (q.o.bG G);have U:=Amr (lo:=g.heap.size) (w:=W2) (E:=g.heap.size) (s:=⟨bs.toArray⟩) (nm:=nm) (l:=l) (gl:=gl) O1 (by rw[B.o];rfl) (x.bG al.o) O1 (B.o▸D.o.s) ao.o.1;rw[B.o]at U;have aq:=O0 λy (hb:Ow g y)=>q.o.bG hb;clear q G;have ap:=O0 (λ(w:Q) lo v (e:GY lo w nm l gl v) x=>Aok an.o e x);go_wp2_with (first
    |(go_at_call 65;refine U.mono ?_;rintro r y ⟨aH,a9,f,rfl,ag,ae⟩;have k:=D.o.trans ae;obtain⟨b,a,rfl⟩:=Cf (k.mem (.head _));obtain⟨d,c,rfl⟩:=Cf (k.mem (.tail _ (Ag.2 (.inr (.head _)))));have t:=GY.of (nm:=nm) k.s ag;have H:=k.lw ⟨Ac _,λ_ e=>(by cases e),by simp[fp],λ_ e=>by cases e⟩;have o:=O0 (n.o.trans (H.mono n.o.size));have O:=O0 (t.bG ((Ae _ _).alloc (Ac _) (.cells #[S nm,W d (L l) c,W b (L f) a] 58)));have au:=O0 (ap.o _ _ _ O.o (x.bG (o.o.alloc o.o.size _)));have aa:=O0 (aq.o y H);have aF:=aa.o.lt;clear ae k ag t H)
    |(go_at_call 66;refine au.o.mono ?_;rintro r w5 ⟨rfl,m⟩;have K:=(aa.o.bG ((Ae _ _).alloc (Ac _) (.cells #[S nm,W d (L l) c,W b (L f) a] 58))).bG m;obtain⟨aP,aQ,aR,k0,aI,aJ⟩:=id K;have ar:=O0 K;obtain⟨aS,aT⟩:=E3 m;have aG:y.heap.size<w5.heap.size:=(by have:=m.size;simp at this;omega);clear K))
   obtain⟨a4,a5,a6,-,-,-⟩:=ar.o.put (S nm) (W d (L l) c) (W b (L f) a);refine AZ (v:=R #[T #[S nm,W d (L l) c,W b (L f) a],.nilIface]) (by simp[results,results33,go_sem,a4,a5,a6]) rfl ?_;have t:=(((O.o.bG m).cell (j:=0) (u:=S nm) M).cell (j:=1) (u:=W d (L l) c) M).cell (j:=2) (u:=W b (L f) a) M;have az:=(o.o.alloc o.o.size (.cells #[S nm,W d (L l) c,W b (L f) a] 58)).trans (m.mono O5);exact⟨d,b,c,a,L f,rfl,⟨_,O1,t⟩,((az.setCell (p:=⟨w.heap.size,0,N⟩) (Ac _) _).setCell (p:=⟨w.heap.size,1,N⟩) (Ac _) _).setCell (p:=⟨w.heap.size,2,N⟩) (Ac _) _⟩
theorem Ahp(a:Q):
 Ow a ((a.alloc (AW #[S ⟨#[]⟩,W N 0 0,W N 0 0] 58)).alloc (AW #[V C 0,V C 0] 52))/\
 C4 ((a.alloc (AW #[S ⟨#[]⟩,W N 0 0,W N 0 0] 58)).alloc (AW #[V C 0,V C 0] 52)) a.heap.size (S ⟨#[]⟩) (W N 0 0) (W N 0 0)/\
 Gq ((a.alloc (AW #[S ⟨#[]⟩,W N 0 0,W N 0 0] 58)).alloc (AW #[V C 0,V C 0] 52)) (a.heap.size+1) (V C 0) (V C 0):=by
 refine⟨bA.alloc O2 _,(C4.new a _ _ _ _).bG bA,?_⟩;have b:=Gq.new (a.alloc (AW #[S ⟨#[]⟩,W N 0 0,W N 0 0] 58)) (V C 0) (V C 0) 52;simp_all
theorem Aj2{w:Q}(G:CJ w)(aj:24<w.heap.size)(E:Ob m O i):Az Aa 20 #[S (Ia (oU m O i))] w λl af=>∃(e c:Option Addr) (d a b:Nat),l=F (R #[T #[S m,W e (L O) d,W c b a],V C 0,T #[V C 0,V C 0]])/\(∃g,w.heap.size<=g/\GY g af m O i (T #[S m,W e (L O) d,W c b a]))/\Ow w af:=by
 obtain⟨s,ah,Y⟩:=Ahp w;have x:=Aeq (w:=(w.alloc (AW #[S ⟨#[]⟩,W N 0 0,W N 0 0] 58)).alloc (AW #[V C 0,V C 0] 52)) (G.bG s) O5 E;generalize Ia (oU m O i)=f at*;clear G E;go_enter func20,ntmps20;go_wp2_with (first
  |(go_at_call 33;refine x.mono ?_;rintro l n ⟨e,c,d,a,b,rfl,⟨g,U,D⟩,t⟩;have ag:=O0 (ah.bG t);have q:=O0 (Y.bX (t.block _ Y.lt));have u:=Aw6 U D;clear D U x))
 have ak:=q.o.lt;have k:=O0 ((Ae n.heap.size n).alloc (Ac _) (AW #[S m,W e (L O) d,W c b a] 58));have r:=ag.o.bG k.o;have j:=q.o.bX (k.o.block _ q.o.lt);have p:=C4.new n (S m) (W e (L O) d) (W c b a) 58;generalize n.alloc (AW #[S m,W e (L O) d,W c b a] 58)=X at*;obtain⟨aD,aE,aF,k0,ap,aq⟩:=id r;obtain⟨a8,a9,aJ,aK⟩:=id j;obtain⟨a2,a3,a4,aw,ax,ay⟩:=id p;have al:=p.lt;have am:=r.lt;have an:=j.lt;have B:Ow X X.drew:=(Ae _ _).drew;go_region_with (first
  |(go_at_call 16;refine(T8 _).mono ?_;rintro l aN ⟨rfl,rfl⟩)
  |(go_at_call 17;refine(Zl _).mono ?_;rintro l ai ⟨rfl,K⟩;have h:Ow X ai:=B.trans (K.mono B.size);have z:=O0 (r.bG h);have y:=O0 (j.bX (h.block _ j.lt));obtain⟨aG,aH,aI,ar,au,av⟩:=id z.o;obtain⟨aB,aC,aL,aM⟩:=id y.o;obtain⟨a5,a6,a7,az,a0,a1⟩:=id (O0 (p.bG h)).o;clear K))
 all_goals go_wp2
 all_goals(obtain⟨aa,ab,ac,ad,ae⟩:=Atk z.o y.o O1 (S m) (W e (L O) d) (W c b a) (V C 0) (V C 0);unfold IV at aa ab ac ad ae)
 all_goals refine AZ (v:=R #[T #[S m,W e (L O) d,W c b a],V C 0,T #[V C 0,V C 0]]) (by simp[results,results20,go_sem,aa,ab,ac,ad,ae]) rfl ?_
 all_goals(have H:=k.o.trans (h.mono k.o.size);have M:=s.trans (t.mono s.size))
 all_goals refine⟨e,c,d,a,b,rfl,?_,Af6 (M.trans (H.mono M.size)) (Ac _) (Azf _) _ _ _ _ _⟩
 all_goals(have ao:w.heap.size+2<=g:=by have:=u.1;simpa using this)
 all_goals exact⟨g,O1,(((((u.2.bG H).cell O1).cell O1).cell O1).cell O1).cell O1⟩
abbrev wB(b:Nat)(e:X)(g:List UInt8):As:=⟨b::vB e,λf=>f.cell? ⟨b,0,N⟩=I e/\f.frozen? ⟨b,0,N⟩=false/\f.ownsRow 0 5 1 e (L g) (cu g),λa _ d=>(AX.1 d).elim (λi=>i▸cells_of_cell a.1) λd=>.ce a.2.2 d,λa _ c=>⟨by rw[Ak (c _ (.head _))];exact a.1,by rw[AJ (c _ (.head _))];exact a.2.1,G5 a.2.2 λh hb=>c h (.tail _ hb)⟩⟩
def Mt(e b:Nat)(g:Q)(a:List As)(c:List UInt8)(d:Ending)(h:Q):Prop:=d=F (R #[])/\∃f,Bz e g a h [wB b f c]
theorem World.ownsRow.fe(a:n.ownsRow w s b p j wj):n.ownsRow 0 s b p j wj:=⟨a.1,a.2.imp id λ⟨e,c,d,s,_,a⟩=>⟨e,c,d,s,Ai _,a⟩⟩
theorem Aud(q:n.ownsRow 0 5 1 p w wj)(c:Oy){ty:A0}(x:0<w+c.size)(Y:w+c.size<=1000000):∃e g b,(Builtin.append_ #[116,9] ty #[p,S c]).run Aa n=.ok (W (I ⟨e,0,N⟩) (w+c.size) g) b/\DQ n 5 1 p (W (I ⟨e,0,N⟩) (w+c.size) g) (w+c.size) (wj++strCells c) b:=by
 let ⟨D,u,v⟩:=AB.1 Zf
 simp[Aw0]at v;let ⟨y,z,B⟩:=v
 have t:∀{E:Option Nat} {b:Q},n.grownBy b E->(∀a,E=I a->a∈vB p)->AF (vB p) n b:=λf i=>⟨f.os,f.tape,f.output,f.size,λa o M=>f.block a o λd=>M (i a d.symm)⟩;have nb:∀{e g s:Nat} {b:Q},b.ownsRow 0 5 1 (W (I ⟨e,0,N⟩) s g) s (wj++strCells c)->(e∈vB p\/n.heap.size<=e)->∀a∈vB (W (I ⟨e,0,N⟩) s g),(a∈vB p\/n.heap.size<=a)/\a<b.heap.size:=λO H a o=>by
  obtain rfl:=Ax.1 o;exact⟨H,(Yu O).1⟩
 rcases q.2 with⟨r,K⟩|⟨e,G,U,r,-⟩
 ·subst r;obtain⟨aa,b,i,h,m,-⟩:=run_append_own_string n n.heap.size 116 9 ty 5 D underlying116 Awz u y z B (W N 0 0) w wj ⟨q.1,.inl ⟨rfl,K⟩⟩ c O8 O1 .refl;obtain⟨l,k,rfl,f,-⟩:=h.form x;have j:=World.ownsRow.fe h;exact⟨l,k,b,i,j,t m λa d=>(by cases d),nb j (.inr f)⟩
 ·subst r;let ⟨l,k,b,i,h,m,j⟩:=Aex n 0 116 9 ty 5 D underlying116 Awz u y z B e w G wj q c x O1 (Ai _)
  exact⟨l,k,b,i,h,t m λa d=>Ca.2 d,nb h (j.imp (λd=>by simp[EV,d]) λd=>Ayn d.symm)⟩
theorem Aea(i:n.ownsRow 0 5 1 p w wj){s:Oy}{y x:Operand}(k:ws.eval y=p)(l:ws.eval x=S s)(f:nl.guard=N)(h:nl.op=.call {callee:=.builtin .append,args:=#[y,x],argTypes:=#[116,9]})(j:0<w+s.size)(g:w+s.size<=1000000)(d:∀b a c,DQ n 5 1 p (W (I ⟨b,0,N⟩) (w+s.size) a) (w+s.size) (wj++strCells s) c->wpList Aa wk nh yo (ws.put nl.dst (W (I ⟨b,0,N⟩) (w+s.size) a)) c):wpList Aa wk nh (nl::yo) ws n:=by
 refine wpList_plain f λq e=>?_;let ⟨b,a,c,m,o⟩:=Aud (ty:=nl.type) i s j g
 unfold Oper.wp execOp;simp only[h,resolve,invoke,builtin,Sem.run_bind,Sem.run_pure,Result.andThen_ok,Azy,A1,Axs,k,l,m];exact e _ _ (d b a c o)
theorem Bz.d2{a:Nat}{L1:List As}{bt:List UInt8}(e:Bz w n wg q (wB a p o::L1)){m:Nat}(v:(L bt)=m)(b:DQ q 5 1 p y m (cu bt) Y):Y.cell? ⟨a,0,N⟩=I p/\Y.frozen? ⟨a,0,N⟩=false/\Bz w n wg (Y.setCell ⟨a,0,N⟩ y) (wB a y bt::L1):=by
 subst v;let ⟨r,t,z⟩:=e.mem (.head _)
 have u:=(e.s.rg a (IM (.head _) (.head _))).2;have i:=λg=>by
  have:=e.s.nd;simp[fp,AD,AY,Axj]at this;exact this.1.1 g
 have d:=b.af.block a u i;have j:=λg=>(b.nb a g).1.elim i O1;have h:=(Ak d).trans r;have l:=(AJ d).trans t;refine⟨h,l,Bz.cD (L1:=[]) e ((b.af.mono λc hb=>.tail _ hb).set (.inl (.head _)) _) ⟨Au _ _ _ h,by simp_all,G5 b.own λc hb=>AA _ _ _ _ (show c≠a from λd=>j (d▸hb))⟩ (Axj.2 ⟨j,Hs _⟩) λx f=>?_⟩;rcases AX.1 f with rfl|f
 ·exact⟨.inl (.head _),by have:=b.af.size;simp;omega⟩
 ·let ⟨k,c⟩:=b.nb x f
  exact⟨k.imp (.tail _) id,by simpa using c⟩
theorem Ae9(a:Oy):strCells a=cu a.data.toList:=rfl
theorem Aak{b:Nat}{a:List UInt8}{s:Oy}(c:Sp w n [wB b p a])(d:0<L a+s.size)(t:s.size<=16)(r:(L a)<=100000):Az Aa 108 #[J (I ⟨b,0,N⟩),S s] n (Mt w b n [wB b p a] (a++s.data.toList)):=by
 have f:=O0 c.ca;obtain⟨l,m,e⟩:=c.mem (A:=wB b p a) (.head _);obtain⟨u,g,rfl⟩:=Cf e;have q:(L a:Int)<=100000:=O1;clear c;go_enter func108,ntmps108;go_wp2_with (first
  |(at_builtin;refine Aea e (s:=s) (y:=.tmp 14) (x:=.tmp 15) rfl rfl rfl rfl d O1 ?_;intro k g v d;obtain⟨i,j,h⟩:=f.o.d2 (bt:=a++s.data.toList) (by simp;rfl) (by rwa[TB,<-Ae9]);clear d))
 refine bF ?_ O2 rfl rfl;exact⟨rfl,_,h⟩
theorem Aa4{f n:Nat}{j:Q}{a:List UInt8}(h:Sp w j [wB f p a])(Y:n<18446744073709551616)(ai:(L a)<=100000):Az Aa 155 #[J (I ⟨f,0,N⟩),V .u64 n] j (Mt w f j [wB f p a] (a++vn n)):=by
 have v:=O0 h.ca;obtain⟨M,O,B⟩:=h.mem (A:=wB f p a) (.head _);obtain⟨aa,c,rfl⟩:=Cf B;have ag:¬(100000:Int)<(L a:Int):=O1;clear h B;go_enter func155,ntmps155;go_wp2;go_loopw [1] (λt wr=>∃(b m:Nat) (E:X) (d:List UInt8),t=V .u64 (m:Int)/\m<18446744073709551616/\b<=9/\O9 (m=n / 128 ^ b/\L d=L a+b/\d++vu (9-b) m=a++vn n/\Bz w j [wB f (W aa (L a) c) a] wr [wB f E d])) (λt _=>(intOf t).toNat)
 ·exact⟨0,n,_,a,rfl,Y,O1,O2,rfl,rfl,v.o⟩
 ·obtain⟨b,m,E,d,rfl,ah,ae,e⟩:=hrel;rename Q=>wr
  obtain⟨y,z,g⟩:=e.o.2.2.2.mem (.head _);obtain⟨aj,ac,rfl⟩:=Cf g;have u:=O0 e.o.2.1;have ad:(L d)<=100100:=by rw[u.o];omega
  clear v M O;by_cases D:m<128
  ·have U:¬(128:Int)<=(m:Int):=O1;have q:=show d++[UInt8.ofNat m]=a++vn n by rw[<-e.o.2.2.1,QU D]
   have k:=O0 (show [Value.int .u8 (m:Int)]=cu [UInt8.ofNat m] from Aee (x:=(m:Int)) O1 O1);go_wp2_with (first
    |(at_builtin;refine ID ZB (g.alloc _) (AM _ _) (m:=1) (c:=1) (s:=.tmp 31) (x:=.tmp 34) (by rfl) (by rfl) rfl rfl rfl (by intro ab i;simp at i;subst i;rfl) O1 O1 ?_;intro K H w5 r;obtain⟨y,z,g⟩:=Bz.d2 (m:=L d+1) (bt:=d++[UInt8.ofNat m]) (e.o.2.2.2.bG bA) O2 (by rwa[TB,<-k.o]);have l:=O0 g;clear r))
   refine bF ?_ O2 rfl rfl;exact⟨rfl,_,q▸l.o⟩
  ·have U:(128:Int)<=(m:Int):=O1;have af:b<=8:=by
    rcases Aw8 b 9 with h|h
    ·omega
    ·obtain rfl:b=9:=O1;have:=e.o.1;omega
   have q:=show(d++[UInt8.ofNat (m % 128+128)])++vu (9-(b+1)) (m / 128)=a++vn n by rw[<-e.o.2.2.1,show 9-b=(9-(b+1))+1 by omega,Yn D];simp
   have G:=show m / 128=n / 128 ^ (b+1) by rw[e.o.1,Baj,Bae]
   have k:=O0 (show [Value.int .u8 ((m:Int) % 128+128)]=cu [UInt8.ofNat (m % 128+128)] from(Aee (x:=(m:Int) % 128+128) O1 O1).trans (by rw[show((m:Int) % 128+128).toNat=m % 128+128 by omega]));go_wp2_with (first
    |(at_builtin;refine ID ZB (g.alloc _) (AM _ _) (m:=1) (c:=1) (s:=.tmp 16) (x:=.tmp 21) Od Od rfl rfl rfl (by intro ab i;simp at i;subst i;rfl) O1 O1 ?_;intro K H w5 r;obtain⟨y,z,g⟩:=Bz.d2 (m:=L d+1) (bt:=d++[UInt8.ofNat (m % 128+128)]) (e.o.2.2.2.bG bA) O2 (by rwa[TB,<-k.o]);have l:=O0 g;clear r))
   exact⟨⟨b+1,m / 128,_,_,O2,O1,O1,G,by have:=u.o;simp;omega,q,l.o⟩,by simp[intOf];omega⟩
theorem IL{n:Nat}{b:Q}{a:List UInt8}(c:Sp w b [wB s p a])(g:n<9223372036854775808)(e:(L a)<=100000):Az Aa 110 #[J (I ⟨s,0,N⟩),V C n] b (Mt w s b [wB s p a] (a++vn n)):=by
 go_enter func110,ntmps110;go_wp2_with (first|(apply (O0 (Aa4 (n:=n) c O1 e)).o.mono;rintro f h ⟨rfl,d⟩))
 refine bF ?_ O2 rfl rfl;exact⟨rfl,d⟩
theorem S0{a:Nat}{d:Q}{b:List UInt8}{s:Oy}(i:Sp w d [wB a p b])(j:s.size<=16)(l:(L b)<100000):Az Aa 109 #[J (I ⟨a,0,N⟩),S s] d (Mt w a d [wB a p b] (b++(vn s.size++s.data.toList))):=by
 go_enter func109,ntmps109;go_wp2_with (first
  |(apply (O0 (IL (n:=s.size) i O1 O1)).o.mono;rintro h q ⟨rfl,m,c⟩;have e:=O0 c;have g:=Aak c.s (by simp[QU (show s.size<128 by omega)];omega) j (by simp[QU (show s.size<128 by omega)];omega))
  |(apply g.mono;rintro h r ⟨rfl,k,c⟩;have f:=e.o.trans c))
 refine bF ?_ O2 rfl rfl;exact⟨rfl,k,by have:=f;grind⟩
theorem Avi{a:Int}(c:Q)(f:-9223372036854775808<=a)(g:a<=9223372036854775807):Az Aa 225 #[V C a] c λb d=>b=F (V .u64 (fo a))/\d=c:=by
 by_cases e:0<=a
 ·have b:(fo a)=2*a:=by unfold fo;grind
  go_wp2;go_ret;simp_all
 ·have b:(fo a)=-2*a-1:=by unfold fo;grind
  go_wp2;go_ret;exact⟨by show Ending.returned (V .u64 (2*-(a+1)+1))=_;grind,rfl⟩
abbrev rB(c:Nat)(f:List X):As:=⟨[c],λg=>∃b fr,g.heap[c]?=I (.cells f.toArray b fr),λ⟨_,_,a⟩ _ e=>Ax.1 e▸⟨_,a,rfl⟩,λ⟨b,fr,a⟩ _ d=>⟨b,fr,(d _ (.head _)).trans a⟩⟩
theorem EH{i:Nat}(a:(rB w wj).h n)(b:wj[i]?=I p):n.cell? ⟨w,i,N⟩=I p:=by
 let ⟨c,fr,a⟩:=a
 have:=A5 a i p O1;rwa[show(⟨w,0,N⟩:Addr).add i=⟨w,i,N⟩ by simp[Addr.add];omega]at this
theorem Bz.rb(c:Bz w n wg q ng)(b:List X)(a:A0):Bz w n wg (q.alloc (.cells b.toArray a)) (rB q.heap.size b::ng):=c.box _ rfl ⟨a,_,AM _ _⟩
theorem Afd{m:Q}{h:List UInt8}(a0:CJ m)(az:GC m y wv.alts)(aj:Ow m q)(x:Sp m.heap.size q [wB w p h])(aL:Fi wv)(a4:(h++sU wv).length<=100000):Az Aa 156 #[J (I ⟨w,0,N⟩),T #[V C wv.op,V C wv.a,y]] q (Mt m.heap.size w q [wB w p h] (h++sU wv)):=by
 obtain⟨ac,ai,rfl,bg,a2⟩:=az.open;obtain⟨⟨a5,aN⟩,u,af,H,K,ag⟩:=aL;obtain⟨bh,a,c⟩:=wv;obtain⟨b,rfl⟩:=A7 a5;simp only[Bd]at*;have B:b<21:=O1;obtain⟨aW,aX,aY,aZ,-,-,ba,bb⟩:=LZ b B;have aF:∀t,Below m.heap.size q t->t.cell? ⟨24,b*7+0,N⟩=I (V C (BP b 0)):=λt hb=>Bu (aj.trans hb) (a0.row b 0 B O1);have aC:∀t,Below m.heap.size q t->Nc t ac c:=λt hb=>a2 t (aj.trans hb);have O:=O0 (x.ca.rb [V C b,V C a,W ac (L c) ai] 182);have aT:=EH (i:=0) (O.o.mem (.head _)) rfl;have ab:(L h)<=100000/\(h++vn b).length<=100000/\(h++(vn b++sV ⟨b,a,c⟩)).length<=100000:=by
  simp only[sU,Bd,Aw]at a4 ⊢;omega
 have r:=IL (n:=b) (Sp.right (M:=[_]) O.o.s) O1 ab.1;have U:∀l k,Bz m.heap.size (q.alloc (.cells #[V C b,V C a,W ac (L c) ai] 182)) [wB w p h] l [wB w k (h++vn b)]->Bz m.heap.size q [wB w p h] l [rB q.heap.size [V C b,V C a,W ac (L c) ai],wB w k (h++vn b)]/\l.cell? ⟨24,b*7+0,N⟩=I (V C (BP b 0)):=λl k f=>by
  have ay:=O.o.trans (f.frame (M:=[_]) O.o.s);exact⟨ay,aF _ (ay.lw x)⟩
 have al:=ab.2.1;have a1:=ab.2.2;have ax:sU ⟨b,a,c⟩=vn b++sV ⟨b,a,c⟩:=rfl;rw[ax];generalize hsv:sV ⟨b,a,c⟩=sv at*;clear a0 a5 aN az a2 ab a4 aj ax;have j:BP b 0=0\/BP b 0=1\/BP b 0=2\/BP b 0=3:=O1;rcases j with j|j|j|j
 ·have e:sv=[]:=by rw[<-hsv];simp[sV,j]
  subst e;clear H K ag af hsv;go_enter func156,ntmps156;go_wp2_with (first
   |(go_at_call 110;refine r.mono ?_;rintro e l ⟨rfl,k,d⟩;obtain⟨f,v⟩:=U l k d;have ah:=EH (i:=0) (f.mem (.head _)) rfl;clear d r)
   |(go_at_call 224;refine(K1 b 0 _ B (by have:=v;rw[j]at this;exact this)).mono ?_;rintro e ae ⟨rfl,rfl⟩))
  refine bF ?_ (by first|exact .inr rfl|exact .inl rfl) rfl rfl;exact⟨rfl,k,by rw[A6];exact f.tail⟩
 ·have e:sv=vn (fo a):=by rw[<-hsv];simp[sV,j]
  subst e;have aD:=O0 λq=>Avi (a:=a) q u.1 u.2;have aI:=(Su u.1 u.2).2;clear H K ag af hsv u;go_enter func156,ntmps156;go_wp2_with (first
   |(go_at_call 110;refine r.mono ?_;rintro e l ⟨rfl,k,d⟩;obtain⟨f,v⟩:=U l k d;have ah:=EH (i:=0) (f.mem (.head _)) rfl;have aw:=EH (i:=1) (f.mem (.head _)) rfl;have E:=Aa4 (n:=fo a) (Sp.right (M:=[_]) f.s) aI al;clear d r)
   |(go_at_call 224;refine(K1 b 1 _ B (by have:=v;rw[j]at this;exact this)).mono ?_;rintro e ae ⟨rfl,rfl⟩)
   |(go_at_call 225;refine(aD.o _).mono ?_;rintro e ae ⟨rfl,rfl⟩)
   |(go_at_call 155;refine E.mono ?_;rintro e a8 ⟨rfl,G,d⟩;have D:=O0 (f.tail.trans d);clear d))
  refine bF ?_ (by first|exact .inr rfl|exact .inl rfl) rfl rfl;exact⟨rfl,G,by rw[<-AG];exact D.o⟩
 ·have e:sv=vn a.toNat:=by rw[<-hsv];simp[sV,j]
  subst e;obtain⟨aP,aQ⟩:=H j;obtain⟨n,rfl⟩:=A7 (show 0<=a by omega);have aK:n<9223372036854775808:=O1;rw[Bd]at*;clear H K ag af hsv u aP aQ;go_enter func156,ntmps156;go_wp2_with (first
   |(go_at_call 110;refine r.mono ?_;rintro e l ⟨rfl,k,d⟩;obtain⟨f,v⟩:=U l k d;have ah:=EH (i:=0) (f.mem (.head _)) rfl;have aw:=EH (i:=1) (f.mem (.head _)) rfl;have E:=IL (n:=n) (Sp.right (M:=[_]) f.s) aK al;clear d r)
   |(go_at_call 224;refine(K1 b 2 _ B (by have:=v;rw[j]at this;exact this)).mono ?_;rintro e ae ⟨rfl,rfl⟩)
   |(go_at_call 110;refine E.mono ?_;rintro e a8 ⟨rfl,G,d⟩;have D:=O0 (f.tail.trans d);clear d))
  refine bF ?_ (by first|exact .inr rfl|exact .inl rfl) rfl rfl;exact⟨rfl,G,by rw[<-AG];exact D.o⟩
 ·have e:sv=vn (L c)++c.flatMap aU:=by rw[<-hsv];simp[sV,j]
  subst e;obtain⟨⟨bo,bp⟩,-,aH⟩:=K j;have bc:(h++vn b++vn (L c)).length<=100000:=by have:=a1;simp only[Aw]at this ⊢;omega
  clear H K ag af hsv u;go_enter func156,ntmps156;go_wp2_with (first
   |(go_at_call 110;refine r.mono ?_;rintro e l ⟨rfl,k,d⟩;obtain⟨f,v⟩:=U l k d;have ah:=EH (i:=0) (f.mem (.head _)) rfl;have aw:=EH (i:=2) (f.mem (.head _)) rfl;have E:=IL (n:=L c) (Sp.right (M:=[_]) f.s) O1 al;clear d r)
   |(go_at_call 224;refine(K1 b 3 _ B (by have:=v;rw[j]at this;exact this)).mono ?_;rintro e ae ⟨rfl,rfl⟩)
   |(go_at_call 110;refine E.mono ?_;rintro e a8 ⟨rfl,G,d⟩;have ak:=f.trans (d.frame (M:=[_]) f.s);have b3:=EH (i:=2) (ak.mem (.head _)) rfl;have D:=O0 ak.tail;clear d ak))
  go_loopw [36] (λao wr=>∃(g:Nat) (ar:X),ao=V C g/\g<=L c/\O9 (Bz m.heap.size q [wB w p h] wr [wB w ar (h++vn b++vn (L c)++(c.take g).flatMap aU)])) (λao _=>L c-(intOf ao).toNat)
  ·exact⟨0,G,rfl,Ai _,by show Bz _ _ _ _ _;simpa using D.o⟩
  ·obtain⟨g,ar,rfl,bd,Y⟩:=hrel;rename Q=>wr
   by_cases am:g<L c
   ·obtain⟨aR,aS,rfl,bk,bl⟩:=aC _ (Y.o.lw x) g am;have be:(0:Int)<=(g:Int):=O1;have bf:(g:Int)<(L c:Int):=O1;obtain⟨a6,bi,a7,bj⟩:=aH _ (Ao am);have av:(c.take (g+1)).flatMap aU=(c.take g).flatMap aU++aU c[g]:=by show _=_;rw[Av am,AH];simp
    have an:(h++vn b++vn (L c)++(c.take g).flatMap aU++aU c[g]).length<=100000:=by
     have aG:=a1;have z:=congrArg (λaM=>(aM.flatMap aU).length) (Axq (g+1) c);simp only[AH,av,Aw]at aG z ⊢;omega
    generalize c[g]=wv at*;obtain⟨ad,ap⟩:=wv;obtain⟨ad,rfl⟩:=A7 a6;obtain⟨ap,rfl⟩:=A7 a7;simp only at*;have aa:=Y.o.rb [V C ad,V C ap] 184;have c0:=EH (i:=0) (aa.mem (.head _)) rfl;have au:=O0 (IL (n:=ad) (Sp.right (M:=[_]) aa.s) O1 (by simp only[aU,Aw]at an ⊢;omega));have aJ:(h++vn b++vn (L c)++(c.take g).flatMap aU++vn ad).length<=100000:=by simp only[aU,Bd,Aw]at an ⊢;omega
    clear a6 a7 an Y;go_wp2_with (first
     |(go_at_call 110;refine au.o.mono ?_;rintro e bn ⟨rfl,bm,d⟩;have z:=aa.trans (d.frame (M:=[_]) aa.s);have aV:=EH (i:=1) (z.mem (.head _)) rfl;have a9:=O0 z.tail;have aE:=O0 (IL (n:=ap) z.tail.s O1 aJ);clear d z au)
     |(go_at_call 110;refine aE.o.mono ?_;rintro e aO ⟨rfl,aq,d⟩;have aB:=a9.o.trans d;clear d))
    go_roundw
    case rel=>
     have a3:Bz m.heap.size q [wB w p h] aO [wB w aq (h++vn b++vn (L c)++(c.take (g+1)).flatMap aU)]:=by
      rw[av];simpa[AG,aU]using aB
     first
     |exact⟨g+1,aq,by go_num,O1,a3⟩
     |((repeat apply Exists.intro);exact⟨⟨g+1,aq,by go_num,O1,a3⟩,rfl⟩)
    case measure=>simp[intOf];omega
   ·obtain rfl:g=L c:=O1;go_wp2;refine bF ?_ (by first|exact .inr rfl|exact .inl rfl) rfl rfl;have x:=Y.o;rw[AP]at x;exact⟨rfl,ar,by simpa[AG]using x⟩
theorem SU(c:wa->List n3){b:List wa}{a:Nat}(d:a<L b):(b.take (a+1)).flatMap c=(b.take a).flatMap c++c b[a]:=by rw[Av d,AH];simp
theorem UI(b:wa->List n3)(a:List wa)(c:Nat):((a.take c).flatMap b).length<=(a.flatMap b).length:=by
 have d:=congrArg (λa=>(a.flatMap b).length) (Axq c a);grind
theorem Amc{k:Q}{e:List UInt8}(aw:CJ k)(af:Fy k y ve.Bj)(ad:Ow k q)(h:Sp k.heap.size q [wB w p e])(a3:Gi ve)(j:(e++gU ve).length<100000):Az Aa 111 #[J (I ⟨w,0,N⟩),T #[S ve.Bo,V C ve.BH,A ve.exp,y]] q (Mt k.heap.size w q [wB w p e] (e++gU ve)):=by
 obtain⟨a4,av,rfl,aW,ag⟩:=af.open;obtain⟨aj,⟨ac,aC⟩,aQ,ax⟩:=a3;obtain⟨c,aB,g,a⟩:=ve;obtain⟨n,rfl⟩:=A7 ac;simp only at*;have f:e++gU ⟨c,n,g,a⟩=e++(vn c.size++c.data.toList)++vn n++vn (if g then 1 else 0)++vn (L a)++a.flatMap sU:=by simp[gU,gV]
 rw[f]at j ⊢;have a2:=(Kf aj).2;have r:=h.ca.rb [S c,V C n,A g,W a4 (L a) av] 97;have aM:=EH (i:=0) (r.mem (.head _)) rfl;have ay:(L e)<100000:=by simp only[Aw]at j;omega
 have az:(e++(vn c.size++c.data.toList)).length<=100000:=by simp only[Aw]at j ⊢;omega
 have a0:(e++(vn c.size++c.data.toList)++vn n).length<=100000:=by simp only[Aw]at j ⊢;omega
 have O:=O0 (S0 (s:=c) (Sp.right (M:=[_]) r.s) a2 ay);clear af f aj ac;go_enter func111,ntmps111;go_upto_if 16 with(first
  |(go_at_call 109;refine O.o.mono ?_;rintro f bb ⟨rfl,aY,d⟩;have t:=r.trans (d.frame (M:=[_]) r.s);have aN:=EH (i:=1) (t.mem (.head _)) rfl;have U:=IL (n:=n) (Sp.right (M:=[_]) t.s) O1 az;clear d O)
  |(go_at_call 110;refine U.mono ?_;rintro f al ⟨rfl,aZ,d⟩;have l:=t.trans (d.frame (M:=[_]) t.s);have aO:=EH (i:=2) (l.mem (.head _)) rfl;have b3:=EH (i:=3) (l.mem (.head _)) rfl;clear d U))
 go_cut [4] (λK a6=>K=V C ((if g then 1 else 0:Nat):Int)/\a6=al)
 case first=>
  cases g;all_goals go_wp2_with fail
  all_goals go_meet
  all_goals exact⟨rfl,rfl⟩
 case rest=>
  obtain⟨rfl,f⟩:=hcut;subst f;rename Q=>al
  have aR:(if g then 1 else 0:Nat)<=1:=by cases g<;>simp
  generalize (if g then 1 else 0:Nat)=eb at*;have a1:(e++(vn c.size++c.data.toList)++vn n++vn eb).length<=100000:=by have:=j;simp only[Aw]at this ⊢;omega
  have Y:=O0 (IL (n:=eb) (Sp.right (M:=[_]) l.s) O1 a0);go_wp2_with (first
   |(go_at_call 110;refine Y.o.mono ?_;rintro f bc ⟨rfl,ba,d⟩;have u:=l.trans (d.frame (M:=[_]) l.s);have b4:=EH (i:=3) (u.mem (.head _)) rfl;have aa:=IL (n:=L a) (Sp.right (M:=[_]) u.s) O1 a1;clear d Y)
   |(go_at_call 110;refine aa.mono ?_;rintro f w5 ⟨rfl,a5,d⟩;have m:=u.trans (d.frame (M:=[_]) u.s);have aP:=EH (i:=3) (m.mem (.head _)) rfl;have ao:=O0 m.tail;clear d m aa))
  go_loopw [28] (λG wr=>∃(b:Nat) (H:X),G=V C b/\b<=L a/\O9 (Bz k.heap.size q [wB w p e] wr [wB w H (e++(vn c.size++c.data.toList)++vn n++vn eb++vn (L a)++(a.take b).flatMap sU)])) (λG _=>L a-(intOf G).toNat)
  ·exact⟨0,a5,rfl,Ai _,by show Bz _ _ _ _ _;simpa using ao.o⟩
  ·obtain⟨b,H,rfl,aS,x⟩:=hrel;rename Q=>wr
   by_cases v:b<L a
   ·have E:=ad.trans (x.o.lw h);obtain⟨aE,aJ,au,ar,aq,rfl,be,bf,a9,-⟩:=ag _ E b v;obtain⟨aF,aK,aL,aI,aG,f,a7,a8,am,D⟩:=ag _ (Ae _ _) b v;cases f;have B:=(Bu E am).symm.trans a9;simp only[Bah]at B;rw[B]at D;have aT:(0:Int)<=(b:Int):=O1;have aV:(b:Int)<(L a:Int):=O1;have z:=(x.o.rb [.int C a[b].op,.int C a[b].a,W au ar aq] 182).tail;have ab:=SU sU v;have ai:(e++(vn c.size++c.data.toList)++vn n++vn eb++vn (L a)++(a.take b).flatMap sU++sU a[b]).length<=100000:=by
     have m:=j;have ae:=UI sU a (b+1);rw[ab]at ae;simp only[Aw]at m ae ⊢;omega
    have ap:=O0 (Afd aw D (ad.trans (z.lw h)) z.s (ax _ (Ao v)) ai);clear D B a7 a8 am E ai;generalize a[b]=K at*;obtain⟨aX,aD,aH⟩:=K;go_wp2_with (first
     |(go_at_call 156;refine ap.o.mono ?_;rintro f bd ⟨rfl,ak,d⟩;have an:=O0 (z.trans d);clear d))
    go_roundw
    case rel=>
     have ah:=ab▸(AG _ _ _)▸an.o;first
     |exact⟨b+1,ak,by go_num,O1,ah⟩
     |((repeat apply Exists.intro);exact⟨⟨b+1,ak,by go_num,O1,ah⟩,rfl⟩)
    case measure=>simp[intOf];omega
   ·obtain rfl:b=L a:=O1;go_wp2;refine bF ?_ (by first|exact .inr rfl|exact .inl rfl) rfl rfl;have h:=x.o;rw[AP]at h;exact⟨rfl,H,h⟩
theorem Aui{W:Nat}{h w:Q}{b:List Bx}(aI:CJ h)(aH:Fv h p ⟨m,BZ O,b⟩)(af:Ow h w)(k:Sp h.heap.size w [wB W (.slice N 0 0) []])(G:Oi m O b)(E:(oU m O b).length<100000):Az Aa 63 #[J (I ⟨W,0,N⟩),p] w (Mt h.heap.size W w [wB W (.slice N 0 0) []] (oU m O b)):=by
 obtain⟨be,ba,rfl,bd,az,ay⟩:=aH;obtain⟨aj,ai,rfl,bb,a0⟩:=az.open;obtain⟨ak,ae,rfl,bc,aJ⟩:=ay.open;have a1:(BZ O).length=L O:=by simp[BZ]
 have a8:∀K,Ow h K->∀a (k:a<L O),∃r u,aj=I ⟨r,u,N⟩/\K.cell? ⟨r,u+a*2,N⟩=I (.string O[a].1)/\K.cell? ⟨r,u+a*2+1,N⟩=I (.int C O[a].2):=λK hb a a2=>by
  obtain⟨r,u,d,av,o,-⟩:=a0 K hb a (by show a<(BZ O).length;omega);simp only[BZ,AN]at av o;exact⟨r,u,d,av,o⟩
 simp only[a1]at*;have d:oU m O b=[84,65,82,78]++(vn m.size++m.data.toList)++vn (L O)++O.flatMap iU++vn (L b)++b.flatMap gU:=by simp[oU]
 rw[d]at E ⊢;have aN:=(Kf G.n).2;obtain⟨bq,br⟩:=G.z;have ac:=k.ca.rb [S m,.slice aj (L O) ai,.slice ak (L b) ae] 58;have aM:([84,65,82,78]++(vn m.size++m.data.toList):List UInt8).length<=100000:=by simp only[Aw]at E ⊢;omega
 have ad:=O0 (Aak (s:=⟨#[84,65,82,78]⟩) (Sp.right (M:=[_]) ac.s) O4 O4 O2);have aq:([]:List UInt8)++(⟨#[84,65,82,78]⟩:Oy).data.toList=[84,65,82,78]:=rfl;rw[aq]at ad;clear az ay a0 d a1 aq;go_enter func63,ntmps63;go_wp2_with (first
  |(go_at_call 108;refine ad.o.mono ?_;rintro d bi ⟨rfl,bg,c⟩;have o:=ac.trans (c.frame (M:=[_]) ac.s);have aS:=EH (i:=0) (o.mem (.head _)) rfl;have Y:=S0 (s:=m) (Sp.right (M:=[_]) o.s) aN O2;clear c ad)
  |(go_at_call 109;refine Y.mono ?_;rintro d bj ⟨rfl,bh,c⟩;have ab:=o.trans (c.frame (M:=[_]) o.s);have aT:=EH (i:=1) (ab.mem (.head _)) rfl;have au:=IL (n:=L O) (Sp.right (M:=[_]) ab.s) O1 aM;clear c Y)
  |(go_at_call 110;refine au.mono ?_;rintro d bk ⟨rfl,aO,c⟩;have aw:=ab.trans (c.frame (M:=[_]) ab.s);have b4:=EH (i:=1) (aw.mem (.head _)) rfl;clear c au))
 go_loopw [22] (λq wr=>∃(a:Nat) (v:X),q=V C a/\a<=L O/\O9 (Bz h.heap.size w [wB W (.slice N 0 0) []] wr [rB w.heap.size [S m,.slice aj (L O) ai,.slice ak (L b) ae],wB W v ([84,65,82,78]++(vn m.size++m.data.toList)++vn (L O)++(O.take a).flatMap iU)])) (λq _=>L O-(intOf q).toNat)
 ·exact⟨0,aO,rfl,Ai _,by show Bz _ _ _ _ _;simpa using aw⟩
 ·obtain⟨a,v,rfl,a2,f⟩:=hrel;rename Q=>wr
  have g:=af.trans (f.o.lw k);by_cases l:a<L O
  ·obtain⟨aD,aE,rfl,ao,ap⟩:=a8 _ g a l;have aK:(0:Int)<=(a:Int):=O1;have aL:(a:Int)<(L O:Int):=O1;have y:=SU iU l;obtain⟨a3,bf⟩:=G.a _ (Ao l);have al:=(G.i a (by simpa using l)).1;rw[AN]at al;have t:([84,65,82,78]++(vn m.size++m.data.toList)++vn (L O)++(O.take a).flatMap iU++iU O[a]).length<100000:=by
    have ag:=E;have e:=UI iU O (a+1);rw[y]at e;simp only[Aw]at ag e ⊢;omega
   generalize O[a]=x at*;obtain⟨H,aa⟩:=x;obtain⟨aa,rfl⟩:=A7 a3;simp only at*;have j:=f.o.rb [S H,V C aa] 94;have c0:=EH (i:=0) (j.mem (.head _)) rfl;have ar:=O0 (S0 (s:=H) (Sp.right (M:=[_,_]) j.s) (Kf al).2 (by simp only[iU,Aw]at t ⊢;omega));have a9:=O0 (show([84,65,82,78]++(vn m.size++m.data.toList)++vn (L O)++(O.take a).flatMap iU++(vn H.size++H.data.toList)).length<=100000 by simp only[iU,Aw]at t ⊢;omega);clear a3 al t f g;go_wp2_with (first
    |(go_at_call 109;refine ar.o.mono ?_;rintro d aQ ⟨rfl,am,c⟩;have e:=j.trans (c.frame (M:=[_,_]) j.s);have aV:=EH (i:=1) (e.mem (.head _)) rfl;have U:=O0 e.tail;have Y:=IL (n:=aa) e.tail.tail.s O1 a9.o;clear c e ar)
    |(go_at_call 110;refine Y.mono ?_;rintro d aR ⟨rfl,an,c⟩;have a6:=U.o.trans (c.frame (M:=[_]) U.o.s);clear c))
   go_roundw
   case rel=>
    have D:Bz h.heap.size w [wB W (.slice N 0 0) []] aR [rB w.heap.size [S m,.slice (I ⟨aD,aE,N⟩) (L O) ai,.slice ak (L b) ae],wB W an ([84,65,82,78]++(vn m.size++m.data.toList)++vn (L O)++(O.take (a+1)).flatMap iU)]:=by
     rw[y];simpa[AG,iU]using a6
    first
    |exact⟨a+1,an,by go_num,O1,D⟩
    |((repeat apply Exists.intro);exact⟨⟨a+1,an,by go_num,O1,D⟩,rfl⟩)
   case measure=>simp[intOf];omega
  ·obtain rfl:a=L O:=O1;have B:=f.o;rw[AP]at B;have aX:=EH (i:=2) (B.mem (.head _)) rfl;have aB:=O0 (IL (n:=L b) (Sp.right (M:=[_]) B.s) O1 (by have:=E;simp only[Aw]at this ⊢;omega));clear g f;go_wp2_with (first
    |(go_at_call 110;refine aB.o.mono ?_;rintro d bl ⟨rfl,aP,c⟩;have ah:=B.trans (c.frame (M:=[_]) B.s);have aY:=EH (i:=2) (ah.mem (.head _)) rfl;have a7:=O0 ah.tail;clear c ah))
   go_loopw [43] (λq wr=>∃(a:Nat) (v:X),q=V C a/\a<=L b/\O9 (Bz h.heap.size w [wB W (.slice N 0 0) []] wr [wB W v ([84,65,82,78]++(vn m.size++m.data.toList)++vn (L O)++O.flatMap iU++vn (L b)++(b.take a).flatMap gU)])) (λq _=>L b-(intOf q).toNat)
   ·exact⟨0,aP,rfl,Ai _,by show Bz _ _ _ _ _;simpa using a7.o⟩
   ·obtain⟨a,v,rfl,a2,f⟩:=hrel;rename Q=>wr
    by_cases l:a<L b
    ·have g:=af.trans (f.o.lw k);obtain⟨r,u,aG,aF,cc,d,ao,ap,a4,a5,ax,-⟩:=aJ _ (Ae _ _) a l;cases d;have bm:=Bu g ao;have bn:=Bu g ap;have bo:=Bu g a4;have bp:=Bu g a5;have aK:(0:Int)<=(a:Int):=O1;have aL:(a:Int)<(L b:Int):=O1;have j:=(f.o.rb [.string b[a].Bo,.int C b[a].BH,.bool b[a].exp,.slice aG aF cc] 97).tail;have y:=SU gU l;have t:([84,65,82,78]++(vn m.size++m.data.toList)++vn (L O)++O.flatMap iU++vn (L b)++(b.take a).flatMap gU++gU b[a]).length<100000:=by
      have ag:=E;have e:=UI gU b (a+1);rw[y]at e;simp only[Aw]at ag e ⊢;omega
     have aC:=O0 (Amc aI ax (af.trans (j.lw k)) j.s (G.x _ (Ao l)) t);clear ao ap a4 a5 ax g t;generalize b[a]=x at*;obtain⟨H,aa,aZ,aW⟩:=x;go_wp2_with (first
      |(go_at_call 111;refine aC.o.mono ?_;rintro d aQ ⟨rfl,am,c⟩;have U:=O0 (j.trans c);clear c))
     go_roundw
     case rel=>
      have D:=y▸(AG _ _ _)▸U.o;first
      |exact⟨a+1,am,by go_num,O1,D⟩
      |((repeat apply Exists.intro);exact⟨⟨a+1,am,by go_num,O1,D⟩,rfl⟩)
     case measure=>simp[intOf];omega
    ·obtain rfl:a=L b:=O1;go_wp2;refine bF ?_ (by first|exact .inr rfl|exact .inl rfl) rfl rfl;have k:=f.o;rw[AP]at k;exact⟨rfl,v,k⟩
theorem Oi.dT{d:List Bx}(f:Oi m O d):NB ⟨m,BZ O,d⟩=true:=by
 have y:∀c b,b+c=(BZ O).length->F6 (IC (O.map (·.1)) b) ((BZ O).drop b)=true:=by
  intro c;induction c with
  |zero=>intro b o;rw[Ax0 O1];rfl
  |succ c ih=>
   intro b o;have e:b<(BZ O).length:=O1;have p:b<L O:=by simpa[BZ]using e
   let ⟨j,k⟩:=f.i b (by simpa using p)
   have l:=f.a _ (Ao p);have h:=ih (b+1) O1;rw[<-NJ p]at h;rw[AN]at j k;rw[Adf _ _ _ e];simp[BZ,AN]at h ⊢;simp[j,k,J5,l,h]
 have x:∀c b,b+c=L d->GU (BZ O) (IC (d.map (·.Bo)) b) (d.drop b)=true:=by
  intro c;induction c with
  |zero=>intro b o;rw[Ax0 O1];rfl
  |succ c ih=>
   intro b o;have e:b<L d:=O1;let ⟨j,k⟩:=f.g b (by simpa using e)
   obtain⟨-,l,t,u⟩:=f.x _ (Ao e);have h:=ih (b+1) O1;rw[<-NJ e]at h;rw[AN]at j k;have v:Gv (BZ O) d[b].Bo=false:=by
    simp[Gv,Ax9,decide_eq_true_eq,KQ];intro r q s;obtain⟨B,z,rfl⟩:=AE.1 q;exact f.d B z _ (Ao e) s
   have w:IZ d[b].Bj=true:=by
    simp[IZ,Bh,decide_eq_true_eq,Axk];exact⟨t,λr q=>T0 (u r q)⟩
   rw[X2 _ _ _ _ e];simp[j,k,J5,l,h,v,w]
 simp[NB,Bh];exact⟨⟨f.n,(y _ 0 (Bg _))⟩,(x _ 0 (Bg _))⟩
theorem Anm(c:n.ownsRow 0 5 1 p (L o) (cu o))(e:0<L o):(convert 116 9 p).run Aa n=.ok (S ⟨o.toArray⟩) n:=by
 obtain⟨a,d,rfl,-,-⟩:=World.ownsRow.form c e;refine run_convert_bytes_back n 116 9 5 ⟨a,0,N⟩ d o underlying116 underlying5 Awz λb f=>?_;rw[show(⟨a,0,N⟩:Addr).add b=⟨a,b,N⟩ by simp[Addr.add];omega,c.cellAt b O1,Awt,Af f];rfl
theorem Aal(d:A0)(a:Q):Sp a.heap.size (a.alloc (.cells #[W N 0 0] d)) [wB a.heap.size (W N 0 0) []]:=((Sp.ca (L:=[]) ⟨Ac _,λA b=>(by cases b),Azi,λe c=>(by cases c)⟩).box (A:=wB a.heap.size (W N 0 0) []) _ rfl ⟨O2,O2,Axc _ _ _ _⟩).s
theorem Avu{w:Q}(q:Fv w p ⟨m,BZ O,i⟩)(s:CJ w)(e:LP w M)(u:Oi m O i)(am:(oU m O i).length<=99996):Az Aa 32 #[p] w λd b=>d=F (R #[S (Ia (oU m O i)),.nilIface])/\Ow w b:=by
 have D:∀b,Ow w b->Az Aa 62 #[p] b λd aa=>d=F (MN true (Di (M 0)))/\Ow b aa:=λb hb=>u.dT▸Y1 _ p (Di (M 0)) b (q.bG hb) (s.bG hb) ((e.bG hb).c 0 O1) ⟨_,_,rfl⟩;have y:=O0 q;obtain⟨h,g,rfl,-,-,-⟩:=q;have B:0<(oU m O i).length:=by show _<_;simp[oU]
 have E:=O0 λ(a:Q) (hb:Ow w a)=>Aui (W:=a.heap.size) (w:=a.alloc (.cells #[.slice N 0 0] 175)) (s.bG hb) (y.o.bG hb) bA (Aal _ a) u O1;generalize hu:oU m O i=U at*;have l:Ow w (w.alloc (.cells #[S m,h,g] 58)):=bA;have x:Ia U=⟨U.toArray⟩++KL ⟨U.toArray⟩:=by
  rfl
 have z:=O0 λw=>Yz ⟨U.toArray⟩ w (by show U.toArray.size<=_;simp;omega);have ai:=λw=>run_string_add_sum (P:=Aa) w ⟨U.toArray⟩ (KL ⟨U.toArray⟩) (by show U.toArray.size+4<=_;grind);have an:¬(99996:Int)<(L U:Int):=O1;clear e hu;go_enter func32,ntmps32;go_wp2_with (first
  |(go_at_call 62;refine(D _ l).mono ?_;rintro d a ⟨rfl,f⟩;have k:Ow w a:=l.trans (f.mono l.size);have G:=O0 (E.o a k);simp only[MN,if_true];have H:=Bu f (CS w #[S m,h,g] 58 0 _ rfl);have K:=Bu f (CS w #[S m,h,g] 58 1 _ rfl);have Y:=Bu f (CS w #[S m,h,g] 58 2 _ rfl);have c0:=λj=>BM a j _ _ _ H;have ad:=λj=>BM a j _ _ _ K;have ae:=λj=>BM a j _ _ _ Y;have al:=f.size;have ak:w.heap.size<a.heap.size:=(by have:(w.alloc (.cells #[S m,h,g] 58)).heap.size=w.heap.size+1:=O2;omega);clear f)
  |(go_at_call 63;refine G.o.mono ?_;rintro d ab ⟨rfl,ap,e⟩;obtain⟨ag,ah,n⟩:=e.mem (.head _);obtain⟨ao,af,rfl⟩:=Cf n;have aj:=Anm n B;have r:Ow w ab:=k.trans ((((Ae a.heap.size a).alloc (Ac _) _).trans (e.lw (Aal _ a))).mono k.size);clear e n)
  |(go_at_call 64;refine(z.o _).mono ?_;rintro d ac ⟨rfl,t⟩;have v:Ow w ac:=r.trans (t.mono r.size);clear t))
 go_ret2
 exact⟨by rw[x];rfl,v⟩
theorem Ard(d:Fv n p ⟨m,BZ O,i⟩)(j:CJ n)(h:LP n M)(l:Oi m O i)(q:(oU m O i).length<=99996):Az Aa 19 #[p] n λb c=>b=F (R #[S (Ia (oU m O i)),V C 0])/\Ow n c:=by
 have f:=O0 λc (hb:Ow n c)=>Avu (d.bG hb) (j.bG hb) (h.bG hb) l q;obtain⟨r,g,rfl,-,-,-⟩:=d;have a:Ow n (n.alloc (.cells #[S m,r,g] 58)):=bA;go_enter func19,ntmps19;go_wp2_with (first
  |(apply (f.o _ a).mono;rintro b s ⟨rfl,k⟩;have e:Ow n s:=a.trans (k.mono a.size))
  |(apply (T8 _).mono;rintro b t ⟨rfl,rfl⟩))
 go_ret2
 exact⟨rfl,e⟩
def Gb(a:BD):Prop:=∃b,a.BG=BZ b/\Ob a.Bo b a.Bv
theorem Att{a:Q}(m:Fv a p w1)(q:CJ a)(z:LP a M)(d:Gb w1):Az Aa 121 #[p] a λe b=>e=F .nilIface/\Ow a b:=by
 let ⟨r,l,d⟩:=d
 let ⟨nm,Y,U⟩:=w1
 simp at l d;subst l;have v:∀b,Ow a b->Az Aa 62 #[p] b λe D=>e=F (MN true (Di (M 0)))/\Ow b D:=λb hb=>d.i.dT▸Y1 _ p (Di (M 0)) b (m.bG hb) (q.bG hb) ((z.bG hb).c 0 O1) ⟨_,_,rfl⟩;obtain⟨h,g,rfl,-,y,x⟩:=id m;have w:(BZ r).length=L r:=by simp[BZ]
 have u:=O0 λb (hb:Ow a b)=>Adm (nm:=nm) (q.bG hb) (y.bG hb) (x.bG hb) (w▸d.s) (by have:=d.n;grind);have k:Ow a (a.alloc (.cells #[S nm,h,g] 58)):=bA;go_enter func121,ntmps121;go_wp2_with (first
  |(apply (v _ k).mono;rintro e E ⟨rfl,f⟩;have j:Ow a E:=k.trans (f.mono k.size);simp only[MN,if_true];have H:=Bu f (CS a #[S nm,h,g] 58 0 _ rfl);have K:=Bu f (CS a #[S nm,h,g] 58 1 _ rfl);have O:=Bu f (CS a #[S nm,h,g] 58 2 _ rfl);clear f)
  |(apply (u.o _ j).mono;rintro e G ⟨rfl,B⟩;have t:Ow a G:=j.trans (B.mono j.size)))
 go_ret;exact⟨rfl,t⟩
theorem Aj7(q:IW n p H)(t:CJ n)(s:LP n M)(r:∀o∈H,Gb o):Az Aa 67 #[p] n λf c=>f=F .nilIface/\Ow n c:=by
 obtain⟨w,B,rfl,u,g⟩:=q;have m:∀c,Ow n c->Jo c w H:=λc hb=>g.bG hb;unfold short at u;clear g;go_wp2;go_loopw [7] (λe wr=>∃a,a<=L H/\e=V C a/\O9 (Ow n wr)) (λe _=>L H-(intOf e).toNat)
 ·exact⟨0,Ai _,rfl,Ae _ _⟩
 ·obtain⟨a,U,rfl,b⟩:=hrel;rename Q=>wr
  by_cases j:a<L H
  ·have G:0<=a:=O1;have K:a<L H:=O1;obtain⟨x,ab,aa,Y,E,D,rfl,c0,y,z,h⟩:=m _ b.o a j;have d:=b.o.size;have l:=O0 (λv=>Att (h.bG ((Ae _ _).alloc .refl v)) (t.bG (b.o.alloc d _)) (s.bG (b.o.alloc d _)) (r _ (Ao j)));clear h;go_wp2_with (first
    |(go_at_call 121;apply (l.o _).mono;rintro f ac ⟨rfl,i⟩;have k:=(b.o.alloc d _).trans (i.mono O5);clear i))
   go_roundw
   case rel=>exact⟨a+1,O1,rfl,k⟩
   case measure=>simp[intOf];omega
  ·obtain rfl:a=L H:=O1;have O:¬(L H)<L H:=O1;go_wp2;go_ret;exact⟨rfl,b.o⟩
theorem Adt(a:Nat)(b:a<21):(BP a 0=2->J1 a=BP a 1/\JE a=BP a 2/\J1 a<=JE a)/\(BP a 0≠2->JE a<J1 a):=by
 rcases Nd a b with rfl|rfl|rfl|rfl|rfl|rfl|rfl|rfl|rfl|rfl|rfl|rfl|rfl|rfl|rfl|rfl|rfl|rfl|rfl|rfl|rfl;all_goals decide
theorem WS(b:Fg wv w)(h:-9223372036854775808<=wv.a/\wv.a<=9223372036854775807):Fi wv:=by
 let ⟨r,c,s,f,hb,i,g⟩:=b
 have d:wv.op.toNat=w:=O1;let ⟨k,l,m,n,o,e,p,q⟩:=LZ w c
 let ⟨t,j⟩:=Adt w c
 refine⟨O1,h,?_,?_,?_,?_⟩
 ·grind
 ·grind
 ·rw[d];intro b;have:=j O1;rcases hb with hb|⟨-,hb|⟨-,-,hb⟩⟩
  ·omega
  ·omega
  ·exact⟨⟨hb (e.1 b),f⟩,i,g⟩
 grind
theorem H3{n j:Nat}(a:n<128 ^ (j+1)):(vn n).length<=j+1:=Zz 9 j n a
theorem Arv(d:Fg wv w)(h:-9223372036854775808<=wv.a/\wv.a<=9223372036854775807):(sU wv).length<=zz wv:=by
 have q:=WS d h;let ⟨z,l,M,K,hb,O,k⟩:=d
 have e:wv.op.toNat=w:=O1;let ⟨r,s,t,u,o,p,v,x⟩:=LZ w l
 let ⟨U,Y⟩:=Adt w l
 have y:=H3 (n:=w) (j:=0) O1;simp only[sU,sV,zz,iz,e,Aw];split
 ·rename_i f
  have:=H3 (n:=fo wv.a) (j:=9) (by have:=(Su h.1 h.2).2;omega);grind
 ·split
  ·rename_i f i
   have g:=q.b (e▸i);rw[e]at g;have:=H3 (n:=wv.a.toNat) (j:=2) O1;grind
  ·split
   ·rename_i f i g
    rw[if_neg (λd=>f (o.2 d)),if_pos (p.1 g)];have:=H3 (n:=L wv.alts) (j:=1) O1;have B:∀c:List Co,(∀b∈c,0<=b.tag/\b.tag<=255/\0<=b.BU/\b.BU<=65535)->(c.flatMap aU).length<=5*L c:=λc=>by
     induction c with
     |nil=>simp
     |cons b c ih=>
      intro hb;have D:=hb b (.head _);have E:=ih λm k=>hb m (.tail _ k);have G:=H3 (n:=b.tag.toNat) (j:=1) O1;have H:=H3 (n:=b.BU.toNat) (j:=2) O1;grind
    grind
   grind
theorem Vp(a:CO m=true):(vn m.size++m.data.toList).length<=17:=by
 have:=Kf a;have:=H3 (n:=m.size) (j:=0) O1;have:(L m.data.toList)=m.size:=rfl;grind
theorem Rb{e:Type}(b:e->List UInt8)(d:e->Nat):∀a:List e,(∀c∈a,(b c).length<=d c)->(a.flatMap b).length<=(a.map d).sum
 |[],_=>.refl
 |c::a,h=>by
  have:=Rb b d a λg f=>h g (.tail _ f);grind
theorem Ag9{e:List Bx}(H:W6 we v0 ⟨m,BZ O,e⟩):Ob m O e:=by
 obtain⟨d,t,q,y,-,-,-,-,-⟩:=H;simp only at t q y;have u:(BZ O).length=L O:=by simp[BZ]
 rw[u]at q;have g:=d.g;simp only at g;have M:Gl (O.map (·.1)):=λk z=>by
  have h:k<(BZ O).length:=O6;have o:=(d.i _ (Ao h)).1;have l:=d.il k h;rw[show(BZ O).map (·.Bo)=O.map (·.1) by simp[BZ]]at l;simpa[BZ]using Aw6 o l
 have K:Gl (e.map (·.Bo)):=λk z=>by
  have h:k<L e:=by simpa using z
  have o:=(g _ (Ao h)).1;have l:=d.gl k h;grind
 have w:∀a∈e,∀c∈a.Bj,Fi c:=λa b c f=>by
  obtain⟨U,r⟩:=(g a b).2.2.2.2.1 c f;exact WS r (t a b c f)
 have v:∀a∈O,CO a.1=true/\0<=a.2/\a.2<=20:=λa b=>d.i ⟨a.1,a.2⟩ (AE.2 ⟨a,b,rfl⟩);have x:∀a∈e,Gi a:=λa b=>by
  obtain⟨B,D,E,-,-,⟨G,p⟩,-⟩:=g a b;exact⟨B,⟨D,E⟩,p.m,w a b⟩
 refine⟨⟨d.n,O1,M,λa b=>(v a b).2,K,x,λa b c f=>(g c f).2.2.2.1 ⟨a.1,a.2⟩ (AE.2 ⟨a,b,rfl⟩)⟩,d,q,λa b=>?_,?_⟩
 ·obtain⟨-,-,-,-,-,⟨G,p⟩,af⟩:=g a b;exact Aig p (w a b) λc f ag=>O6
 ·have o:=Vp d.n;have l:=H3 (n:=L O) (j:=1) O1;have ab:=H3 (n:=L e) (j:=1) O1;have ac:=Rb iU (λ_=>18) O λa b=>by
   obtain⟨s,Y,aa⟩:=v a b;have:=Vp s;have:=H3 (n:=a.2.toNat) (j:=0) O1;simp only[iU,Aw]at*;omega
  have ad:=Rb gU gz e λa b=>by
   obtain⟨s,Y,aa,ah⟩:=x a b;have:=Vp s;have:=H3 (n:=a.BH.toNat) (j:=0) O1;have:=H3 (n:=if a.exp then 1 else 0) (j:=0) (by split<;>omega);have:=H3 (n:=L a.Bj) (j:=2) O1;have:=Rb sU zz a.Bj λc f=>by
    obtain⟨U,r⟩:=(g a b).2.2.2.2.1 c f;exact Arv r (t a b c f)
   simp only[gU,gV,gz,Aw]at*;omega
  have ae:(O.map λ_=>18).sum=18*L O:=by rw[List.map_const',List.sum_replicate_nat,Nat.mul_comm]
  simp only[fz,u]at y;simp only[oU,Aw,AO,Bc]at*;omega
theorem Auw(b:s∈JY wv w):∃c∈FH wv.op wv.a wv.alts w,c.toNat=s:=by
 unfold JY at b;unfold FH;split at b
 ·cases b
 ·split at b
  ·grind
  ·split at b
   ·grind
   simp_all
theorem Gb.dS(d:Gb w1):∀b∈w1.Bv,(0<=b.BH/\b.BH<=20)/\∃h,Nz b.Bj b.BH h:=λb f=>by
 obtain⟨G,-,d⟩:=d;obtain⟨-,-,-,-,-,⟨j,c⟩,-⟩:=d.g.g b f;refine⟨c.a,λe=>j.getD e 0,c.p,c.m,c.s,λw t=>(Agi (T0 ((d.i.x b f).i w t))).l,λe q y=>?_⟩;obtain⟨u,k,B,-,-,D,m,n,-,o⟩:=c.i e q;have l:b.Bj[e].op.toNat=u:=O1;rw[l];refine⟨m,n,λK r=>?_⟩;obtain⟨x,g,rfl⟩:=Auw r;rw[k]at g;obtain⟨v,rfl,s,E,-⟩:=o x g;obtain⟨H,-,-,-,-,z,-⟩:=c.i v s;grind
theorem Gb.sound(f:Gb w1):U1 w1:=by
 let ⟨w,q,f⟩:=f
 have l:=f.i.dT;simp[NB,Bh]at l;have v:∀e∈w1.Bv,∀d∈e.Bj,d.op=1->0<=d.a/\d.a<L w1.BG+L w1.Bv/\d.a<=65535:=λe g d h i=>by
  have t:=((f.i.x e g).i d h).b (by rw[i];rfl);have u:=(f.g.g e g).2.2.2.2.2.2 d h i;have r:BP (1:Int).toNat 1=0:=rfl;have s:=(LZ 1 O1).2.2.2.1;grind
 refine⟨(Acp l.2).2,λe g d h=>?_,λe g d h i=>O6,λe g=>?_⟩
 ·let ⟨x,k⟩:=(f.g.g e g).2.2.2.2.1 d h
  exact⟨λi=>O6,by have:=k.a;omega,λn m=>by have:=k.c n m;omega⟩
 ·obtain⟨-,-,-,-,-,⟨o,j⟩,-⟩:=f.g.g e g;exact⟨j.p,by have:=j.m;omega⟩
structure R2 (b:Q) (a:Nat) (c d:X):Prop where
 c0:b.cell? ⟨a,0,N⟩=I c
 c1:b.cell? ⟨a,1,N⟩=I d
 f:∀j,b.frozen? ⟨a,j,N⟩=false
theorem R2.lt(a:R2 n w p y):w<n.heap.size:=AL a.c0
theorem R2.bX{w':Q}(b:R2 n w p y)(d:w'.heap[w]?=n.heap[w]?):R2 w' w p y:=by
 have e:=λc=>Ak (a:=⟨w,c,N⟩) d;exact⟨by rw[e];exact b.c0,by rw[e];exact b.c1,λc=>by rw[AJ d];exact b.f c⟩
theorem R2.bG{w:Q}{a:Nat}(b:R2 w a p y)(hb:Ow w n):R2 n a p y:=b.bX (hb.block a b.lt)
theorem R2.drew(a:R2 n w p y):R2 n.drew w p y:=⟨a.c0,a.c1,a.f⟩
theorem R2.new(a:Q)(b c:X)(d:A0):R2 (a.alloc (.cells #[b,c] d)) a.heap.size b c:=⟨CS a #[b,c] d 0 _ rfl,CS a #[b,c] d 1 _ rfl,λe=>O2⟩
theorem R2.put(a:R2 n w p y)(b c:X):R2 ((n.setCell ⟨w,0,N⟩ b).setCell ⟨w,1,N⟩ c) w b c:=
 ⟨by rw[G4 O1];exact Au _ _ _ a.c0,Au _ _ _ (by rw[G4 O1];exact a.c1),λd=>by simp[Aq];exact a.f d⟩
def HL:X:=T #[W N 0 0,V C 0]
theorem Ar9:MT M (D7 H (L H)) H=match B4 (λ_=>G8 H) H 0 with
 |some b=>Hv (M 15) 0 (b:Int)
 |none=>Ado M 16 (B4 (λ_=>JG H) H 0):=by
 unfold MT;rw[show(λ_:Nat=>HM (D7 H (L H)))=λ_=>G8 H from funext λ_=>funext λa=>Amj H a,show(λ_:Nat=>HZ (D7 H (L H)))=λ_=>JG H from funext λ_=>funext λa=>Akk H a]<;>rfl
structure DZ (b:List BD) (c:Oy):Prop where
 l:(L b)<=8
 d:B4 (HR b) b 0=N
 m:B4 (λ_=>G8 b) b 0=N
 a:B4 (λ_=>JG b) b 0=N
 e:∃n who,Gj b c=I (n,who,0)
 s:sz b<=200000
structure HV (b:List BD):Prop where
 l:(L b)<=8
 d:B4 (HR b) b 0=N
 m:B4 (λ_=>G8 b) b 0=N
 a:B4 (λ_=>JG b) b 0=N
def OZ(b:Nat->Addr)(d:List BD)(c:X):Prop:=(HV d->sz d<=200000->c=Di (b 17))/\((∃a e:Nat,(a=14\/a=15\/a=16)/\c=Hv (b a) 0 (e:Int))\/∃a:Nat,(a=17\/a=18)/\c=Di (b a))
theorem OZ.told(c:EJ n M)(a:OZ M H p):∃b j,b≠0/\(HV H->sz H<=200000->b=18)/\Told n p b 0 j:=by
 obtain⟨i,a⟩:=a;by_cases d:HV H/\sz H<=200000
 ·obtain rfl:=i d.1 d.2;exact⟨_,_,O4,λ_ _=>rfl,Aa1 c 17 O1⟩
 ·have f:∀{b:Int},HV H->sz H<=200000->b=18:=λg h=>absurd ⟨g,h⟩ d;rcases a with⟨e,k,a,rfl⟩|⟨e,a,rfl⟩
  ·exact⟨_,_,by rcases a with rfl|rfl|rfl<;>decide,f,Avt c e O1 0 _⟩
  ·exact⟨_,_,by rcases a with rfl|rfl<;>decide,f,Aa1 c e O1⟩
def LkR(k:Nat->Addr)(a:List BD)(b:Oy)(h:Q)(d:Ending)(i:Q):Prop:=Ow h i/\((¬DZ a b/\∃g j,OZ k a (Z g j)/\d=F (R #[HL,Z g j]))\/DZ a b/\∃f e c,d=F (R #[T #[W f e c,V C (Dx a b)],.nilIface])/\E2 h.heap.size i (W f e c) (Cj a))
theorem Aov{v:X}{i:Oy}(b:IW n v H)(aR:U0 H)(a9:i.size<=maxLen)(aQ:CJ n)(aP:EJ n M)(a7:∀t∈H,Gb t):
 Az Aa 35 #[v,S i] n (LkR M H i n):=by
 have al:=λa (hb:Ow n a)=>b.bG hb;have bm:=O0 (λa (hb:Ow n a)=>aQ.bG hb);have j:=λa (hb:Ow n a)=>aP.bG hb;obtain⟨aa,aq,rfl,b1,-⟩:=id b;unfold short at b1;have bq:=O0 aR;have bg:=O0 a7;have an:=λt z=>(a7 t z).sound;clear b aQ aP aR a7;have aS:Ow n (n.alloc (.cells #[W N 0 0,V C 0] 70)):=bA;have aw:=O0 aS;have aK:O9 (R2 (n.alloc (.cells #[W N 0 0,V C 0] 70)) n.heap.size (W N 0 0) (V C 0)):=R2.new ..;have bK:16<n.heap.size:=AL ((j n (Ae _ _)).c 17 O1);have bM:17<n.heap.size:=AL ((j n (Ae _ _)).c 18 O1);clear aS;by_cases bI:8<L H
 ·have B:O9 (¬DZ H i):=λb=>by have:=b.l;omega
  have b6:(8:Int)<(L H:Int):=O1;have bw:=(j _ aw.o).c 18 O1;simp only[Di,HT,Ax4,Ax3]at bw;go_enter func35,ntmps35;go_wp2;go_region
  all_goals(try go_wp2)
  all_goals
   obtain⟨p,q,-⟩:=aK.o;have br:(n.alloc (.cells #[W N 0 0,V C 0] 70)).drew.cell? ⟨n.heap.size,0,N⟩=_:=p;have bs:(n.alloc (.cells #[W N 0 0,V C 0] 70)).drew.cell? ⟨n.heap.size,1,N⟩=_:=q;refine AZ (v:=R #[HL,Di (M 18)]) (by simp[results,results35,go_sem,br,bs,HL,Di]) rfl ?_;exact⟨aw.o.drew,.inl ⟨B.o,_,_,⟨λb=>absurd b.l O1,.inr ⟨_,O1,rfl⟩⟩,rfl⟩⟩
 ·have bt:Md H:=⟨O1,bq.o⟩;have az:=O0 bt;have b6:¬(8:Int)<(L H:Int):=O1;have bn:O9 (∀a,Ow n a->Az Aa 67 #[W aa (L H) aq] a λe g=>e=F .nilIface/\Ow a g):=λa hb=>Aj7 (al a hb) (bm.o a hb) ⟨(j a hb).c,(j a hb).o,(j a hb).ne⟩ bg.o;have bp:O9 (∀a,Ow n a->Az Aa 68 #[W aa (L H) aq] a λe g=>Ow a g/\((B4 (HR H) H 0≠N/\∃E O,OZ M H (Z E O)/\e=F (R #[.map N,Z E O]))\/B4 (HR H) H 0=N/\∃h c,e=F (R #[.map (I h),.nilIface])/\XM g h c (D7 H (L H)))):=λa hb=>(Ao4 H _ a M (al a hb) az.o (j a hb)).mono λe g aE=>by
   obtain⟨u,ai⟩:=aE;refine⟨u,?_⟩;cases hD:B4 (HR H) H 0 with
   |some k=>rw[hD]at ai;exact .inl ⟨nofun,_,_,⟨λb=>(by rw[b.d]at hD;cases hD),.inl ⟨14,k,O1,rfl⟩⟩,ai⟩
   |none=>grind
  have bo:O9 (∀a h c,Ow n a->XM a h c (D7 H (L H))->Az Aa 69 #[W aa (L H) aq,.map (I h)] a λe g=>Ow a g/\((¬(B4 (λ_=>G8 H) H 0=N/\B4 (λ_=>JG H) H 0=N)/\∃E O,OZ M H (Z E O)/\e=F (Z E O))\/(B4 (λ_=>G8 H) H 0=N/\B4 (λ_=>JG H) H 0=N)/\e=F .nilIface)):=λa h c hb aG=>(Ah0 H _ a M h c _ (al a hb) aG (j a hb)).mono λe g aE=>by
   obtain⟨u,ai⟩:=aE;refine⟨ai,?_⟩;rw[Ar9]at u;cases hM:B4 (λ_=>G8 H) H 0 with
   |some k=>rw[hM]at u;exact .inl ⟨nofun,_,_,⟨λb=>(by rw[b.m]at hM;cases hM),.inl ⟨15,k,O1,rfl⟩⟩,u⟩
   |none=>
    rw[hM]at u;cases hA:B4 (λ_=>JG H) H 0 with
    |some k=>rw[hA]at u;exact .inl ⟨nofun,_,_,⟨λb=>(by rw[b.a]at hA;cases hA),.inl ⟨16,k,O1,rfl⟩⟩,u⟩
    |none=>rw[hA]at u;exact .inr ⟨⟨rfl,rfl⟩,u⟩
  have aJ:O9 (∀a,Ow n a->Az Aa 70 #[W aa (L H) aq] a λe g=>e=F (V C (sz H:Int))/\Ow a g):=λa hb=>Ae2 H _ a (al a hb) az.o λt z a3 aB=>((an t z).ne a3 aB).2;have ah:=O0 (Re H i);go_enter func35,ntmps35;go_upto_region 12 with(first
   |(go_at_call 67;refine(bn.o _ aw.o).mono ?_;rintro e bC ⟨rfl,a8⟩;have aj:=O0 (aw.o.trans (a8.mono O2):Ow n bC);have b0:=aK.o.bG a8;have a1:=O0 b0;clear a8)
   |(go_at_call 68;refine(bp.o _ aj.o).mono ?_;rintro e aY ⟨ad,⟨aD,E,O,au,rfl⟩|⟨aD,h,nx,rfl,aX⟩⟩;(·have a0:=O0 aD;have ay:=O0 au;clear au;have ab:=O0 (aj.o.trans (ad.mono aj.o.size):Ow n aY);obtain⟨u0,b8,ae⟩:=a1.o.bG ad;have am:=O0 (a1.o.bG ad);have b9:=ae 0;have bB:=ae 1;clear ad ae;go_wp2;obtain⟨p,q,-⟩:=am.o.put (W N 0 0) (V C 0);refine AZ (v:=R #[HL,Z E O]) (by simp[results,results35,go_sem,p,q,HL]) rfl ?_;exact⟨(ab.o.setCell (Ac _) _).setCell (Ac _) _,.inl ⟨λb=>a0.o b.d,_,_,ay.o,rfl⟩⟩);have a0:=O0 aD;have ab:=O0 (aj.o.trans (ad.mono aj.o.size):Ow n aY);have aM:=O0 aX;have am:=O0 (a1.o.bG ad);clear ad aX)
   |(go_at_call 69;refine(bo.o _ _ _ ab.o aM.o).mono ?_;rintro e G ⟨U,⟨aC,E,O,au,rfl⟩|⟨aC,rfl⟩⟩;(·have ak:=O0 aC;have ay:=O0 au;clear au;have f:=O0 (ab.o.trans (U.mono ab.o.size):Ow n G);obtain⟨u0,b8,ae⟩:=am.o.bG U;have y:=O0 (am.o.bG U);have b9:=ae 0;have bB:=ae 1;clear U ae;go_wp2;obtain⟨p,q,-⟩:=y.o.put (W N 0 0) (V C 0);refine AZ (v:=R #[HL,Z E O]) (by simp[results,results35,go_sem,p,q,HL]) rfl ?_;exact⟨(f.o.setCell (Ac _) _).setCell (Ac _) _,.inl ⟨λb=>ak.o ⟨b.m,b.a⟩,_,_,ay.o,rfl⟩⟩);have ak:=O0 aC;have f:=O0 (ab.o.trans (U.mono ab.o.size):Ow n G);have y:=am.o.bG U;have ao:=aM.o.bG U;clear U))
  cases hE:Gj H i with
  |none=>
   rw[hE]at ah;have B:O9 (¬DZ H i):=λb=>by obtain⟨c,aZ,e⟩:=b.e;grind
   have D:=ao.look i a9;rw[ah.o]at D;simp only[IR,DA,Ay3,Option.map_none]at D;obtain⟨ba,bb,x⟩:=y.bG ((Ae _ _).alloc (Ac _) (.cells #[V C 0,V C 0] 191));have bc:=x 0;have bd:=x 1;have Y:=((j _ f.o).bG ((Ae _ _).alloc (Ac _) (.cells #[V C 0,V C 0] 191))).c 17 O1;simp only[Di,HT,Ax4,Ax3]at Y;have aT:=λK=>(World.cell?_setCell_far (G.alloc (.cells #[V C 0,V C 0] 191)) ⟨n.heap.size,0,N⟩ ⟨16,0,N⟩ K O5).trans Y;clear hE x;go_wp2;go_region
   all_goals(try go_wp2)
   all_goals
    obtain⟨p,q,-⟩:=(R2.put (y.bG ((Ae _ _).alloc (Ac _) (.cells #[V C 0,V C 0] 191))) (W N 0 0) (V C 0)).drew;refine AZ (v:=R #[HL,Di (M 17)]) (by simp[results,results35,go_sem,p,q,HL,Di]) rfl ?_;exact⟨(((f.o.alloc f.o.size _).setCell (Ac _) _).setCell (Ac _) _).drew,.inl ⟨B.o,_,_,⟨λ_ _=>rfl,.inr ⟨_,O1,rfl⟩⟩,rfl⟩⟩
  |some r=>
   obtain⟨c,aZ,ap⟩:=r;rw[hE]at ah;have bj:O9 (Dx H i=(c:Int)):=by show _=_;unfold Dx;rw[hE]
   simp only[Azb]at ah;by_cases bu:ap=0
   ·subst bu;have bf:=O0 hE;have D:=ao.look i a9;rw[ah.o]at D;simp only[IR,DA,Ay2]at D;obtain⟨ba,bb,x⟩:=y.bG ((Ae _ _).alloc (Ac _) (.cells #[V C (c:Int),V C 0] 191));have bc:=x 0;have bd:=x 1;have Y:=((j _ f.o).bG ((Ae _ _).alloc (Ac _) (.cells #[V C (c:Int),V C 0] 191))).c 17 O1;simp only[Di,HT,Ax4,Ax3]at Y;have aT:=λK=>(World.cell?_setCell_far (G.alloc (.cells #[V C (c:Int),V C 0] 191)) ⟨n.heap.size,0,N⟩ ⟨16,0,N⟩ K O5).trans Y;clear hE x;by_cases bJ:200000<sz H
    ·have B:O9 (¬DZ H i):=λb=>by have:=b.s;omega
     have ib:(200000:Int)<(sz H:Int):=O1;go_wp2_with (first
      |(go_at_call 70;refine(aJ.o _ (f.o.alloc f.o.size _)).mono ?_;rintro e af ⟨rfl,w⟩;have ac:=O0 ((f.o.alloc f.o.size _).trans (w.mono (by have:=f.o.size;simp;omega)):Ow n af);have av:=(y.bG bA).bG w;have a2:=O0 av;have aI:=O0 ((R2.new G (V C (c:Int)) (V C 0) 191).bG w);obtain⟨bD,bE,ag⟩:=av;have bG:=ag 0;have bH:=ag 1;have ar:=(j _ ac.o).c 18 O1;simp only[Di,HT,Ax4,Ax3]at ar;have bx:=λK=>(World.cell?_setCell_far af ⟨n.heap.size,0,N⟩ ⟨17,0,N⟩ K O6).trans ar;have aN:=O0 ((ao.bG bA).bG w);clear w ag))
     go_region
     all_goals(try go_wp2)
     all_goals
      obtain⟨p,q,-⟩:=(R2.put a2.o (W N 0 0) (V C 0)).drew;refine AZ (v:=R #[HL,Di (M 18)]) (by simp[results,results35,go_sem,p,q,HL,Di]) rfl ?_;exact⟨((ac.o.setCell (Ac _) _).setCell (Ac _) _).drew,.inl ⟨B.o,_,_,⟨λ_ b=>absurd b O1,.inr ⟨_,O1,rfl⟩⟩,rfl⟩⟩
    ·have B:O9 (DZ H i):=⟨O1,a0.o,ak.o.1,ak.o.2,⟨c,aZ,bf.o⟩,O1⟩;have ib:¬(200000:Int)<(sz H:Int):=O1;have bi:O9 (∀a h nx,Ow n a->XM a h nx (D7 H (L H))->Az Aa 71 #[W aa (L H) aq,.map (I h)] a λe g=>Ow a g/\∃aa c aO,e=F (W aa c aO)/\E2 a.heap.size g (W aa c aO) (Cj H)):=λa h nx hb aG=>by
      have u:=Ak6 H _ h nx _ a (al a hb) aG az.o (λt z a3 aB=>((an t z).ne a3 aB).2) (Ay (WG an) O1) λt z=>(an t z).ix;have ai:Cj H=FF (D7 H (L H)) H 0:=Abf λt z=>⟨an t z,by
       obtain⟨b5,bz,rfl⟩:=AQ z;exact Td ak.o.1 b5 bz⟩
      rwa[ai]
     go_upto_region 17 with(first
      |(go_at_call 70;refine(aJ.o _ (f.o.alloc f.o.size _)).mono ?_;rintro e af ⟨rfl,w⟩;have ac:=O0 ((f.o.alloc f.o.size _).trans (w.mono (by have:=f.o.size;simp;omega)):Ow n af);have av:=(y.bG bA).bG w;have a2:=O0 av;have aI:=O0 ((R2.new G (V C (c:Int)) (V C 0) 191).bG w);obtain⟨bD,bE,ag⟩:=av;have bG:=ag 0;have bH:=ag 1;have ar:=(j _ ac.o).c 18 O1;simp only[Di,HT,Ax4,Ax3]at ar;have bx:=λK=>(World.cell?_setCell_far af ⟨n.heap.size,0,N⟩ ⟨17,0,N⟩ K O6).trans ar;have aN:=O0 ((ao.bG bA).bG w);clear w ag))
     have bN:=y.lt;have b7:af.drew.cell? ⟨G.heap.size,0,N⟩=I (V C (c:Int)):=aI.o.c0;have bh:=O0 (bi.o af.drew h nx ac.o.drew (aN.o.bG (Ae _ _).drew));have aL:=O0 a2.o.drew;have b2:=ac.o.size;have aF:=aL.o.lt;clear D;go_region_held_law (λg=>g.cell? ⟨G.heap.size,0,N⟩=I (V C (c:Int))) (first|assumption|(rw[World.cell?_setCell_far _ _ _ _ O5,World.cell?_setCell_far _ _ _ _ O5];omega))
      (first
       |(go_at_call 71;refine bh.o.mono ?_;rintro e w5 ⟨ax,a6,a5,a4,rfl,aV⟩;have bP:=Bu ax b7;have be:=O0 (ac.o.drew.trans (ax.mono b2):Ow n w5);have aW:=aL.o.bG ax;have bl:=O0 aW;obtain⟨bS,bT,aH⟩:=aW;have bU:=aH 0;have bV:=aH 1;have bk:=O0 aV;clear ax aV aH))
     all_goals(try go_wp2)
     all_goals
      obtain⟨p,q,-⟩:=bl.o.put (W a6 a5 a4) (V C (c:Int));refine AZ (v:=R #[T #[W a6 a5 a4,V C (c:Int)],.nilIface]) (by simp[results,results35,go_sem,p,q]) rfl ?_;exact⟨(be.o.setCell (Ac _) _).setCell (Ac _) _,.inr ⟨B.o,a6,a5,a4,by rw[bj.o],((bk.o.set aF _).set aF _).low (Azp aF)⟩⟩
   ·have B:O9 (¬DZ H i):=λb=>by obtain⟨bO,bQ,e⟩:=b.e;grind
    have D:=ao.look i a9;rw[ah.o]at D;simp only[IR,DA,Ay2]at D;obtain⟨ba,bb,x⟩:=y.bG ((Ae _ _).alloc (Ac _) (.cells #[V C (c:Int),V C ap] 191));have bc:=x 0;have bd:=x 1;have Y:=((j _ f.o).bG ((Ae _ _).alloc (Ac _) (.cells #[V C (c:Int),V C ap] 191))).c 17 O1;simp only[Di,HT,Ax4,Ax3]at Y;have aT:=λK=>(World.cell?_setCell_far (G.alloc (.cells #[V C (c:Int),V C ap] 191)) ⟨n.heap.size,0,N⟩ ⟨16,0,N⟩ K O5).trans Y;clear hE x;go_wp2;go_region
    all_goals(try go_wp2)
    all_goals
     obtain⟨p,q,-⟩:=(R2.put (y.bG ((Ae _ _).alloc (Ac _) (.cells #[V C (c:Int),V C ap] 191))) (W N 0 0) (V C 0)).drew;refine AZ (v:=R #[HL,Di (M 17)]) (by simp[results,results35,go_sem,p,q,HL,Di]) rfl ?_;exact⟨(((f.o.alloc f.o.size _).setCell (Ac _) _).setCell (Ac _) _).drew,.inl ⟨B.o,_,_,⟨λ_ _=>rfl,.inr ⟨_,O1,rfl⟩⟩,rfl⟩⟩
theorem Apn(j:IW n p H)(ac:U0 H)(ad:m.size<=maxLen)(u:CJ n)(k:EJ n M)(t:∀ab∈H,Gb ab):
 Az Aa 22 #[p,S m] n λb r=>Ow n r/\((¬DZ H m/\∃a K:Int,a≠0/\(HV H->sz H<=200000->a=18)/\b=F (R #[J N,V C a,V C K]))\/DZ H m/\∃f q G a,b=F (R #[J (I ⟨f,0,N⟩),V C 0,V C 0])/\n.heap.size<=f/\R2 r f (W q G a) (V C (Dx H m))/\E2 n.heap.size r (W q G a) (Cj H)):=by
 have Y:=Aov j ac ad u k t;obtain⟨q,ah,rfl,-⟩:=id j;have ag:=Vn;have aa:=O0 λd (hb:Ow n d)=>k.bG hb;clear j u k t;go_enter func22,ntmps22;go_wp2_with (first
  |(go_at_call 35;refine Y.mono ?_;rintro b d ⟨c,⟨l,ai,aj,z,rfl⟩|⟨l,i,h,g,rfl,B⟩⟩;(·unfold HL;let ⟨a,K,x,y,E⟩:=z.told (aa.o d c);have s:=Aw6 x y;clear z x y;go_wp2_with (first
   |(go_at_call 16;refine(E.BB _ bA).mono ?_;rintro b af ⟨rfl,v⟩;have e:=O0 (bA.trans (v.mono O2):Ow d af);clear v)
   |(go_at_call 17;refine(E.place _ e.o).mono ?_;rintro b w5 ⟨rfl,w⟩;have O:=O0 (c.trans ((e.o.trans (w.mono e.o.size)).mono c.size));clear w));go_ret3;exact⟨O.o,.inl ⟨l,_,_,s.1,s.2,rfl⟩⟩);have U:=O0 B;clear B))
 go_ret3
 have ae:=c.size;refine⟨(c.alloc ae _).alloc O5 _,.inr ⟨l,?_⟩⟩;have D:=R2.new (d.alloc (.cells #[W i h g,V C (Dx H m)] 70)) (W i h g) (V C (Dx H m)) 72;rw[Ay1]at D;exact⟨_,i,h,g,rfl,O1,D,(U.o.bG bA).bG bA⟩
theorem AF.grown(a:AF t n q)(b:q.grownBy Y x2)(h:∀c,x2=I c->c∈t\/n.heap.size<=c):AF t n Y:=
 ⟨b.os.trans a.os,b.tape.trans a.tape,b.output.trans a.output,Ay a.size b.size,λd f e=>(b.block d (Am f a.size) λg=>(h d g.symm).elim e O1).trans (a.block d f e)⟩
def B7(d:Q)(b:Nat)(a:List X):Prop:=FB d b (L a) λc=>(a[c]?).getD .nilIface
theorem B7.at{w:Q}{b:Nat}(e:B7 w b wj)(a:Nat){d:X}(g:wj[a]?=I d):w.cell? ⟨b,a,N⟩=I d:=by
 have f:=(AK.1 g).1;have:=e.c a f;grind
theorem B7.set{b:Nat}(a:B7 n b wj){i:Nat}(f:i<L wj)(u:X):B7 (n.setCell ⟨b,i,N⟩ u) b (wj.set i u):=by
 refine⟨λj e=>?_,λj=>by rw[Aq];exact a.fz j,by simpa using a.lt⟩;rw[Ayc]at e;by_cases d:j=i
 ·subst d;rw[Au _ _ _ (a.c j e)];simp[f]
 ·rw[G4 (Aym d),a.c j e,List.getElem?_set_ne (Aym d)]
theorem B7.bX{b w':Q}{a:Nat}{c:List X}(e:B7 b a c)(d:w'.heap[a]?=b.heap[a]?)(f:b.heap.size<=w'.heap.size):B7 w' a c:=FB.bX e d f
structure Cb where
 BB:Int
 n:Int
 left:Int
 right:Int
 BX:List Int
structure HG where
 base:Int
 Bj:List BJ
 at_:Int
structure BA where
 cells:List Cb
 Bm:List Int
 fr:HG
 BR:List HG
 su:Int
 sm:Int
 mu:Int
 mm:Int
 state:Int
 BB:Int
 text:List UInt8
def Ep(a:Cb×X):List X:=[V .u8 a.1.BB,V C a.1.n,V .i32 a.1.left,V .i32 a.1.right,a.2]
def Jg(a:HG×X):List X:=[V C a.1.base,a.2,V C a.1.at_]
def Ci(a:List Int):List X:=a.map λb=>V .i32 b
def Kz(a:List UInt8):List X:=a.map λb=>V .u8 (b.toNat:Int)
def E9(f:Nat->Prop)(i:Q)(h:X)(c:List Int):Prop:=∃e g,h=W e (L c) g/\∀b (j:b<L c),∃a d,f a/\e=I ⟨a,d,N⟩/\i.cell? ⟨a,d+b,N⟩=I (.int .i32 c[b])
theorem E9.fr(e:E9 v8 n p wi)(f:∀a,v8 a->a<n.heap.size->ya a/\q.heap[a]?=n.heap[a]?):E9 ya q p wi:=by
 let ⟨o,cap,c,g⟩:=e
 refine⟨o,cap,c,λj h=>?_⟩;let ⟨a,m,i,d,b⟩:=g j h
 let ⟨k,l⟩:=f a i (AL b)
 exact⟨a,m,k,d,Eu l b⟩
def Fe(d:Nat)(e:Q)(b:X)(a:List BJ):Prop:=(b=W N 0 0/\a=[])\/FD (λc=>c<d) e b a
theorem Fe.fr{b:Nat}{e f:Q}{d:X}{c:List BJ}(a:Fe b e d c)(hb:Below b e f):Fe b f d c:=a.imp id λa=>a.fr hb.size λg h _=>hb.block g h
def mL(b:Nat)(c f e d g:X)(a:BA):List X:=[J (I ⟨b,0,N⟩),c,f,V C a.fr.base,e,V C a.fr.at_,d,V C a.su,V C a.sm,V C a.mu,V C a.mm,V C a.state,V C a.BB,g]
def mB(a:Nat)(b d c e:X):List Nat:=a::(vB b++(vB d++(vB c++vB e)))
structure BW (a:Nat) (d:Q) (e n:Nat) (c:BA) (f:List (Cb×X)) (h:List (HG×X)) (g j l i k:X):Prop where
 m:B7 d e (mL n g j l i k c)
 cl:d.ownsRow a 197 5 g (L f) (f.flatMap Ep)
 fl:∀x∈f,E9 (λb=>a<=b/\b∉mB e g j i k) d x.2 x.1.BX
 sk:d.ownsRow a 106 1 j (L c.Bm) (Ci c.Bm)
 dp:d.ownsRow a 111 3 i (L h) (h.flatMap Jg)
 dc:∀x∈h,Fe a d x.2 x.1.Bj
 cd:Fe a d l c.fr.Bj
 tx:d.ownsRow a 5 1 k (L c.text) (Kz c.text)
 Fh:f.map (·.1)=c.cells
 GD:h.map (·.1)=c.BR
 nd:(mB e g j i k).Nodup
 ml:a<=e
theorem FV(a:n.ownsRow w wp s p b wj)(hb:j∈vB p):w<=j/\j<n.heap.size:=⟨PN a (Ca.1 hb),UY a (Ca.1 hb)⟩
variable{d:BA}{nu:List (Cb×Value)}{nq:List (HG×Value)}
theorem BW.rg(a:BW w n s b d nu nq p y e G wz):∀c∈mB s p y G wz,w<=c/\c<n.heap.size:=by
 intro c hb;rcases AX.1 hb with rfl|hb
 ·exact⟨a.ml,a.m.lt⟩
 rcases Ag.1 hb with hb|hb
 ·exact FV a.cl hb
 rcases Ag.1 hb with hb|hb
 ·exact FV a.sk hb
 rcases Ag.1 hb with hb|hb
 ·exact FV a.dp hb
 ·exact FV a.tx hb
theorem BW.lz(a:BW w n s b d nu nq p y e G wz):w<=n.heap.size:=Ay a.ml (Azp a.m.lt)
abbrev mA(b:Nat)(d:List X):As:=⟨[b],λh=>B7 h b d/\L d=14,λa _ f=>Ax.1 f▸cells_of_cell (a.1.c 0 O1),λa g e=>⟨a.1.bX (e _ (.head _)) g,a.2⟩⟩
abbrev Rm(f:Nat)(c:A0)(h:Nat)(b:X)(g:Nat)(j:List X):As:=⟨vB b,λi=>i.ownsRow f c h b g j,λa _ e=>.ce (Jk a) e,λa _ d=>G5 a d⟩
abbrev mS(b i j:Nat)(a:BA)(c:List (Cb×X))(e:List (HG×X))(d g k f h:X):List As:=[mA i (mL j d g k f h a),Rm b 197 5 d (L c) (c.flatMap Ep),Rm b 106 1 g (L a.Bm) (Ci a.Bm),Rm b 111 3 f (L e) (e.flatMap Jg),Rm b 5 1 h (L a.text) (Kz a.text)]
theorem L6{lo Pb:Nat}{st:BA}{cs:List (Cb×X)}{ds:List (HG×X)}{kv:X}:fp (mS lo w Pb st cs ds p y kv e G)=mB w p y e G:=by simp[fp,mB]
theorem BW.sp(a:BW w n s b d nu nq p y e G wz):Bz w n (mS w s b d nu nq p y e G wz) n (mS w s b d nu nq p y e G wz):=
 Sp.ca ⟨a.lz,by simp only[List.forall_mem_cons];exact⟨⟨a.m,rfl⟩,a.cl,a.sk,a.dp,a.tx,nofun⟩,by rw[L6];exact a.nd,by rw[L6];exact a.rg⟩
variable{xp:List (Cb×Value)}{y8:List (HG×Value)}
theorem BW.step{st':BA}(g:BW w n s b d nu nq p y e G wz)(M:Bz w n (mS w s b d nu nq p y e G wz) q (mS w s b st' xp y8 vh zi zj zk zl))(H:∀c∈xp,E9 (λa=>w<=a/\a∉mB s p y G wz) n c.2 c.1.BX)(E:∀c∈y8,Fe w n c.2 c.1.Bj)(D:Fe w n zj st'.fr.Bj)(o:xp.map (·.1)=st'.cells)(r:y8.map (·.1)=st'.BR):BW w q s b st' xp y8 vh zi zj zk zl/\AF (mB s p y G wz) n q/\∀a∈mB s vh zi zk zl,a∈mB s p y G wz\/n.heap.size<=a:=by
 let ⟨f,m,i⟩:=M
 have k:=m.h;have l:=m.nd;simp only[L6,List.forall_mem_cons]at f i k l;obtain⟨t,u,v,x,z,-⟩:=k;have hb:=f.low (λa hb=>(g.rg a hb).1) g.lz;exact⟨⟨t.1,u,λc j=>(H c j).fr λa h B=>⟨⟨h.1,λK=>(i a K).elim h.2 O1⟩,f.block a B h.2⟩,v,x,λc j=>(E c j).fr hb,D.fr hb,z,o,r,l,g.ml⟩,f,i⟩
theorem Bz.cZ{a:Nat}{u:X}(c:Bz w n wg q (mA a wj::ng))(h:b<14):Bz w n wg (q.setCell ⟨a,b,N⟩ u) (mA a (wj.set b u)::ng):=
 have ⟨e,f⟩:=c.mem (.head _);c.cD (L1:=[]) (AF.refl.set (.inl (.head _)) u) ⟨e.set O1 u,by simpa using f⟩ O2 λg d=>⟨.inl d,by simpa using(c.s.rg g (IM (.head _) d)).2⟩
theorem Kq(c:AF t n q)(d:∀a∈n8,a∈t\/n.heap.size<=a)(b:nk/\AF n8 q Y/\∀a∈st,a∈n8\/q.heap.size<=a):nk/\AF t n Y/\∀a∈st,a∈t\/n.heap.size<=a:=⟨b.1,c.trans b.2.1 d,λa hb=>(b.2.2 a hb).elim (d a) λe=>.inr (Ay c.size e)⟩
theorem BW.bG{i:Nat}{w m:Q}{b c:Nat}{j:BA}{d:List (Cb×X)}{f:List (HG×X)}{e k h g l:X}(a:BW i w b c j d f e k h g l)(hb:Ow w m):BW i m b c j d f e k h g l:=(a.step (a.sp.bG hb) a.fl a.dc a.cd a.Fh a.GD).1
theorem BW.cN{st':BA}{kv' u:X}{i:Nat}(a:BW w n s b d nu nq p y e G wz)(k:(mL b p y e G wz d).set i u=mL b p y kv' G wz st')(m:i<14)(f:st'.cells=d.cells)(g:st'.Bm=d.Bm)(h:st'.BR=d.BR)(j:st'.text=d.text)(l:Fe w n kv' st'.fr.Bj):BW w (n.setCell ⟨s,i,N⟩ u) s b st' nu nq p y kv' G wz:=by
 have c:=a.sp.cZ (u:=u) m;rw[k,<-g,<-j]at c;exact(a.step c a.fl a.dc l (f▸a.Fh) (h▸a.GD)).1
theorem BW.d0(a:BW w n s b d nu nq p y e G wz)(i:AF (vB y) n q){f:List Int}(h:q.ownsRow w 106 1 vh (L f) (Ci f))(j:∀c∈vB vh,c∈vB y\/n.heap.size<=c):BW w (q.setCell ⟨s,2,N⟩ vh) s b {d with Bm:=f} nu nq p vh e G wz/\AF (mB s p y G wz) n (q.setCell ⟨s,2,N⟩ vh)/\∀c∈mB s p vh G wz,c∈mB s p y G wz\/n.heap.size<=c:=
 a.step ((a.sp.cD (L1:=[_,_]) i h (Hs _) λk g=>⟨j k g,(FV h g).2⟩).cZ O1) a.fl a.dc a.cd a.Fh a.GD
theorem BW.eu{cs':List (Cb×X)}(c:BW w n s b d nu nq p y e G wz)(i:AF (vB p) n q)(g:q.ownsRow w 197 5 vh (L cs') (cs'.flatMap Ep))(j:∀h∈cs',E9 (λa=>w<=a/\a∉mB s p y G wz) n h.2 h.1.BX)(k:∀a∈vB vh,a∈vB p\/n.heap.size<=a):BW w (q.setCell ⟨s,1,N⟩ vh) s b {d with cells:=cs'.map (·.1)} cs' nq vh y e G wz/\AF (mB s p y G wz) n (q.setCell ⟨s,1,N⟩ vh)/\∀a∈mB s vh y G wz,a∈mB s p y G wz\/n.heap.size<=a:=
 c.step ((c.sp.cD (L1:=[_]) i g (Hs _) λl f=>⟨k l f,(FV g f).2⟩).cZ O1) j c.dc c.cd rfl c.GD
theorem BW.eo{ds':List (HG×X)}(c:BW w n s b d nu nq p y e G wz)(i:AF (vB G) n q)(g:q.ownsRow w 111 3 vh (L ds') (ds'.flatMap Jg))(j:∀h∈ds',Fe w n h.2 h.1.Bj)(k:∀a∈vB vh,a∈vB G\/n.heap.size<=a):BW w (q.setCell ⟨s,6,N⟩ vh) s b {d with BR:=ds'.map (·.1)} nu ds' p y e vh wz/\AF (mB s p y G wz) n (q.setCell ⟨s,6,N⟩ vh)/\∀a∈mB s p y vh wz,a∈mB s p y G wz\/n.heap.size<=a:=
 c.step ((c.sp.cD (L1:=[_,_,_]) i g (Hs _) λl f=>⟨k l f,(FV g f).2⟩).cZ O1) c.fl j c.cd c.Fh rfl
theorem BW.eE(a:BW w n s b d nu nq p y e G wz)(h:AF (vB wz) n q){t':List UInt8}(g:q.ownsRow w 5 1 vh (L t') (Kz t'))(i:∀c∈vB vh,c∈vB wz\/n.heap.size<=c):BW w (q.setCell ⟨s,13,N⟩ vh) s b {d with text:=t'} nu nq p y e G vh/\AF (mB s p y G wz) n (q.setCell ⟨s,13,N⟩ vh)/\∀c∈mB s p y G vh,c∈mB s p y G wz\/n.heap.size<=c:=
 a.step ((a.sp.cD (L1:=[_,_,_,_]) h g (Hs _) λj f=>⟨i j f,(FV g f).2⟩).cZ .refl) a.fl a.dc a.cd a.Fh a.GD
theorem BW.ec(a:BW w n s b d nu nq p y e G wz)(h:AF (vB y) n q){s':List Int}(f:q.ownsRow w 106 1 y (L s') (Ci s')):BW w q s b {d with Bm:=s'} nu nq p y e G wz/\AF (mB s p y G wz) n q:=
 have g:=a.step (st':={d with Bm:=s'}) (a.sp.cD (L1:=[_,_]) h f (Hs _) λ_ c=>⟨.inl c,(FV f c).2⟩) a.fl a.dc a.cd a.Fh a.GD
 ⟨g.1,g.2.1⟩
theorem BW.eZ(a:BW w n s b d nu nq p y e G wz)(j:AF (vB p) n q)(g:q.ownsRow w 197 5 p (L xp) (xp.flatMap Ep))(k:∀i∈xp,E9 (λc=>w<=c/\c∉mB s p y G wz) n i.2 i.1.BX):BW w q s b {d with cells:=xp.map (·.1)} xp nq p y e G wz/\AF (mB s p y G wz) n q:=
 have h:=a.step (st':={d with cells:=xp.map (·.1)}) (a.sp.cD (L1:=[_]) j g (Hs _) λ_ f=>⟨.inl f,(FV g f).2⟩) k a.dc a.cd rfl a.GD
 ⟨h.1,h.2.1⟩
def MM(k:Nat)(m:Q)(a g:Nat)(l:BA)(f:List Nat):Prop:=∃h i b d j c e,BW k m a g l h i b d j c e/\f=mB a b d c e
theorem MM.bG{e:Nat}{w g:Q}{c d:Nat}{f:BA}{b:List Nat}(a:MM e w c d f b)(hb:Ow w g):MM e g c d f b:=by
 let ⟨h,j,i,n,m,k,o,a,l⟩:=a
 exact⟨h,j,i,n,m,k,o,a.bG hb,l⟩
def B2(i f g:Nat)(a:List Nat)(d:Q)(k:BA)(j:X)(h:Ending)(e:Q):Prop:=h=F j/\AF a d e/\∃b,MM i e f g k b/\∀c∈b,c∈a\/d.heap.size<=c
theorem B2.drew{d M b:Nat}{a:List Nat}{g:Q}{f:BA}{e:X}{c:Ending}{h:Q}(j:B2 d M b a g f e c h):B2 d M b a g f e c h.drew:=
 have ⟨k,l,i,m,n⟩:=j
 ⟨k,l.drew,i,m.bG (Ae _ _).drew,n⟩
theorem Jn{r:X}(a:BW w q s b d nu nq p y e G wz/\AF t n q/\∀c∈mB s p y G wz,c∈t\/n.heap.size<=c):B2 w s b t n d r (F r) q:=⟨rfl,a.2.1,_,⟨_,_,_,_,_,_,_,a.1,rfl⟩,a.2.2⟩
theorem DQ.lo{c:Nat}{w w':Q}{e:A0}(d:DQ w e b p y s wj w')(k:c<=w.heap.size)(i:∀f∈vB p,c<=f):w'.ownsRow c e b y s wj:=⟨d.own.1,d.own.2.imp id λ⟨a,g,j,e,_,h⟩=>⟨a,g,j,e,(d.nb a (by rw[e,EV];simp)).1.elim (i a) O1,h⟩⟩
theorem KD(a:-9223372036854775808<=D/\D<=9223372036854775807):IntKind.i64.wrap D=D:=by rw[IntKind.wrap_i64];omega
theorem Adz(e f:Nat)(b c a:Int)(d:Q)(j:d.cell? ⟨e,f,N⟩=I (V C b))(k:d.cell? ⟨e,f+1,N⟩=I (V C c))(l:d.frozen? ⟨e,f,N⟩=false)(r:0<=b/\b<=1000000000000)(p:0<=c/\c<=1000000000000)(q:0<=a/\a<=1000000000000):
 Az Aa 126 #[J (I ⟨e,f,N⟩),V C a] d λg i=>(a<=c-b/\g=F (A true)/\i=d.drew.setCell ⟨e,f,N⟩ (V C (b+a)))\/(c-b<a/\g=F (A false)/\i=d.drew):=by
 have m:=j;have n:=k;have o:=l;by_cases h:c-b<a;all_goals
  go_enter func126,ntmps126;go_wp2;go_region
  go_wp2;go_ret;first|exact .inr ⟨h,rfl,rfl⟩|exact .inl ⟨h,rfl,rfl⟩
structure Fw (a:BA):Prop where
 su:0<=a.su/\a.su<=a.sm
 sm:a.sm<=2000000
 mu:0<=a.mu/\a.mu<=a.mm
 mm:a.mm<=2000000
def CY(a:Int)(b:BA):BA:={b with state:=2,BB:=a}
def Ec(a:BA):Bool:=decide (1<=a.sm-a.su)
def Ck(a:BA):BA:=if Ec a then {a with su:=a.su+1} else CY 1 a
def I5(b:Int)(a:BA):Bool:=decide (b<=a.mm-a.mu)
def Ef(b:Int)(a:BA):BA:=if I5 b a then {a with mu:=a.mu+b} else CY 2 a
theorem Ka(c:Int)(a:MM w n s b d t):
 Az Aa 127 #[J (I ⟨s,0,N⟩),V C c] n λq r=>B2 w s b t n (CY c d) (R #[]) q r:=by
 obtain⟨o,p,e,j,h,f,k,a,rfl⟩:=a;have x:=a.m.at 11 rfl;have y:=a.m.at 12 rfl;have z:=a.m.fz 11;have B:=a.m.fz 12;have l:MM w ((n.setCell ⟨s,11,N⟩ (V C 2)).setCell ⟨s,12,N⟩ (V C c)) s b (CY c d) (mB s e j f k):=by
  have g:=a.cN (i:=11) (st':={d with state:=2}) rfl O1 rfl rfl rfl rfl a.cd;exact⟨o,p,e,j,h,f,k,g.cN (i:=12) (u:=V C c) (st':=CY c d) (kv':=h) rfl O1 rfl rfl rfl rfl g.cd,rfl⟩
 go_wp2;exact bF ⟨rfl,(AF.refl.set (Be (Aw3 ..)) _).set (Be (Aw3 ..)) _,_,l,λv hb=>Be hb⟩ O2 rfl rfl
theorem BW.drew{g:Nat}{k:Q}{M a:Nat}{h:BA}{b:List (Cb×X)}{d:List (HG×X)}{c i f e j:X}(l:BW g k M a h b d c i f e j):BW g k.drew M a h b d c i f e j:=l.bG (Ae _ _).drew
theorem B2.of{lo M Pb:Nat}{r r':X}{e e':Ending}{w':Q}(g:AF t n q)(h:∀b∈n8,b∈t\/n.heap.size<=b)(f:B2 lo M Pb n8 q d r e w')(i:e'=F r'):B2 lo M Pb t n d r' e' w':=
 have ⟨_,j,c,k,hb⟩:=f;have a:=Kq g h ⟨k,j,hb⟩
 ⟨i,a.2.1,c,a.1,a.2.2⟩
theorem MQ(a:MM w n s b d t)(g:Fw d):
 Az Aa 73 #[J (I ⟨s,0,N⟩)] n λc l=>B2 w s b t n (Ck d) (A (Ec d)) c l:=by
 obtain⟨p,r,q,z,y,u,B,a,rfl⟩:=a;have v:=g.su;have x:=g.sm;have j:=Adz s 7 d.su d.sm 1 n (a.m.at 7 rfl) (a.m.at 8 rfl) (a.m.fz 7) O1 O1 O1;have e:=O0 a.drew;have i:=Ka 1 ⟨_,_,_,_,_,_,_,a.drew,rfl⟩;go_enter func73,ntmps73;go_wp2_with (first
  |(apply j.mono;rintro c D (⟨f,rfl,rfl⟩|⟨f,rfl,rfl⟩))
  |(apply i.mono;intro c E h;obtain⟨rfl,-⟩:=id h))
 ·have hb:Ec d=true:=decide_eq_true f;go_ret;rw[show Ck d={d with su:=d.su+1} from if_pos hb,hb];exact Jn ⟨e.o.cN rfl O1 rfl rfl rfl rfl e.o.cd,AF.set (AF.bW (Ae _ _).drew) (.inl (.head _)) _,λk hb=>.inl hb⟩
 ·have hb:Ec d=false:=decide_eq_false O1;go_ret;rw[show Ck d=CY 1 d from if_neg (by simp[hb]),hb];exact h.of (AF.bW (Ae _ _).drew) (λk hb=>.inl hb) rfl
theorem Abp(a:Int)(B:0<=a/\a<=1000000)(c:MM w n s b d t)(i:Fw d):
 Az Aa 228 #[J (I ⟨s,0,N⟩),V C a] n λe q=>B2 w s b t n (Ef a d) (A (I5 a d)) e q:=by
 obtain⟨r,v,u,E,D,x,G,c,rfl⟩:=c;have y:=i.mu;have z:=i.mm;have l:=Adz s 9 d.mu d.mm a n (c.m.at 9 rfl) (c.m.at 10 rfl) (c.m.fz 9) O1 O1 O1;have g:=O0 c.drew;have k:=Ka 2 ⟨_,_,_,_,_,_,_,c.drew,rfl⟩;clear c;go_enter func228,ntmps228;go_wp2_with (first
  |(apply l.mono;rintro e H (⟨h,rfl,rfl⟩|⟨h,rfl,rfl⟩))
  |(apply k.mono;intro e K f;obtain⟨rfl,-⟩:=id f;have j:=O0 f;clear f))
 ·have hb:I5 a d=true:=decide_eq_true h;go_ret;rw[show Ef a d={d with mu:=d.mu+a} from if_pos hb,hb];exact Jn ⟨g.o.cN rfl O1 rfl rfl rfl rfl g.o.cd,AF.set (AF.bW (Ae _ _).drew) (.inl (.head _)) _,λp hb=>.inl hb⟩
 ·have hb:I5 a d=false:=decide_eq_false O1;go_ret;rw[show Ef a d=CY 2 d from if_neg (by simp[hb]),hb];exact j.o.of (AF.bW (Ae _ _).drew) (λp hb=>.inl hb) rfl
theorem Uy{m:Nat}(a:n.ownsRow w wp s (W U b j) b wj)(k:m<=b):n.ownsRow w wp s (W U m j) m (wj.take (m*s)):=by
 have q:m*s<=b*s:=Axt _ k;refine⟨by rw[Awx,a.1];omega,?_⟩;rcases a.2 with⟨c,d⟩|⟨f,l,e,c,d,g,o,h,i,p⟩
 ·grind
 ·right
  cases c;refine⟨f,j,e,rfl,d,g,O1,h,i,?_⟩;grind
theorem TY:(Aa.info? 106).map (λa=>(a.zero,a.size,a.bytes))=I (I (V .i32 0),1,4):=O3
theorem QG:ET 108 106 1 4:=.of underlying108 TY rfl .refl O1
theorem Ag7(a:List Int)(b:Nat):(Ci a).take (b*1)=Ci (a.take b):=by simp[Ci]
theorem BW.dz{sc:Nat}(a:BW w n s b d nu nq p (W U (L d.Bm) sc) y e G)(hb:j<=L d.Bm):n.ownsRow w 106 1 (W U j sc) j (Ci (d.Bm.take j)):=Ag7 ..▸Uy a.sk hb
theorem M4:vB (W U w b)=vB (W U s j):=by cases U<;>rfl
theorem BW.dv{w2:Q}{sc:Nat}{l:List Int}{v:X}(i:BW w n s b d nu nq p (W U (L d.Bm) sc) y e G)(t:j<=L d.Bm)(hb:Ow n q)(h:DQ q 106 1 (W U j sc) v (j+L l) (Ci (d.Bm.take j)++Ci l) w2):B7 w2 s (mL b p (W U (L d.Bm) sc) y e G d)/\BW w (w2.setCell ⟨s,2,N⟩ v) s b {d with Bm:=d.Bm.take j++l} nu nq p v y e G/\AF (mB s p (W U (L d.Bm) sc) e G) n (w2.setCell ⟨s,2,N⟩ v)/\∀f∈mB s p v e G,f∈mB s p (W U (L d.Bm) sc) e G\/n.heap.size<=f:=by
 have a:=i.bG hb;have c:vB (W U j sc)=vB (W U (L d.Bm) sc):=M4;have g:=h.af;have o:(d.Bm.take j++l).length=j+L l:=by simp[t]
 have x:=a.d0 (c▸g) (by rw[o];simpa[Ci]using h.lo a.lz λf hb=>(FV a.sk (c▸hb)).1) λu k=>c▸(h.nb u k).1;exact⟨a.m.bX (g.block s a.m.lt λr=>(Axj.1 i.nd).1 (Aj _ (Ad _ (c▸r)))) g.size,Kq (AF.bW hb) (λ_ hb=>.inl hb) x⟩
theorem BW.e7{bn sc:Nat}(c:BW w n s b d nu nq p (W U (L d.Bm) sc) y e G)(hb:bn<=L d.Bm):BW w (n.setCell ⟨s,2,N⟩ (W U bn sc)) s b {d with Bm:=d.Bm.take bn} nu nq p (W U bn sc) y e G/\AF (mB s p (W U (L d.Bm) sc) e G) n (n.setCell ⟨s,2,N⟩ (W U bn sc))/\∀a∈mB s p (W U bn sc) e G,a∈mB s p (W U (L d.Bm) sc) e G\/n.heap.size<=a:=
 c.d0 AF.refl (by have:=c.dz hb;grind) λ_ hb=>.inl (M4▸hb)
theorem UJ(a:n.ownsRow w wp j (W U s b) s wj):s<=b/\(U=N->s=0/\b=0):=by
 rcases a.2 with⟨f,g⟩|⟨e,c,d,i,-,-,h,-⟩
 ·grind
 grind
def FU(b:Int)(a:BA):BA:={a with Bm:=a.Bm++[b]}
theorem PO{e:Nat}(x:Int)(a:MM w n e b d t)(K:(L d.Bm)<=5000000000):
 Az Aa 169 #[J (I ⟨e,0,N⟩),V .i32 x] n λk u=>B2 w e b t n (FU x d) (R #[]) k u:=by
 obtain⟨z,D,B,Y,O,E,aa,a,rfl⟩:=a;obtain⟨U,sc,rfl⟩:=Cf a.sk;have o:=a.m.at 2 rfl;have G:=λq=>BM n q _ _ _ o;have i:=Jk (a.dz (Ac _));have j:=O0 λw2 v=>a.dv (l:=[x]) (w2:=w2) (v:=v) (Ac _) ((Ae _ n).alloc (Ac _) (.cells #[V .i32 x] 106));clear a;go_enter func169,ntmps169;go_wp2_with (first
  |(at_builtin;refine ID QG (i.alloc _) (AM n _) (m:=1) (c:=1) (s:=.tmp 8) (x:=.tmp 10) rfl rfl rfl rfl rfl (by intro ab h;simp at h;subst h;rfl) .refl O1 ?_;intro y c ac g;obtain⟨f,p⟩:=j.o _ _ g;have M:=f.at 2 rfl;have H:=f.fz 2;clear g f))
 exact bF (by have:=Jn (r:=R #[]) p;rwa[AP]at this) O2 rfl rfl
theorem Ju(d:n.ownsRow w wp 1 p s wj)(k:0<s):∃b c,p=W (I ⟨b,0,N⟩) s c/\s<=c/\(∀a,a<s->n.cell? ⟨b,a,N⟩=wj[a]?):=by
 rcases d.2 with⟨-,i⟩|⟨b,e,h,g,-,-,f,-⟩
 ·omega
 ·subst g;exact⟨b,e,rfl,f,λa j=>d.cellAt a O1⟩
theorem LG{w:Q}{M g n c:Nat}(a:Nat)(d:w.cell? ⟨M,2,N⟩=I (W (I ⟨g,0,N⟩) n c))(h:a<n)(i:n<=1000000000000):
 Az Aa 168 #[J (I ⟨M,0,N⟩),V C (a:Int)] w λb e=>b=F (J (I ⟨g,n-1-a,N⟩))/\e=w.drew:=by
 have f:=d;have j:0<=n-1-a:=O1;have k:n-1-a<n:=O1;have l:((n:Int)-1-a).toNat=n-1-a:=O1;go_wp2;go_region
 go_wp2;go_ret;simp
def Cd(b:Nat)(a:BA):BA:={a with Bm:=a.Bm.take (L a.Bm-b)}
theorem PU(c:Nat)(a:MM w n s b d t)(u:c<=L d.Bm)(q:(L d.Bm)<=1000000000000):
 Az Aa 175 #[J (I ⟨s,0,N⟩),V C (c:Int)] n λf g=>B2 w s b t n (Cd c d) (R #[]) f g:=by
 obtain⟨h,j,i,D,z,k,E,a,rfl⟩:=a;obtain⟨B,sc,rfl⟩:=Cf a.sk;have p:=(UJ a.sk).1;have e:=Jn (r:=R #[]) (a.e7 (bn:=L d.Bm-c) O1);have l:=a.m.at 2 rfl;have o:=a.m.fz 2;have v:0<=L d.Bm-c:=O1;have x:(L d.Bm)-c<=sc:=O1;have y:((L d.Bm:Int)-c).toNat=L d.Bm-c:=O1;clear a;go_enter func175,ntmps175;go_wp2;go_region
 all_goals(try go_wp2)
 all_goals
  exact bF e.drew O2 rfl rfl
theorem RB(a:MM w n s b d t)(c:d.Bm=wi++[D])(h:(L d.Bm)<=1000000000000):
 Az Aa 174 #[J (I ⟨s,0,N⟩)] n λe p=>B2 w s b t n (Cd 1 d) (V .i32 D) e p:=by
 have j:=PU 1 (a.bG (Ae _ _).drew) (by rw[c];simp) h;obtain⟨u,x,v,B,z,y,G,a,rfl⟩:=a;obtain⟨f,r,rfl,-,g⟩:=Ju a.sk (by rw[c];simp);have l:(L d.Bm)=L wi+1:=by rw[c];simp
 have k:=LG 0 (a.m.at 2 rfl) O1 h;have o:n.drew.cell? ⟨f,L d.Bm-1-0,N⟩=I (V .i32 D):=by
  show n.cell? _=_;rw[g _ O1,c];simp[Ci]
 have E:n.drew.cell? ⟨f,L d.Bm-1,N⟩=I (V .i32 D):=o;clear a g c l;go_enter func174,ntmps174;go_wp2_with (first
  |(apply k.mono;rintro e H ⟨rfl,rfl⟩)
  |(apply j.mono;intro e K i;obtain⟨rfl,-⟩:=id i))
 go_ret;exact i.of (AF.bW (Ae _ _).drew) (λq hb=>Be hb) rfl
theorem WH(a:MM w n s b d t)(l:(L d.Bm)<=1000000000000)(hb:0<=d.fr.base/\d.fr.base<=1000000000000):
 Az Aa 171 #[J (I ⟨s,0,N⟩)] n λc e=>c=F (V C ((L d.Bm:Int)-1-d.fr.base))/\e=n.drew:=by
 obtain⟨f,h,g,q,o,i,r,a,rfl⟩:=a;obtain⟨p,sc,rfl⟩:=Cf a.sk;have j:=a.m.at 2 rfl;have k:=a.m.at 3 rfl;go_wp2;go_region
 go_wp2;go_ret;simp
theorem WL:(Aa.info? 197).map (λa=>(a.zero,a.size,a.bytes))=I (I (T #[V .u8 0,V C 0,V .i32 0,V .i32 0,W N 0 0]),5,48):=O3
theorem Agf:ET 107 197 5 48:=.of underlying107 WL rfl O1 O1
theorem BW.dM{w2:Q}{x:Cb}{v fv:X}(h:BW w n s b d nu nq p y e G wz)(r:E9 (λa=>w<=a/\a∉mB s p y G wz) n fv x.BX)(hb:Ow n q)(g:DQ q 197 5 p v (L nu+1) (nu.flatMap Ep++Ep (x,fv)) w2):B7 w2 s (mL b p y e G wz d)/\BW w (w2.setCell ⟨s,1,N⟩ v) s b {d with cells:=d.cells++[x]} (nu++[(x,fv)]) nq v y e G wz/\AF (mB s p y G wz) n (w2.setCell ⟨s,1,N⟩ v)/\∀a∈mB s v y G wz,a∈mB s p y G wz\/n.heap.size<=a:=by
 have c:=h.bG hb;have i:=c.eu g.af (cs':=nu++[(x,fv)]) (by simpa using g.lo c.lz λa hb=>(FV c.cl hb).1) (λu f=>by
  rcases Ag.1 f with f|f
  ·exact c.fl u f
  ·obtain rfl:=Ax.1 f;exact r.fr λa j k=>⟨j,hb.block a k⟩) λt l=>(g.nb t l).1
 rw[AC,h.Fh]at i;exact⟨c.m.bX (g.af.block s c.m.lt λo=>(Axj.1 h.nd).1 (Ad _ o)) g.af.size,Kq (AF.bW hb) (λ_ hb=>.inl hb) i⟩
def NY(b:Cb)(a:BA):BA:={a with Bm:=a.Bm++[(L a.cells:Int)],cells:=a.cells++[b]}
theorem Ad5{j:Nat}(x:Cb)(fv:X)(aq:E9 (λe=>w<=e/\e∉t) n fv x.BX)(an:∃G au c,fv=W G au c)(f:MM w n j b d t)(ao:(L d.Bm)<=5000000000)(am:(L d.cells)<=1000000000):
 Az Aa 229 #[J (I ⟨j,0,N⟩),T #[V .u8 x.BB,V C x.n,V .i32 x.left,V .i32 x.right,fv]] n λH ax=>B2 w j b t n (NY x d) (R #[]) H ax:=by
 obtain⟨fp,ai,ah,rfl⟩:=an;have o:=λa=>(Ae n.heap.size n).alloc (Ac _) a;have aa:=O0 λa=>PO (L d.cells:Int) (f.bG (o a)) ao;obtain⟨a1,a0,ag,al⟩:∃k cc,(∀a,(n.alloc a).cell? ⟨j,1,N⟩=I (W k (L d.cells) cc))/\∀e∈t,e<n.heap.size:=by
  obtain⟨q,ae,ad,av,ar,af,aw,f,rfl⟩:=f;obtain⟨k,cc,rfl⟩:=Cf f.cl;have:(L q)=L d.cells:=by rw[<-f.Fh,An]
  exact⟨k,cc,λa=>this▸Bu (o a) (f.m.at 1 rfl),λe hb=>(f.rg e hb).2⟩
 have a5:IntKind.i32.wrap (L d.cells:Int)=(L d.cells:Int):=by unfold IntKind.wrap;simp[IntKind.bits,IntKind.signed];omega
 clear f;go_enter func229,ntmps229;go_upto_region 2 with(first
  |(go_at_call 169;refine(aa.o _).mono ?_;rintro H p ⟨rfl,l,ay,⟨q,ae,ad,av,ar,af,aw,h,rfl⟩,y⟩))
 obtain⟨k,cc,rfl⟩:=Cf h.cl;have aj:=h.m.at 1 rfl;have a3:=λa=>BM p a _ _ _ aj;have g:=λE v D=>Eu (l.block n.heap.size O2 λB=>Az1 _ (al _ B)) (CS n _ _ E v D);have a9:=g 0 _ rfl;have aC:=g 1 _ rfl;have aE:=g 2 _ rfl;have aG:=g 3 _ rfl;have aI:=g 4 _ rfl;have i:=λa E v D=>BM p a _ _ _ (g E v D);have aB:=λa=>i a 0 _ rfl;have aD:=λa=>i a 1 _ rfl;have aF:=λa=>i a 2 _ rfl;have aH:=λa=>i a 3 _ rfl;have aJ:=λa=>i a 4 _ rfl;have a4:(L q)<=1000000000:=by
  have:=congrArg L h.Fh;rw[An]at this;exact this▸am
 have ab:=O0 λ(ac w2:Q) (v:X) (hb:Ow p ac) G=>h.dM (x:=x) (fv:=W fp ai ah) (w2:=w2) (v:=v) (aq.fr λe u ak=>⟨⟨u.1,λB=>(y e B).elim u.2 λf=>by simp at f;omega⟩,(l.block e O5 u.2).trans ((o _).block e ak)⟩) hb G;have Y:=Jk h.cl;have O:=O0 ((AF.bW (o _)).trans l λe hb=>.inl hb);have U:∀e∈_,e∈t\/n.heap.size<=e:=λe hb=>(y e hb).imp id λf=>by simp at f;omega
 clear ag g i h l y;go_region_law
  (first
   |(refine HD Agf (Y.alloc _) (AM p _) (m:=1) (c:=1) (s:=.tmp 16) (x:=.tmp 18) Od Od rfl rfl rfl (by intro a7 M;simp at M;rcases M with rfl|rfl|rfl|rfl|rfl<;>rfl) O1 O1 ?_;intro az c a8 K;obtain⟨z,ap⟩:=ab.o _ _ _ (by first|exact bA|exact bA.drew) K;have a6:=z.at 1 rfl;have a2:=z.fz 1;clear K z))
 all_goals(try go_wp2)
 all_goals
  exact bF ((Jn (r:=R #[]) ap).of O.o U rfl) O2 rfl rfl
def H6(b:Cb)(a:BA):BA:=if I5 1 a then NY b (Ef 1 a) else Ef 1 a
theorem ZX(a:BA):(Ef 1 a).Bm=a.Bm/\(Ef 1 a).cells=a.cells:=by unfold Ef;split<;>exact⟨rfl,rfl⟩
theorem OW(c:Cb)(j:X)(M:E9 (λa=>w<=a/\a∉t) n j c.BX)(H:∃Y U B,j=W Y U B)(e:MM w n s b d t)(g:Fw d)(ai:(L d.Bm)<=5000000000)(ah:(L d.cells)<=1000000000):
 Az Aa 173 #[J (I ⟨s,0,N⟩),T #[V .u8 c.BB,V C c.n,V .i32 c.left,V .i32 c.right,j]] n λi ab=>B2 w s b t n (H6 c d) (R #[]) i ab:=by
 obtain⟨fp,E,D,rfl⟩:=H;have m:=λp=>(Ae n.heap.size n).alloc .refl p;have y:=O0 λp=>Abp 1 O1 (e.bG (m p)) g;have v:∀a∈t,a<n.heap.size:=by
  obtain⟨ad,af,ae,ak,aj,ag,al,e,rfl⟩:=e;exact λa hb=>(e.rg a hb).2
 clear e;go_enter func173,ntmps173;go_wp2_with (first
  |(go_at_call 228;apply (y.o _).mono;rintro i am ⟨rfl,h,ac,u,l⟩;have f:=λO aa K=>Eu (h.block n.heap.size O2 λg=>Az1 _ (v _ g)) (CS n _ _ O aa K);have ao:=f 0 _ rfl;have ap:=f 1 _ rfl;have aq:=f 2 _ rfl;have ar:=f 3 _ rfl;have au:=f 4 _ rfl;have q:=O0 ((AF.bW (m _)).trans h λa hb=>.inl hb);have r:∀a∈_,a∈t\/n.heap.size<=a:=λa hb=>(l a hb).imp id λe=>(by simp at e;omega);have x:=O0 (Ad5 c (W fp E D) (M.fr λa k G=>⟨⟨k.1,λg=>(l a g).elim k.2 λe=>(by simp at e;omega)⟩,(h.block a O5 k.2).trans ((m _).block a G)⟩) ⟨_,_,_,rfl⟩ u (by rwa[(ZX d).1]) (by rwa[(ZX d).2]));clear f h l;cases hrb:I5 1 d)
  |(go_at_call 229;apply x.o.mono;intro i an o;obtain⟨rfl,-⟩:=id o;have z:=O0 o;clear o))
 ·rw[show H6 c d=Ef 1 d from if_neg (by simp[hrb])];exact bF ⟨rfl,q.o,_,u,r⟩ O2 rfl rfl
 ·rw[show H6 c d=NY c (Ef 1 d) from if_pos hrb];exact bF (z.o.of q.o r rfl) O2 rfl rfl
def G7(c:Int)(a:BA):BA:=
 let b:=a.Bm.take a.fr.base.toNat++[c]
 match a.BR.getLast? with
 |none=>{a with Bm:=b,state:=1}
 |some f=>{a with Bm:=b,fr:=f,BR:=a.BR.dropLast}
theorem Anq{g:Nat}(x:Int)(f:Nat)(a:MM w n g b d t)(o:d.BR=[])(hb:d.fr.base=(f:Int))(k:f<=L d.Bm)(ag:(L d.Bm)<=5000000000):
 Az Aa 172 #[J (I ⟨g,0,N⟩),V .i32 x] n λE H=>B2 w g b t n (G7 x d) (R #[]) E H:=by
 obtain⟨M,D,O,ao,am,aa,ap,a,rfl⟩:=a;obtain⟨an,sc,rfl⟩:=Cf a.sk;obtain⟨Y,U,rfl⟩:=Cf a.dp;obtain rfl:D=[]:=Axr.1 (a.GD.trans o);have af:=(UJ a.sk).1;have G:=a.m.at 2 rfl;have j:=a.m.at 3 rfl;rw[hb]at j;have ab:=λi=>BM n i _ _ _ G;have ac:=λi=>BM n i _ _ _ j;have u:O9 (G7 x d={d with Bm:=d.Bm.take f++[x],state:=1}):=by show _=_;simp[G7,o,hb]
 have y:=Jk (a.dz k);have z:=O0 λ(B w2:Q) (v:X) (hb:Ow n B) p=>a.dv (l:=[x]) (w2:=w2) (v:=v) k hb p;have ah:(0:Int)<=(f:Int):=O1;have ai:(f:Int)<=(sc:Int):=O1;clear a;go_enter func172,ntmps172;go_upto_region 0 with fail
 go_region_law
  (first
   |(refine HD QG (y.alloc _) (AM n _) (m:=1) (c:=1) (s:=.tmp 15) (x:=.tmp 17) rfl rfl rfl rfl rfl (by intro aq r;simp at r;subst r;rfl) O1 O1 ?_;intro K c ar q;obtain⟨h,e⟩:=z.o _ _ _ (by first|exact bA|exact bA.drew) q;have al:=h.at 2 rfl;have ae:=h.fz 2;have ak:=e.1.m.at 6 rfl;have aj:=e.1.m.at 11 rfl;have ad:=e.1.m.fz 11;clear q h))
 all_goals(try go_wp2)
 all_goals
  rw[u.o];exact bF (Jn ⟨e.1.cN rfl O1 rfl rfl rfl rfl e.1.cd,e.2.1.set (.inl (.head _)) _,e.2.2⟩) O2 rfl rfl
def Oz(a:Oy)(b:BA):Bool:=decide (L b.text+a.size<=2000)
def Qf(b:Oy)(a:BA):BA:=if Oz b a then {a with text:=a.text++b.data.toList} else CY 8 a
theorem Akm(a b:List UInt8):Kz (a++b)=Kz a++Kz b:=by simp[Kz]
theorem Ahd{f:Nat}(s:Oy)(a:MM w n f b d t)(c:0<s.size)(aa:s.size<=1000000)(ab:(L d.text)<=2000):
 Az Aa 74 #[J (I ⟨f,0,N⟩),S s] n λi E=>B2 w f b t n (Qf s d) (A (Oz s d)) i E:=by
 have p:=Ka 8 a;obtain⟨H,M,K,ae,ad,O,ai,a,rfl⟩:=a;obtain⟨ah,ag,rfl⟩:=Cf a.tx;have r:=a.m.at 13 rfl;have k:=Jk a.tx;have e:=O0 a;clear a;by_cases j:(L d.text)+s.size<=2000
 ·have hb:Oz s d=true:=decide_eq_true j;rw[show Qf s d={d with text:=d.text++s.data.toList} from if_pos hb,hb];have z:¬(2000:Int)<(L d.text:Int)+(s.size:Int):=O1;go_enter func74,ntmps74;go_wp2_with (first
   |(at_builtin;refine Aea k (s:=s) (y:=.tmp 20) (x:=.tmp 21) rfl rfl rfl rfl O1 O1 ?_;intro Y G ak c;have D:=e.o.eE c.af (t':=d.text++s.data.toList) (by rw[Aw,Akm];exact c.lo e.o.lz λq hb=>(FV e.o.tx hb).1) λB u=>(c.nb B u).1;have g:=c.af.block f e.o.m.lt λv=>(Axj.1 e.o.nd).1 (Aj _ (Aj _ (Aj _ v)));have ac:=Eu g r;have U:=(e.o.m.bX g c.af.size).fz 13;clear c g))
  go_ret;exact Jn D
 ·have hb:Oz s d=false:=decide_eq_false j;rw[show Qf s d=CY 8 d from if_neg (by simp[hb]),hb];have z:(2000:Int)<(L d.text:Int)+(s.size:Int):=O1;go_enter func74,ntmps74;go_wp2_with (first
   |(go_at_call 127;refine p.mono ?_;intro i aj h;obtain⟨rfl,-⟩:=id h;have l:=O0 h;clear h))
  go_ret;exact l.o.of AF.refl (λq hb=>.inl hb) rfl
theorem AF.GQ{j:Nat}{v:X}(b:v.ownBlock=I w)(a:X):AF (vB v) n (n.setCell ⟨w,j,N⟩ a):=AF.refl.set (Be (Ca.2 b)) a
def Il(b:Int)(a:BA):BA:={a with Bm:=a.Bm.dropLast++[b]}
theorem Anv(a:List Int)(c b:Int):(Ci (a++[c])).set (L a) (V .i32 b)=Ci (a++[b]):=by
 unfold Ci;simp
theorem BW.cellAt{y:Nat}{c:Q}{o p:Nat}{a:BA}{d:List (Cb×X)}{t:List (HG×X)}{j z x u B:X}(f:BW y c o p a d t j z x u B){r:Nat}(G:r<L a.cells):∃b q fp k i,j=W (I ⟨b,0,N⟩) (L a.cells) q/\c.cell? ⟨b,r*5,N⟩=I (.int .u8 a.cells[r].BB)/\c.cell? ⟨b,r*5+1,N⟩=I (.int C a.cells[r].n)/\c.cell? ⟨b,r*5+2,N⟩=I (.int .i32 a.cells[r].left)/\c.cell? ⟨b,r*5+3,N⟩=I (.int .i32 a.cells[r].right)/\c.cell? ⟨b,r*5+4,N⟩=I (W fp k i)/\E9 (λ_=>True) c (W fp k i) a.cells[r].BX:=by
 have v:(L d)=L a.cells:=by rw[<-f.Fh,An]
 have e:a.cells[r]=d[r].1:=by simp[<-f.Fh]
 have l:=f.fl d[r] (Ao _);obtain⟨fp,i,m,-⟩:=id l;rcases f.cl.2 with⟨-,E⟩|⟨b,s,D,w,-⟩
 ·omega
 ·have g:=f.cl;subst w;have h:=Nx (size:=5) Ep (λ_=>rfl) d r O1;refine⟨b,s,fp,d[r].1.BX.length,i,by rw[v],?_,?_,?_,?_,?_,?_⟩
  ·rw[g.cellAt _ O1,show r*5=r*5+0 by rfl,h 0 O1,e];rfl
  ·rw[g.cellAt _ O1,h 1 O1,e];rfl
  ·rw[g.cellAt _ O1,h 2 O1,e];rfl
  ·rw[g.cellAt _ O1,h 3 O1,e];rfl
  ·rw[g.cellAt _ O1,h 4 .refl];exact congrArg I m
  ·rw[e,<-m];exact l.fr λ_ _ _=>⟨trivial,rfl⟩
structure Wf (d:Nat) (a:BA):Prop where
 ne:a.Bm≠[]
 s:∀r∈a.Bm,0<=r/\r<(L a.cells:Int)
 c:∀x∈a.cells,((x.BB=5\/x.BB=2)->0<=x.left/\x.left<(L a.cells:Int))/\(x.BB=4->0<=x.n/\x.n<(d:Int))/\0<=x.BB/\x.BB<=5
 b:0<=a.fr.base/\a.fr.base<(L a.Bm:Int)
 sl:(L a.Bm)+(a.sm-a.su).toNat<=1000000000
 cl:(L a.cells)<=1000000000
 m:Fw a
def Fj(a:BA):Cb:=(a.cells[(a.Bm.getLast?.getD 0).toNat]?).getD ⟨0,0,0,0,[]⟩
def JC(a:BA):Int:=(L a.Bm:Int)-1-a.fr.base
def F9(b c:Int->BA->BA):Nat->BA->BA
 |0,st=>Ck st
 |f+1,st=>
  if Ec st then
   let a:=Ck st
   if (Fj st).BB=5 then F9 b c f (Il (Fj st).left a)
   else if (Fj st).BB=2 then F9 b c f (FU (Fj st).left a)
   else if (Fj st).BB=0 then CY 7 a
   else if (Fj st).BB=4 then b (Fj st).n a
   else if 0<JC st then CY 5 a
   else c (st.Bm.getLast?.getD 0) a
  else Ck st
theorem ES(a:Ec d=true):Ck d={d with su:=d.su+1}:=by unfold Ck;rw[if_pos a]
theorem Ajo(c d:Int->BA->BA){a:BA}(e:Ec a=false):∀b,F9 c d b a=Ck a
 |0=>rfl
 |b+1=>by rw[F9,e];rfl
theorem Anl(b c:Int->BA->BA){a:BA}(d:Ec a=true):F9 b c (a.sm-a.su).toNat a=(if (Fj a).BB=5 then F9 b c (a.sm-(a.su+1)).toNat (Il (Fj a).left {a with su:=a.su+1})
 else if (Fj a).BB=2 then F9 b c (a.sm-(a.su+1)).toNat (FU (Fj a).left {a with su:=a.su+1})
 else if (Fj a).BB=0 then CY 7 {a with su:=a.su+1}
 else if (Fj a).BB=4 then b (Fj a).n {a with su:=a.su+1}
 else if 0<JC a then CY 5 {a with su:=a.su+1}
 else c (a.Bm.getLast?.getD 0) {a with su:=a.su+1}):=by
 have h:1<=a.sm-a.su:=by simpa[Ec]using d
 obtain⟨e,f⟩:∃e,(a.sm-a.su).toNat=e+1:=⟨(a.sm-a.su).toNat-1,O1⟩;have g:(a.sm-(a.su+1)).toNat=e:=O1;rw[f,g,F9,if_pos d,ES d]
theorem Adi(a:d.Bm=wi++[(w:Int)])(b:w<L d.cells):Fj d=d.cells[w]:=by
 unfold Fj;rw[a];simp[b]
theorem Wf.step(h:Wf w d)(j:1<=d.sm-d.su):Wf w {d with su:=d.su+1}:=by
 let ⟨b,c,e,f,i,g,a⟩:=h
 have:=a.su;have:=a.sm;exact⟨b,c,e,f,O6,g,⟨by simp only;omega,a.sm,a.mu,a.mm⟩⟩
theorem Wf.dD(l:Wf w d)(f:d.Bm=wi++[D])(m:0<=nf/\nf<(L d.cells:Int)):Wf w (Il nf d)/\(Il nf d).Bm=wi++[nf]:=by
 have c:(Il nf d).Bm=wi++[nf]:=by unfold Il;rw[f];simp
 let ⟨o,g,h,i,j,k,b⟩:=l
 have e:(Il nf d).Bm.length=L d.Bm:=by rw[c,f];simp
 refine⟨⟨by rw[c];simp,λn a=>?_,h,by rw[e];exact i,by rw[e];exact j,k,⟨b.su,b.sm,b.mu,b.mm⟩⟩,c⟩;rcases Ag.1 a with a|a
 ·exact g n O6
 ·obtain rfl:=Ax.1 a;exact m
theorem Wf.push(g:Wf w d)(l:1<=d.sm-d.su)(h:0<=D/\D<(L d.cells:Int)):Wf w (FU D {d with su:=d.su+1}):=by
 let ⟨i,c,e,j,k,f,b⟩:=g
 have:=b.su;have:=b.sm;refine⟨by simp[FU],λx a=>?_,e,by simp[FU,Aw,AO,Bc];omega,by simp[FU,Aw,AO,Bc];omega,f,⟨by simp[FU];omega,b.sm,b.mu,b.mm⟩⟩;rcases Ag.1 a with a|a
 ·exact c x a
 ·obtain rfl:=Ax.1 a;exact h
def Rw(l i j m:Nat)(g k:Int->BA->BA)(h:BA->Prop)(b:List Nat)(e:Q)(n:BA)(f:Q)(a:BA):Prop:=∃c,MM l f i j a c/\AF b e f/\(∀d∈c,d∈b\/e.heap.size<=d)/\Wf m a/\h a/\n=F9 g k (a.sm-a.su).toNat a
def L5(a:Nat)(b:Q):Int:=intOf ((b.cell? ⟨a,7,N⟩).getD .nilIface)
structure Pg (h:Nat) (d:Q) (e j:Nat) (f:Option Addr) (k:Nat) (a:Nat->Int×Option Addr×Nat×Nat):Prop where
 lt:e<h
 c:d.cell? ⟨e,0,N⟩=I (W f j k)
 g:∀i,i<j->∃b o,b<h/\f=I ⟨b,o,N⟩/\d.cell? ⟨b,o+i*2,N⟩=I (V C (a i).1)/\d.cell? ⟨b,o+i*2+1,N⟩=I (W (a i).2.1 (a i).2.2.1 (a i).2.2.2)
theorem Pg.low(a:Pg w n s b U j vi)(hb:Below w n q):Pg w q s b U j vi:=⟨a.lt,Eu (hb.block _ a.lt) a.c,λl k=>by
 let ⟨e,m,d,f,h,i⟩:=a.g l k
 exact⟨e,m,d,f,Eu (hb.block _ d) h,Eu (hb.block _ d) i⟩⟩
theorem Awm(c:zm.size=w):∃b,zm=((AV w).map b).toArray:=by
 refine⟨λa=>zm.getD a Aw7,?_⟩;subst c;apply Array.ext';refine Azh O2 λa d e=>?_;simp at d;simp_all
theorem Anu(a:Nat)(c:Act->Q->Prop)(d:Act->Q->Nat)(j:findLabel (.seq (.label a) y9) a=I (.seq .skip y9))(i:c ws n)(f:∀ws n,c ws n->y9.wp w6 (Exit.jump a (λe g=>c e g/\d e g<d ws n) nh) ws n):(Code.scope (.seq (.label a) y9)).wp w6 nh ws n:=by
 refine wp_scope_jumps a c d j (wp_seq (wp_label (Code.wp_mono (λh ws n b=>?_) (f ws n i)))) λws n b=>wp_seq (wp_skip (f ws n b));cases h with
 |goto a=>exact⟨b.1,b.2.1⟩
 |_=>exact b
theorem Auv{u:Q}{q:Nat}(x B:Int->BA->BA)(l:BA->Prop)(D:MM w u s b d t)(bs:Pg w u b q U wf vi)(bu:Wf q d)(bn:l d)(bq:∀d,l d->l {d with su:=d.su+1})(br:∀d ao,l d->l (Il ao d))(bp:∀d ao,l d->l (FU ao d))(bm:∀an,an<q->∀g h ap,MM w g s b h ap->Below w u g->l h->Wf q h->(0<=h.fr.base/\h.fr.base<(L h.Bm:Int)/\L h.Bm<=1000000000)->Az Aa 170 #[J (I ⟨s,0,N⟩),T #[V C (vi an).1,W (vi an).2.1 (vi an).2.2.1 (vi an).2.2.2]] g λc aY=>B2 w s b ap g (x (an:Int) h) (R #[]) c aY)(bt:∀ao g h ap,MM w g s b h ap->l h->Wf q h->(0<=h.fr.base/\h.fr.base<(L h.Bm:Int)/\L h.Bm<=1000000000)->Az Aa 172 #[J (I ⟨s,0,N⟩),V .i32 ao] g λc aY=>B2 w s b ap g (B ao h) (R #[]) c aY):
 Az Aa 124 #[J (I ⟨s,0,N⟩)] u λc g=>B2 w s b t u (F9 x B (d.sm-d.su).toNat d) (R #[]) c g:=by
 have bJ:=O0 bm;have bV:=O0 bt;have bP:=O0 bq;have bQ:=O0 br;have bO:=O0 bp;have bS:=O0 bs;have cf:w<=u.heap.size:=by
  obtain⟨av,aw,a6,aD,a1,ab,af,D,rfl⟩:=D;exact D.lz
 have bl:∀i∈t,w<=i:=by
  obtain⟨av,aw,a6,aD,a1,ab,af,D,rfl⟩:=D;exact λi hb=>(D.rg i hb).1
 have bI:=O0 bl;obtain⟨p,aS⟩:∃p,F9 x B (d.sm-d.su).toNat d=p:=⟨_,rfl⟩;have ba:O9 (Rw w s b q x B l t u p u d):=⟨t,D,AF.refl,λi hb=>Be hb,bu,bn,aS.symm⟩;rw[aS];obtain⟨aC,cj⟩:∃aC,d.sm=aC:=⟨_,rfl⟩;obtain⟨aH,a9⟩:∃aH:Act->Q->Prop,aH=λaI g=>∃a:BA,(aI.tmps.size=68/\aI.tmps.getD 0 Aw7=J (I ⟨s,0,N⟩)/\aI.defers=[])/\a.sm=aC/\O9 (Rw w s b q x B l t u p g a):=⟨_,rfl⟩;clear D bu bn bm bt bq br bp aS bs bl;go_enter func124,ntmps124;refine Anu 0 aH (λ_ g=>(aC-L5 s g).toNat) rfl (by rw[a9];exact⟨d,⟨rfl,rfl,rfl⟩,cj,ba⟩) ?_;rintro⟨cH,cy⟩ cq b0;rw[a9]at b0;obtain⟨a,⟨aT,E,bx⟩,b8,bd⟩:=b0;simp only at aT E bx;subst bx;obtain⟨bY,rfl⟩:=Awm aT;simp only[AV,List.range.loop,A1,Axs]at E ⊢;replace E:bY 0=J (I ⟨s,0,N⟩):=E
 rw[E];clear aT E ba;obtain⟨ct,az,aL,bi,M,bo,b6⟩:=bd.o;have cE:=aL.size;have aq:=O0 (MQ az M.m);have bB:L5 s cq=a.su:=by
  obtain⟨av,aw,a6,aD,a1,ab,af,az,-⟩:=az;unfold L5;rw[az.m.at 7 rfl];rfl
 have be:=O0 bB;clear bB;have aZ:=O0 aL;have aE:=O0 bi;have bN:=O0 bo;have bc:=O0 b6;clear bd az aL bi bo b6;cases hsb:Ec a with
 |false=>
  rw[hsb]at aq;have bU:O9 (p=Ck a):=by show _=_;rw[bc.o,Ajo _ _ hsb]
  clear hsb;go_wp2_with (first
   |(go_at_call 73;refine aq.o.mono ?_;intro c f e;obtain⟨rfl,-⟩:=id e;have Y:=O0 e;clear e))
  simp only[Exit.jump];refine AZ (Azq rfl _ _ _) rfl ?_;rw[bU.o];exact Y.o.of aZ.o aE.o rfl
 |true=>
  rw[hsb,ES hsb]at aq;have aB:=Anl x B hsb;have b9:1<=a.sm-a.su:=by simpa[Ec]using hsb
  rw[<-bc.o]at aB;clear hsb;obtain⟨ae,a2,a0⟩:∃ae a2,a.Bm=ae++[a2]:=⟨a.Bm.dropLast,a.Bm.getLast M.ne,(List.dropLast_concat_getLast _).symm⟩;have ci:=M.s a2 (by rw[a0];simp);obtain⟨r,rfl⟩:∃r:Nat,a2=(r:Int):=⟨a2.toNat,O1⟩;have e:r<L a.cells:=O1;rw[Adi a0 e]at aB;have G:=O0 aB;have aO:=M.c a.cells[r] (Ao _);have ar:=O0 a0;have cB:=M.sl;have c8:=M.cl;have b5:=M.m;have cD:=b5.su;have aN:=M.b;clear aB b5;go_upto_region 1 with(first
   |(go_at_call 73;refine aq.o.mono ?_;rintro c f ⟨rfl,bh,cv,⟨av,aw,a6,aD,a1,ab,af,ak,bZ⟩,bj⟩))
  subst bZ;have aK:=aZ.o.trans bh aE.o;have bk:=λi hb=>(bj i hb).elim (aE.o i) λD=>O1;have cm:=aK.size;obtain⟨ac,au,ck,-,b7⟩:=Ju ak.sk O6;obtain⟨cg,cc,fp,c5,c3,cd,k0,bC,bD,cn,co,-⟩:=ak.cellAt (r:=r) e;subst ck cd;have O:=O0 ak;have ag:=O0 aK;have y:=O0 bk;have b1:({a with su:=a.su+1}:BA).Bm.length=L a.Bm:=rfl;have bf:=O0 (LG 0 (ak.m.at 2 rfl) O1 O1);have bX:f.drew.drew.cell? ⟨ac,L a.Bm-1,N⟩=I (V .i32 (r:Int)):=by
   show f.cell? _=_;rw[b7 _ O1];show(Ci a.Bm)[L a.Bm-1]?=_;rw[a0];simp[Ci]
  have cz:f.drew.drew.cell? ⟨s,1,N⟩=I (W (I ⟨cg,0,N⟩) (L a.cells) cc):=ak.m.at 1 rfl;have cJ:f.drew.drew.cell? ⟨cg,r*5,N⟩=I (.int .u8 a.cells[r].BB):=k0;have cs:f.drew.drew.cell? ⟨cg,r*5+1,N⟩=I (.int C a.cells[r].n):=bC;have cK:f.drew.drew.cell? ⟨cg,r*5+2,N⟩=I (.int .i32 a.cells[r].left):=bD;have cF:(0:Int)<=(r:Int):=O1;have cG:(r:Int)<(L a.cells:Int):=O1;clear ak aK bk bh bj b7 k0 bC bD cn co aq a0 ci;rw[b1]at bf;clear b1;generalize hkd:a.cells[r].BB=kd at*;generalize hlf:a.cells[r].left=lf at*;generalize hnn:a.cells[r].n=nn at*;go_upto_region 2 with(first
   |(go_at_call 168;refine bf.o.mono ?_;rintro c cI ⟨rfl,rfl⟩))
  go_region
  have K:=O.o.drew.drew;have cw:=O0 K;have aM:=ag.o.then (Ae _ _).drew.drew;have ad:=M.step b9;have al:MM w f.drew.drew s b {a with su:=a.su+1} (mB s (W (I ⟨cg,0,N⟩) (L a.cells) cc) (W (I ⟨ac,0,N⟩) (L a.Bm) au) ab af):=⟨_,_,_,_,_,_,_,K,rfl⟩;have H:=bP.o _ bN.o;by_cases ay:kd=5
  ·subst ay;have z:O9 (p=F9 x B (a.sm-(a.su+1)).toNat (Il lf {a with su:=a.su+1})):=by
    grind
   have aP:=aO.1 (Be rfl);have c4:=K.sk.frozenAt (L a.Bm-1);have a4:O9 (Rw w s b q x B l t u p (f.setCell ⟨ac,L a.Bm-1,N⟩ (V .i32 lf)).drew.drew (Il lf {a with su:=a.su+1})/\L5 s (f.setCell ⟨ac,L a.Bm-1,N⟩ (V .i32 lf)).drew.drew=a.su+1):=by
    obtain⟨ca,c9⟩:=ad.dD ar.o aP;have aQ:(L a.Bm)-1=L ae:=by rw[ar.o];simp
    have cC:=(O.o.sk.stored (L a.Bm-1) (V .i32 lf)).1;obtain⟨bE,cp⟩:=O.o.ec (AF.GQ (j:=L a.Bm-1) (v:=W (I ⟨ac,0,N⟩) (L a.Bm) au) rfl (V .i32 lf)) (s':=ae++[lf]) (by
     have c:(ae++[lf]).length=L a.Bm:=O6;rw[c,<-Anv ae (r:Int) lf,<-aQ];have c1:({a with su:=a.su+1}:BA).Bm=ae++[(r:Int)]:=ar.o;grind)
    refine⟨⟨_,⟨av,aw,_,_,a1,ab,af,?_,rfl⟩,(ag.o.trans cp y.o).then (Ae _ _).drew.drew,y.o,ca,bQ.o _ _ H,z.o⟩,?_⟩
    ·have bW:Il lf {a with su:=a.su+1}={({a with su:=a.su+1}:BA) with Bm:=ae++[lf]}:=by
      unfold Il;rw[show({a with su:=a.su+1}:BA).Bm=ae++[(r:Int)] from ar.o];simp
     rw[bW];exact bE.drew.drew
    ·unfold L5;rw[bE.drew.drew.m.at 7 rfl];rfl
   clear G ad H K O ag y;go_wp2;go_step3
   refine⟨rfl,?_,?_⟩
   ·rw[a9];exact⟨Il lf {a with su:=a.su+1},⟨rfl,rfl,rfl⟩,b8,a4.o.1⟩
   ·rw[a4.o.2,be.o];omega
  ·by_cases ax:kd=2
   ·subst ax;have z:O9 (p=F9 x B (a.sm-(a.su+1)).toNat (FU lf {a with su:=a.su+1})):=by
     grind
    have aP:=aO.1 (Axf rfl);have bT:=O0 (PO lf al (by show L a.Bm<=_;omega));have a4:O9 (∀w5 aj,AF (mB s (W (I ⟨cg,0,N⟩) (L a.cells) cc) (W (I ⟨ac,0,N⟩) (L a.Bm) au) ab af) f.drew.drew w5->MM w w5 s b (FU lf {a with su:=a.su+1}) aj->(∀i∈aj,i∈mB s (W (I ⟨cg,0,N⟩) (L a.cells) cc) (W (I ⟨ac,0,N⟩) (L a.Bm) au) ab af\/f.drew.drew.heap.size<=i)->Rw w s b q x B l t u p w5 (FU lf {a with su:=a.su+1})/\L5 s w5=a.su+1):=by
     intro w5 aj a7 ah a8;refine⟨⟨aj,ah,aM.trans a7 y.o,λi hb=>(a8 i hb).elim (y.o i) λD=>Axf (Ay cm D),M.push b9 aP,bO.o _ _ H,z.o⟩,?_⟩;obtain⟨av,aw,a6,aD,a1,ab,af,ah,-⟩:=ah;unfold L5;rw[ah.m.at 7 rfl];rfl
    clear G ad H K O ag y;go_wp2_with (first
     |(go_at_call 169;refine bT.o.mono ?_;rintro c w5 ⟨rfl,a7,aj,ah,a8⟩;have bb:=O0 (a4.o w5 aj a7 ah a8);clear a7 ah a8))
    go_step3
    refine⟨rfl,?_,?_⟩
    ·rw[a9];exact⟨FU lf {a with su:=a.su+1},⟨rfl,rfl,rfl⟩,b8,bb.o.1⟩
    ·rw[bb.o.2,be.o];omega
   ·have a3:O9 (∀(aX:BA) w5 c,B2 w s b (mB s (W (I ⟨cg,0,N⟩) (L a.cells) cc) (W (I ⟨ac,0,N⟩) (L a.Bm) au) ab af) f.drew.drew aX (R #[]) c w5->B2 w s b t u aX (R #[]) (F (R #[])) w5):=λaX w5 c e=>e.of aM y.o rfl;by_cases E:kd=0
    ·subst E;have z:O9 (p=CY 7 {a with su:=a.su+1}):=by
      have:=G.o;rw[if_neg ay,if_neg ax,if_pos rfl]at this;exact this
     have aF:=O0 (Ka 7 al);clear G ad H K O ag y;go_wp2_with (first
      |(go_at_call 127;refine aF.o.mono ?_;intro c w5 e;obtain⟨rfl,-⟩:=id e;have Y:=O0 (a3.o _ _ _ e);clear e))
     simp only[Exit.jump];refine bF ?_ O2 rfl rfl;rw[z.o];exact Y.o
    ·have bw:0<=({a with su:=a.su+1}:BA).fr.base/\({a with su:=a.su+1}:BA).fr.base<(({a with su:=a.su+1}:BA).Bm.length:Int)/\({a with su:=a.su+1}:BA).Bm.length<=1000000000:=⟨aN.1,aN.2,by show L a.Bm<=_;omega⟩;by_cases aJ:kd=4
     ·subst aJ;have z:O9 (p=x nn {a with su:=a.su+1}):=by
       have:=G.o;rw[if_neg ay,if_neg ax,if_neg E,if_pos rfl]at this;exact this
      obtain⟨ch,aQ⟩:=aO.2.1 rfl;obtain⟨k,rfl⟩:∃k:Nat,nn=(k:Int):=⟨nn.toNat,O1⟩;have bz:k<q:=O1;have b2:=aM.low bI.o cf;have aR:=bS.o.low b2;obtain⟨gb,bg,-,ce,bG,bH⟩:=aR.g k bz;have bK:=O0 (bJ.o k bz f.drew.drew.drew _ _ (al.bG (Ae _ _).drew) b2.drew H ad bw);have cM:f.drew.drew.drew.cell? ⟨s,0,N⟩=I (J (I ⟨b,0,N⟩)):=K.m.at 0 rfl;have cN:f.drew.drew.drew.cell? ⟨b,0,N⟩=I (W U q wf):=aR.c;have cO:f.drew.drew.drew.cell? ⟨cg,r*5+1,N⟩=I (V C (k:Int)):=cs;have cP:f.drew.drew.drew.cell? ⟨gb,bg+k*2,N⟩=I (V C (vi k).1):=bG;have cQ:f.drew.drew.drew.cell? ⟨gb,bg+k*2+1,N⟩=I (W (vi k).2.1 (vi k).2.2.1 (vi k).2.2.2):=bH;have c6:(0:Int)<=(k:Int):=ch;have c7:(k:Int)<(q:Int):=aQ;subst ce;clear G ad H K O ag y aR bG bH;go_upto_region 14 with fail
      go_region_with (go_at_call 170;refine bK.o.mono ?_;intro c w5 e;obtain⟨rfl,-⟩:=id e;have Y:=O0 (a3.o _ _ _ (e.of (AF.bW (Ae _ _).drew) (λi hb=>Be hb) (e':=F (R #[])) (r':=R #[]) rfl));clear e)
      all_goals(try go_wp2)
      all_goals
       simp only[Exit.jump];refine bF ?_ O2 rfl rfl;rw[z.o];exact Y.o
     ·have a5:=O0 (WH al (by show L a.Bm<=_;omega) ⟨aN.1,by show a.fr.base<=_;omega⟩);have aW:JC a=(L a.Bm:Int)-1-a.fr.base:=rfl;have cx:=O0 aW;by_cases am:0<JC a
      ·have z:O9 (p=CY 5 {a with su:=a.su+1}):=by
        have:=G.o;rw[if_neg ay,if_neg ax,if_neg E,if_neg aJ,if_pos am]at this;exact this
       have aF:=O0 (Ka 5 (al.bG (Ae _ _).drew));have aV:(0:Int)<(L a.Bm:Int)-1-a.fr.base:=am;clear G ad H K O ag y aW am;obtain⟨aa,ai⟩:∃aa,(L a.Bm:Int)-1-a.fr.base=aa:=⟨_,rfl⟩;have aG:O9 (Az Aa 171 #[J (I ⟨s,0,N⟩)] f.drew.drew λc g=>c=F (V C aa)/\g=f.drew.drew.drew):=by
        have:=a5.o;rw[show((({a with su:=a.su+1}:BA).Bm.length:Int)-1-({a with su:=a.su+1}:BA).fr.base)=aa from ai]at this;exact this
       rw[ai]at aV;clear a5 ai;go_wp2_with (first
        |(go_at_call 171;refine aG.o.mono ?_;rintro c cr ⟨rfl,rfl⟩)
        |(go_at_call 127;refine aF.o.mono ?_;intro c w5 e;obtain⟨rfl,-⟩:=id e;have Y:=O0 (a3.o _ _ _ (e.of (AF.bW (Ae _ _).drew) (λi hb=>Be hb) (e':=F (R #[])) (r':=R #[]) rfl));clear e))
       simp only[Exit.jump];refine bF ?_ O2 rfl rfl;rw[z.o];exact Y.o
      ·have z:O9 (p=B (r:Int) {a with su:=a.su+1}):=by
        have:=G.o;rw[if_neg ay,if_neg ax,if_neg E,if_neg aJ,if_neg am,show a.Bm.getLast?.getD 0=(r:Int) by rw[ar.o];simp]at this;exact this
       have bM:=O0 (bV.o (r:Int) _ _ _ (al.bG (Ae _ _).drew) H ad bw);have aV:¬(0:Int)<(L a.Bm:Int)-1-a.fr.base:=am;have c2:f.drew.drew.drew.cell? ⟨ac,L a.Bm-1,N⟩=I (V .i32 (r:Int)):=bX;clear G ad H K O ag y aW am;obtain⟨aa,ai⟩:∃aa,(L a.Bm:Int)-1-a.fr.base=aa:=⟨_,rfl⟩;have aG:O9 (Az Aa 171 #[J (I ⟨s,0,N⟩)] f.drew.drew λc g=>c=F (V C aa)/\g=f.drew.drew.drew):=by
        have:=a5.o;rw[show((({a with su:=a.su+1}:BA).Bm.length:Int)-1-({a with su:=a.su+1}:BA).fr.base)=aa from ai]at this;exact this
       rw[ai]at aV;clear a5 ai;go_wp2_with (first
        |(go_at_call 171;refine aG.o.mono ?_;rintro c cr ⟨rfl,rfl⟩)
        |(go_at_call 172;refine bM.o.mono ?_;intro c w5 e;obtain⟨rfl,-⟩:=id e;have Y:=O0 (a3.o _ _ _ (e.of (AF.bW (Ae _ _).drew) (λi hb=>Be hb) (e':=F (R #[])) (r':=R #[]) rfl));clear e))
       simp only[Exit.jump];refine bF ?_ O2 rfl rfl;rw[z.o];exact Y.o
def LY(a:Nat):Cb:=⟨4,(a:Int),0,0,[]⟩
def Nl(c:Nat)(b a:Int):BA:=⟨(AV c).map LY,[],⟨0,[],0⟩,[],0,b,0,a,0,0,[]⟩
theorem Ajz(o:n.ownsRow w wp 5 (W (I ⟨s,0,N⟩) b j) b ((AV (b*5)).map (DB 5 wj wu)))(p:(L wu)=wf)(u:wf<b)(c d e f g:X):(((((n.setCell ⟨s,wf*5,N⟩ c).setCell ⟨s,wf*5+1,N⟩ d).setCell ⟨s,wf*5+2,N⟩ e).setCell ⟨s,wf*5+3,N⟩ f).setCell ⟨s,wf*5+4,N⟩ g).ownsRow w wp 5 (W (I ⟨s,0,N⟩) b j) b ((AV (b*5)).map (DB 5 wj (wu++[[c,d,e,f,g]]))):=by
 subst p;have t:=((((((o.stored (L wu*5) c).1.stored (L wu*5+1) d).1.stored (L wu*5+2) e).1.stored (L wu*5+3) f).1.stored (L wu*5+4) g).1);have wp:((((((AV (b*5)).map (DB 5 wj wu)).set (L wu*5) c).set (L wu*5+1) d).set (L wu*5+2) e).set (L wu*5+3) f).set (L wu*5+4) g=(AV (b*5)).map (DB 5 wj (wu++[[c,d,e,f,g]])):=by
  apply Azh
  ·simp
  ·intro a q r;simp[List.getElem_set,AN,List.getElem_range];by_cases m:(L wu)*5+4=a
   ·subst m;rw[if_pos rfl,JR O1,show(L wu*5+4) % 5=4 by omega];rfl
   rw[if_neg m];by_cases l:(L wu)*5+3=a
   ·subst l;rw[if_pos rfl,JR O1,show(L wu*5+3) % 5=3 by omega];rfl
   rw[if_neg l];by_cases k:(L wu)*5+2=a
   ·subst k;rw[if_pos rfl,JR O1,show(L wu*5+2) % 5=2 by omega];rfl
   rw[if_neg k];by_cases i:(L wu)*5+1=a
   ·subst i;rw[if_pos rfl,JR O1,show(L wu*5+1) % 5=1 by omega];rfl
   rw[if_neg i];by_cases h:(L wu)*5=a
   ·subst h;rw[if_pos rfl,JR O1,show(L wu*5) % 5=0 by omega];rfl
   rw[if_neg h,T9 O1]
 grind
theorem Xh(a:List (Cb×X)):(a.flatMap Ep).length=L a*5:=N6 (enc:=Ep) (λ_=>rfl) a
theorem Arw(b:List (Cb×X))(f:List X):(AV (L b*5)).map (DB 5 f (b.map Ep))=b.flatMap Ep:=by
 apply Bai;intro a;by_cases d:a<L b*5
 ·have e:a / 5<L b:=O1;have c:=Nx (size:=5) Ep (λ_=>rfl) b (a / 5) e (a % 5) O1;rw[show a / 5*5+a % 5=a by omega]at c;rw[c,Awt,List.getElem?_range d,Azb,N2 O6,AN];have:a % 5<(Ep b[a / 5]).length:=by simp[Ep];omega
  grind
 ·rw[Ayi O5,Ayi (by rw[Xh];omega)]
theorem Am0(c:Q)(b:Array X)(a:Nat)(d:A0)(f:Nat)(g:f<=c.heap.size)(k:b.size=5)(h:a<=maxLen):(c.alloc (.cells (madeCells b (a*5)) d)).ownsRow f d 5 (W (I ⟨c.heap.size,0,N⟩) a a) a ((AV (a*5)).map (DB 5 b.toList [])):=by
 have j:=World.ownsRow_lit (e:=d) c (madeCells b (a*5)) a g h (by rw[size_madeCells]);have e:(madeCells b (a*5)).toList=(AV (a*5)).map (DB 5 b.toList []):=by
  unfold madeCells;simp only[Array.toList_map,Array.toList_range];refine Ays λi _=>?_;have:i % 5<b.size:=O1;unfold DB;grind
 grind
theorem Avx(a:Nat)(i:a<=1000000)(b:Q):(Instr.makeSlice 107 (V C (a:Int)) (V C (a:Int))).run Aa b=.ok (W (I ⟨b.heap.size,0,N⟩) a a) (b.alloc (.cells (madeCells #[V .u8 0,V C 0,V .i32 0,V .i32 0,W N 0 0] (a*5)) 197)):=by
 let ⟨h,d,c⟩:=AB.1 WL
 simp[Aw0]at c;let ⟨e,f,g⟩:=c
 rw[run_make b 107 197 h _ underlying107 d e C C a a O1 O1 (by rw[g];omega) O1,f];rfl
def Lk(b:Nat):List (List X):=((AV b).map λa=>(LY a,W N 0 0)).map Ep
theorem Amw(a:Nat):(Lk a).length=a:=by simp[Lk]
theorem Ama(a:Nat):Lk (a+1)=Lk a++[[V .u8 4,V C (a:Int),V .i32 0,V .i32 0,W N 0 0]]:=by simp[Lk,Az0,Ep,LY]
def Rx:List X:=[V .u8 0,V C 0,V .i32 0,V .i32 0,W N 0 0]
structure UU (b wr:Q) (c a:Nat) (e d:Int) (f:Nat):Prop where
 low:Ow b wr
 m:B7 wr b.heap.size (mL c (W (I ⟨b.heap.size+1,0,N⟩) a a) (W N 0 0) (W N 0 0) (W N 0 0) (W N 0 0) (Nl a e d))
 r:wr.ownsRow b.heap.size 197 5 (W (I ⟨b.heap.size+1,0,N⟩) a a) a ((AV (a*5)).map (DB 5 Rx (Lk f)))
theorem Aq7(d c:Int)(D:n.cell? ⟨w,0,N⟩=I (W U s b))(Y:s<=1000000):
 Az Aa 36 #[J (I ⟨w,0,N⟩),V C d,V C c] n λz v=>Ow n v/\∃t q,z=F (J (I ⟨t,0,N⟩))/\MM n.heap.size v t w (Nl s d c) q/\∀u∈q,n.heap.size<=u:=by
 have O:=Avx s Y;have E:=λab=>BM n ab _ _ _ D;obtain⟨k,o⟩:∃k,k=(n.alloc (.cells #[J (I ⟨w,0,N⟩),W (I ⟨n.heap.size+1,0,N⟩) s s,W N 0 0,V C 0,W N 0 0,V C 0,W N 0 0,V C 0,V C d,V C 0,V C c,V C 0,V C 0,W N 0 0] 118)).alloc (.cells (madeCells #[V .u8 0,V C 0,V .i32 0,V .i32 0,W N 0 0] (s*5)) 197):=⟨_,rfl⟩;have y:O9 (UU n k w s d c 0):=by
  rw[o];have G:B7 (n.alloc (.cells #[J (I ⟨w,0,N⟩),W (I ⟨n.heap.size+1,0,N⟩) s s,W N 0 0,V C 0,W N 0 0,V C 0,W N 0 0,V C 0,V C d,V C 0,V C c,V C 0,V C 0,W N 0 0] 118)) n.heap.size (mL w (W (I ⟨n.heap.size+1,0,N⟩) s s) (W N 0 0) (W N 0 0) (W N 0 0) (W N 0 0) (Nl s d c)):=⟨λi j=>CS _ _ _ _ _ (by
   have:i<14:=j;simp only[mL,Nl];simp_all),λi=>O2,O2⟩
  refine⟨bA.alloc O2 _,G.bX (Below.heap_alloc _ _ _ O2) O2,?_⟩;have l:=Am0 (n.alloc (.cells #[J (I ⟨w,0,N⟩),W (I ⟨n.heap.size+1,0,N⟩) s s,W N 0 0,V C 0,W N 0 0,V C 0,W N 0 0,V C 0,V C d,V C 0,V C c,V C 0,V C 0,W N 0 0] 118)) #[V .u8 0,V C 0,V .i32 0,V .i32 0,W N 0 0] s 197 n.heap.size O2 rfl O8;rw[Ay1]at l;exact l
 go_enter func36,ntmps36;go_wp2;rw[<-o];clear o E O;go_loopw [30] (λp wr=>∃a:Nat,a<=s/\p=V C (a:Int)/\O9 (UU n wr w s d c a)) (λp _=>s-(intOf p).toNat)
 ·grind
 ·clear y;obtain⟨a,ap,rfl,h⟩:=hrel;rename Q=>wr
  by_cases M:a<s
  ·have an:(0:Int)<=(a:Int):=O1;have l:(a:Int)<(s:Int):=O1;have ah:=h.o.m.at 1 rfl;have e:=h.o.r;have f:∀i,i<s*5->wr.cell? ⟨n.heap.size+1,i,N⟩=I (DB 5 Rx (Lk a) i):=λi j=>by rw[e.cellAt i j];simp[j]
   have c0:=f (a*5) O1;have ad:=f (a*5+1) O1;have ae:=f (a*5+2) O1;have af:=f (a*5+3) O1;have ag:=f (a*5+4) O1;have ai:=e.frozenAt (a*5);have aj:=e.frozenAt (a*5+1);have ak:=e.frozenAt (a*5+2);have al:=e.frozenAt (a*5+3);have am:=e.frozenAt (a*5+4);have x:UU n (((((wr.setCell ⟨n.heap.size+1,a*5,N⟩ (V .u8 4)).setCell ⟨n.heap.size+1,a*5+1,N⟩ (V C (a:Int))).setCell ⟨n.heap.size+1,a*5+2,N⟩ (V .i32 0)).setCell ⟨n.heap.size+1,a*5+3,N⟩ (V .i32 0)).setCell ⟨n.heap.size+1,a*5+4,N⟩ (W N 0 0)) w s d c (a+1):=by
    refine⟨((((h.o.low.setCell O2 _).setCell O2 _).setCell O2 _).setCell O2 _).setCell O2 _,((((FB.set h.o.m O1 _).set O1 _).set O1 _).set O1 _).set O1 _,?_⟩;rw[Ama];exact Ajz e (Amw a) M _ _ _ _ _
   clear e f h;go_wp2;exact⟨⟨a+1,O1,rfl,x⟩,by simp[intOf];omega⟩
  ·obtain rfl:a=s:=O1;have ao:¬(a:Int)<(a:Int):=O1;go_wp2;go_ret;have e:=h.o.r;have K:((AV a).map λg=>(LY g,W N 0 0)).length=a:=O2;have aa:(AV (a*5)).map (DB 5 Rx (Lk a))=((AV a).map λg=>(LY g,W N 0 0)).flatMap Ep:=by
    have:=Arw ((AV a).map λg=>(LY g,W N 0 0)) Rx;rw[K]at this;exact this
   rw[aa]at e;have B:MM n.heap.size wr n.heap.size w (Nl a d c) (mB n.heap.size (W (I ⟨n.heap.size+1,0,N⟩) a a) (W N 0 0) (W N 0 0) (W N 0 0)):=by
    refine⟨(AV a).map λg=>(LY g,W N 0 0),[],_,_,_,_,_,⟨h.o.m,O6,λac f=>?_,Axc _ _ _ _,Axc _ _ _ _,λac f=>absurd f nofun,Be ⟨rfl,rfl⟩,Axc _ _ _ _,?_,rfl,?_,Ac _⟩,rfl⟩
    ·obtain⟨g,-,rfl⟩:=AE.1 f;exact⟨N,0,rfl,λg H=>absurd H nofun⟩
    ·rw[A4];rfl
    ·simp[mB,vB,Awu]
   exact⟨h.o.low,n.heap.size,rfl,_,B,λu hb=>by
    simp[mB,vB,Awu]at hb;omega⟩
theorem Fe.ins(q:Fe w n p wl){b:Nat}(v:b<L wl):∃f m l k,f<w/\p=W (I ⟨f,0,N⟩) (L wl) (L wl)/\n.cell? ⟨f,b*3,N⟩=I (.int C wl[b].op)/\n.cell? ⟨f,b*3+1,N⟩=I (.int C wl[b].a)/\n.cell? ⟨f,b*3+2,N⟩=I (W m l k):=by
 rcases q with⟨-,rfl⟩|⟨h,d,hb,y,s,u,r⟩
 ·simp at v
 ·have D:(L d)=L wl:=O6;have B:b<L d:=O1;have g:∀e,e<3->n.cell? ⟨h,b*3+e,N⟩=(Np d[b])[e]?:=λe z=>by
   have t:(b*3+e) / 3=b:=O1;have x:(b*3+e) % 3=e:=O1;rw[u.c _ O1,N2 O6];simp[t,x,AN];have:e<(Np d[b]).length:=by simp[Np];omega
   grind
  obtain⟨j,-,o,-⟩:=r d[b] (Ao _);have i:wl[b]=d[b].1:=by simp[<-s]
  refine⟨h,I ⟨j,0,N⟩,d[b].1.alts.length,d[b].1.alts.length,hb,y,?_,?_,?_⟩
  ·rw[show b*3=b*3+0 by rfl,g 0 O1,i];rfl
  ·rw[g 1 O1,i];rfl
  ·rw[g 2 .refl];exact congrArg I o
def CK(a:BA):BA:={a with fr:={a.fr with at_:=a.fr.at_+1}}
theorem MM.next(f:MM w n s b d t){k:Nat}(q:d.fr.at_=(k:Int))(r:k<L d.fr.Bj):∃e x c j h g,k<x/\n.cell? ⟨s,4,N⟩=I (W (I ⟨e,0,N⟩) x c)/\n.cell? ⟨s,5,N⟩=I (V C (k:Int))/\n.frozen? ⟨s,5,N⟩=false/\((n.setCell ⟨s,5,N⟩ (V C ((k:Int)+1))).cell? ⟨e,k*3,N⟩=I (.int C d.fr.Bj[k].op)/\(n.setCell ⟨s,5,N⟩ (V C ((k:Int)+1))).cell? ⟨e,k*3+1,N⟩=I (.int C d.fr.Bj[k].a)/\(n.setCell ⟨s,5,N⟩ (V C ((k:Int)+1))).cell? ⟨e,k*3+2,N⟩=I (W j h g))/\e∉t/\e<n.heap.size/\MM w (n.setCell ⟨s,5,N⟩ (V C ((k:Int)+1))) s b (CK d) t/\AF t n (n.setCell ⟨s,5,N⟩ (V C ((k:Int)+1))):=by
 obtain⟨B,E,D,M,v,G,O,f,rfl⟩:=f;let ⟨e,j,h,g,hb,H,c0,y,z⟩:=f.cd.ins r
 have U:=f.ml;have Y:=f.lz;have o:=f.m.at 4 rfl;have p:=f.m.at 5 rfl;rw[H]at o;rw[q]at p;have l:(n.setCell ⟨s,5,N⟩ (V C (k+1))).heap[e]?=n.heap[e]?:=AA _ _ _ _ (show e≠s by omega);refine⟨e,_,_,j,h,g,r,o,p,f.m.fz 5,⟨Eu l c0,Eu l y,Eu l z⟩,λK=>?_,O1,⟨B,E,D,M,v,G,O,?_,rfl⟩,AF.refl.set (Be (Aw3 ..)) _⟩
 ·have:=(f.rg e K).1;omega
 ·exact(f.cN (i:=5) (u:=V C ((k:Int)+1)) (st':=CK d) (kv':=v) (by simp[mL,CK,q]) O1 rfl rfl rfl rfl f.cd)
def NxF(m c k:Nat)(h:List Nat)(j:Q)(g:BA)(b:Nat)(e:Q):Prop:=∃d i l:Nat,∃f,(b:Int)<(i:Int)/\e.cell? ⟨c,4,N⟩=I (W (I ⟨d,0,N⟩) i l)/\e.cell? ⟨c,5,N⟩=I (V C (b:Int))/\e.frozen? ⟨c,5,N⟩=false/\(e.setCell ⟨c,5,N⟩ (V C ((b:Int)+1))).cell? ⟨d,b*3,N⟩=I (V C ((g.fr.Bj[b]?).getD ⟨0,0,[]⟩).op)/\(e.setCell ⟨c,5,N⟩ (V C ((b:Int)+1))).cell? ⟨d,b*3+1,N⟩=I (V C ((g.fr.Bj[b]?).getD ⟨0,0,[]⟩).a)/\d∉f/\d<(e.setCell ⟨c,5,N⟩ (V C ((b:Int)+1))).drew.heap.size/\MM m (e.setCell ⟨c,5,N⟩ (V C ((b:Int)+1))).drew c k (CK (Ck g)) f/\AF h j (e.setCell ⟨c,5,N⟩ (V C ((b:Int)+1))).drew/\∀d∈f,d∈h\/j.heap.size<=d
theorem RQ(r:MM w n s b d t)(G:Fw d)(c:Ec d=true){a:Nat}(Y:d.fr.at_=(a:Int))(aa:a<L d.fr.Bj):
 Az Aa 73 #[J (I ⟨s,0,N⟩)] n λe i=>e=F (A true)/\NxF w s b t n d a i:=by
 refine(MQ r G).mono λe i h=>?_;have g:=h.1;obtain⟨-,y,j,v,f⟩:=h;rw[c]at g;have z:(Ck d).fr.at_=a:=by rw[ES c];omega
 have E:(Ck d).fr.Bj=d.fr.Bj:=by rw[ES c]
 let ⟨k,H,l,O,M,K,ab,o,p,q,⟨c0,m,U⟩,B,D,x,u⟩:=v.next z O6
 simp[E]at c0 m;refine⟨g,k,H,l,j,O1,o,p,q,?_,?_,B,by simpa using D,x.bG (Ae _ _).drew,(y.trans u f).then (Ae _ _).drew,f⟩
 ·grind
 grind
def QS(n b j:Nat)(a:List Nat)(h:Q)(o:BA)(k:List (Cb×X))(l:List (HG×X))(d m e g:X)(i:Q):Prop:=∃f,BW n i b j o k l d f m e g/\AF a h i/\∀c∈mB b d f e g,c∈a\/h.heap.size<=c
theorem BW.begun(a:BW w n s b d nu nq p y e (W U (L nq) j) G):BW w ((((n.setCell ⟨s,3,N⟩ (V C 0)).setCell ⟨s,4,N⟩ (W N 0 0)).setCell ⟨s,5,N⟩ (V C 0)).setCell ⟨s,6,N⟩ (W U 0 j)) s b {d with fr:=⟨0,[],0⟩,BR:=[]} nu [] p y (W N 0 0) (W U 0 j) G/\AF (mB s p y (W U (L nq) j) G) n ((((n.setCell ⟨s,3,N⟩ (V C 0)).setCell ⟨s,4,N⟩ (W N 0 0)).setCell ⟨s,5,N⟩ (V C 0)).setCell ⟨s,6,N⟩ (W U 0 j))/\∀c∈mB s p y (W U 0 j) G,c∈mB s p y (W U (L nq) j) G\/n.heap.size<=c:=
 a.step (((((a.sp.cD (L1:=[_,_,_]) AF.refl (by simpa using Uy a.dp (Ai _)) (Hs _) λh g=>have f:h∈vB (W U (L nq) j):=M4▸g;⟨.inl f,(FV a.dp f).2⟩).cZ O1).cZ O1).cZ O1).cZ O1) a.fl nofun (.inl ⟨rfl,rfl⟩) a.Fh rfl
def S8(a:Int)(b:BA):BA:={b with Bm:=[a],fr:=⟨0,[],0⟩,BR:=[],state:=0}
def Ry(a:Nat)(c:Q)(b:Nat):Int:=intOf ((c.cell? ⟨a,b,N⟩).getD .nilIface)
def Kt(a:BA):Nat:=2*(a.sm-a.su).toNat+if a.state=0 then 1 else 0
def QL(a:Nat)(b:Q):Nat:=2*(Ry a b 8-Ry a b 7).toNat+if Ry a b 11=0 then 1 else 0
theorem MM.mu(a:MM w n s b d t):QL s n=Kt d:=by
 obtain⟨c,f,e,i,h,g,j,a,-⟩:=a;unfold QL Kt Ry;rw[a.m.at 7 rfl,a.m.at 8 rfl,a.m.at 11 rfl];rfl
theorem MM.da(a:MM w n s b d t):w<=n.heap.size/\∀c∈t,w<=c:=by
 obtain⟨e,g,f,j,i,h,k,a,rfl⟩:=a;exact⟨a.lz,λc hb=>(a.rg c hb).1⟩
def Iu(a:BA):X:=if a.state=2 then R #[V .i32 0,A false] else R #[V .i32 (a.Bm.headD 0),A true]
def Nu(lo M Pb:Nat)(a:List Nat)(e:Q)(f:BA->Prop)(wr:Q):Prop:=∃d b,MM lo wr M Pb d b/\AF a e wr/\(∀c∈b,c∈a\/e.heap.size<=c)/\f d
variable{zy:BA->Prop}
theorem Nu.of{lo M Pb:Nat}{w':Q}{r:X}{e:Ending}(c:AF t n q)(f:∀a∈n8,a∈t\/n.heap.size<=a)(k:zy d)(b:B2 lo M Pb n8 q d r e w'):Nu lo M Pb t n zy w':=by
 obtain⟨-,h,g,j,i⟩:=b;exact⟨d,g,j,c.trans h f,λa hb=>by
  rcases i a hb with b|b
  ·exact f a b
  ·have:=c.size;omega,k⟩
theorem Ahf{lo:Nat}{M Pb:Nat}(c:Int)(o:BA->Prop)(h:MM lo n M Pb d t)(aE:∀w' D,MM lo w' M Pb (S8 c d) D->Below lo n w'->Az Aa 124 #[J (I ⟨M,0,N⟩)] w' λe ai=>∃f,o f/\B2 lo M Pb D w' f (R #[]) e ai)(aC:∀w' st' D,o st'->st'.state=0->MM lo w' M Pb st' D->Below lo n w'->Az Aa 125 #[J (I ⟨M,0,N⟩)] w' λe ai=>∃f,o f/\Kt f<Kt st'/\B2 lo M Pb D w' f (R #[]) e ai)(aD:∀st',o st'->st'.state≠0->st'.state≠2->st'.Bm≠[]):
 Az Aa 72 #[J (I ⟨M,0,N⟩),V .i32 c] n λe w'=>∃ac,o ac/\ac.state≠0/\B2 lo M Pb t n ac (Iu ac) e w':=by
 have U:=O0 h.da;obtain⟨an,aO,ao,aI,bf,aQ,a1,h,af⟩:=h;obtain⟨bh,sc,rfl⟩:=Cf h.sk;obtain⟨a6,ap,rfl⟩:=Cf h.dp;have aq:=h.m.at 2 rfl;have ar:=h.m.at 6 rfl;have a7:=λah=>BM n ah _ _ _ aq;have a8:=λah=>BM n ah _ _ _ ar;have am:=O0 (Jk (h.dz (Ai _)));have ae:=O0 λ(a5 w2:Q) (v:X) (hb:Ow n a5) p=>h.dv (l:=[c]) (w2:=w2) (v:=v) (Ai _) hb p;have aZ:(0:Int)<=(sc:Int):=O1;have ba:(0:Int)<=(ap:Int):=O1;have aF:M∈t:=af▸.head _;rw[<-af]at ae;clear h af;go_enter func72,ntmps72;go_upto_region 1 with fail
 go_cut [] (λa3=>O9 (QS lo M Pb t n {d with Bm:=[c],fr:=⟨0,[],0⟩,BR:=[]} an [] ao (W N 0 0) (W a6 0 ap) a1 a3))
 case first=>
  go_region_law
   (first
    |(refine HD QG (am.o.alloc _) (AM n _) (m:=1) (c:=1) (s:=.tmp 13) (x:=.tmp 15) rfl rfl rfl rfl rfl (by intro u az;simp at az;subst az;rfl) O1 O1 ?_;intro aB aK bl ay;obtain⟨g,a⟩:=ae.o _ _ _ (by first|exact bA|exact bA.drew) ay;have aH:=g.at 2 rfl;have bb:=g.at 3 rfl;have bc:=g.at 4 rfl;have bd:=g.at 5 rfl;have be:=g.at 6 rfl;have aS:=g.fz 2;have aT:=g.fz 3;have aV:=g.fz 4;have aW:=g.fz 5;have aX:=g.fz 6;have ad:O9 (QS lo M Pb t n _ an [] ao _ _ a1 _):=⟨_,Kq a.2.1 a.2.2 a.1.begun⟩;clear ay g a))
  all_goals(try go_wp2)
  all_goals
   go_meet
   first|exact ad|exact ad.o.drew|exact ad.o.drew.drew
 case rest=>
  clear ae am aq ar a7 a8;rename Q=>a3
  obtain⟨aI,G,z,au⟩:=hcut.o;have O:=G.m.at 11 rfl;have a9:=G.m.fz 11;have k:=z.set (j:=11) (.inl aF) (V C 0);have al:=O0 (aE _ _ ⟨_,_,_,_,_,_,_,G.cN (i:=11) (u:=V C 0) (st':=S8 c d) rfl O1 rfl rfl rfl rfl G.cd,rfl⟩ (k.low U.o.2 U.o.1));have E:=O0 λe a2 f (q:o f) a=>Nu.of (lo:=lo) (M:=M) (Pb:=Pb) (e:=e) (w':=a2) (r:=R #[]) k au q a;clear hcut G z au k;go_wp2_with (first
   |(go_at_call 124;refine al.o.mono ?_;rintro e a2 ⟨f,q,a⟩;have w:=O0 (E.o _ _ _ q a);obtain⟨rfl,-⟩:=a;clear al E O a9 q))
  go_loopw [] (λwr=>O9 (Nu lo M Pb t n o wr)) (λwr=>QL M wr)
  ·exact w
  ·clear w;rename Q=>wr
   obtain⟨b,aj,Y,k,H,q⟩:=hrel.o;have aG:=Y.mu;have w:O9 (B2 lo M Pb t n b (Iu b) (F (Iu b)) wr):=⟨rfl,k,aj,Y,H⟩;have ak:=O0 λy=>aC wr b aj q y Y (k.low U.o.2 U.o.1);have a4:=O0 λe w2 f (aa:o f) a=>Nu.of (lo:=lo) (M:=M) (Pb:=Pb) (e:=e) (w':=w2) (r:=R #[]) k H aa a;obtain⟨aM,aP,aN,bi,bg,aR,bk,B,-⟩:=Y;have O:=B.m.at 11 rfl;by_cases y:b.state=0
   ·rw[y]at O;clear hrel k H B;go_wp2_with (first
     |(go_at_call 125;refine(ak.o y).mono ?_;rintro e w2 ⟨f,aa,ax,a⟩;obtain⟨rfl,-,aJ,av,-⟩:=id a;have E:O9 (Nu lo M Pb t n o w2/\QL M w2<Kt b):=⟨a4.o _ _ _ aa a,av.mu▸ax⟩;clear aa ax a av ak O))
    exact⟨E.o.1,by rw[aG];exact E.o.2⟩
   ·by_cases z:b.state=2
    ·have K:Iu b=R #[V .i32 0,A false]:=if_pos z;rw[z]at O;rw[K]at w;clear hrel k H B;go_wp2;go_ret2
     exact⟨b,q,y,K▸w.o⟩
    ·obtain⟨x,bj,ab⟩:=List.exists_cons_of_ne_nil (aD b q y z);have ag:0<L b.Bm:=by rw[ab];simp
     obtain⟨aB,aL,rfl,-,aw⟩:=Ju B.sk ag;have aH:=B.m.at 2 rfl;have a0:=aw 0 ag;have K:Iu b=R #[V .i32 x,A true]:=by rw[Iu,if_neg z,ab];rfl
     rw[ab]at a0;simp only[Ci,A1,List.getElem?_cons_zero]at a0;rw[K]at w;have aY:(0:Int)<(L b.Bm:Int):=O1;clear hrel k H B aw ab ag;go_wp2;go_ret2
     exact⟨b,q,y,K▸w.o⟩
theorem VN:∀(a:List (Cb×X)) r (_:r<L a) y,((((((a.flatMap Ep).set (r*5) (V .u8 y.1.BB)).set (r*5+1) (V C y.1.n)).set (r*5+2) (V .i32 y.1.left)).set (r*5+3) (V .i32 y.1.right)).set (r*5+4) y.2)=(a.set r y).flatMap Ep
 |x::a,0,_,y=>rfl
 |x::a,r+1,hr,y=>by
  rw[AD,Axn,AD,<-VN a r (by simpa using hr) y];have e:∀b d c,(Ep x++b).set ((r+1)*5+d) c=Ep x++b.set (r*5+d) c:=λb d c=>by
   rw[Azk _ _ (by simp[Ep];omega)];congr 2
   simp[Ep];omega
  have f:=λb c=>e b 0 c;grind
theorem WV(b:Q)(a:Addr):b.drew.cell? a=b.cell? a:=rfl
theorem BW.cD(c:BW w n s b d nu nq p y e G wz){r:Nat}(U:r<L d.cells)(h:Int):∃a m i,r<m/\p=W (I ⟨a,0,N⟩) m i/\(∀g,g<5->(∃z,n.cell? ⟨a,r*5+g,N⟩=I z)/\n.frozen? ⟨a,r*5+g,N⟩=false)/\∀l,l=((((n.setCell ⟨a,r*5,N⟩ (V .u8 5)).setCell ⟨a,r*5+1,N⟩ (V C 0)).setCell ⟨a,r*5+2,N⟩ (V .i32 h)).setCell ⟨a,r*5+3,N⟩ (V .i32 0)).setCell ⟨a,r*5+4,N⟩ (W N 0 0)->BW w l s b {d with cells:=d.cells.set r ⟨5,0,h,0,[]⟩} (nu.set r (⟨5,0,h,0,[]⟩,W N 0 0)) nq p y e G wz/\AF (mB s p y G wz) n l:=by
 have O:(L nu)=L d.cells:=by rw[<-c.Fh,An]
 rcases id c.cl.2 with⟨-,E⟩|⟨a,i,D,v,H⟩
 ·omega
 have j:=c.cl;subst v;have K:=Xh nu;have t:=((((((j.stored (r*5) (V .u8 5)).1.stored (r*5+1) (V C 0)).1.stored (r*5+2) (V .i32 h)).1.stored (r*5+3) (V .i32 0)).1.stored (r*5+4) (W N 0 0)).1);rw[VN nu r O1 (⟨5,0,h,0,[]⟩,W N 0 0)]at t;have f:a∈vB (W (I ⟨a,0,N⟩) (L nu) i):=by rw[EV];simp
 obtain⟨o,x⟩:=c.eZ (((((AF.refl.set (.inl f) _).set (.inl f) _).set (.inl f) _).set (.inl f) _).set (.inl f) _) (by rwa[Ayc]) (λB k=>by
  rcases Azo k with k|rfl
  ·exact c.fl B k
  ·exact⟨N,0,rfl,λY u=>absurd u nofun⟩)
 rw[List.map_set,c.Fh]at o;refine⟨a,L nu,i,O1,rfl,λg M=>⟨⟨_,(j.cellAt (r*5+g) ?_).trans (Af ?_)⟩,j.frozenAt _⟩,λ_ q=>q▸⟨o,x⟩⟩<;>omega
def Vx(b:Nat)(c:Int)(a:BA):BA:={a with cells:=a.cells.set b ⟨5,0,c,0,[]⟩}
theorem Agl{H:Nat}{w:Q}{M:Nat}(e:MM H w M b d t)(v:Fw d)(l:Ec d=true){i:Nat}(ad:d.fr.at_=(i:Int))(ah:i<L d.fr.Bj)(aC:i<=1000000000)(aw:d.fr.Bj[i].op=5)(aE:(L d.Bm)<=1000000000){s:List Int}{x:Int}(aj:d.Bm=s++[x]){j r:Nat}(au:d.fr.Bj[i].a=(j:Int))(av:j<L s)(ai:s[L s-1-j]?=I (r:Int))(aF:r<L d.cells):
 Az Aa 125 #[J (I ⟨M,0,N⟩)] w λq p=>B2 H M b t w (Vx r x (Cd 1 (CK (Ck d)))) (R #[]) q p:=by
 have U:=RQ e v l ad ah;have k:(Cd 1 (CK (Ck d))).Bm=s:=by rw[ES l];simp[Cd,CK,aj]
 have aB:(Cd 1 (CK (Ck d))).cells=d.cells:=by rw[ES l];rfl
 have ax:(CK (Ck d)).Bm=s++[x]:=by rwa[ES l]
 have aH:(L s)+1<=1000000000:=O6;generalize hs1:CK (Ck d)=s1 at*;clear e l v ad aj;go_enter func125,ntmps125;go_wp2_with (first
  |(go_at_call 73;refine U.mono ?_;rintro q aX ⟨rfl,f,n,c,a1,aD,a7,a8,a9,c0,B,ae,af,ac,aa,ab⟩;rw[Af ah,Ax2]at c0 B;rw[aw]at c0;rw[au]at B;rw[hs1]at ac;clear U))
 go_region
 go_wp2_with (first
  |(go_at_call 174;refine(RB ac ax O6).mono ?_;rintro q O ⟨rfl,u,a2,⟨a3,a5,a4,aL,aK,a6,aM,e,rfl⟩,G⟩))
 have am:=Eu (u.block f af ae) B;obtain⟨g,an,aq,aG,rfl,h,ak⟩:=e.cD (r:=r) O6 x;obtain⟨D,ar,rfl,-,ag⟩:=Ju e.sk (by rw[k];omega);obtain⟨⟨u0,aR⟩,aZ⟩:(∃a0,O.cell? ⟨g,r*5,N⟩=I a0)/\O.frozen? ⟨g,r*5,N⟩=false:=h 0 O1;obtain⟨⟨aN,aS⟩,ba⟩:=h 1 O1;obtain⟨⟨aO,aT⟩,bb⟩:=h 2 O1;obtain⟨⟨aP,aV⟩,bc⟩:=h 3 O1;obtain⟨⟨aQ,aW⟩,bd⟩:=h 4 .refl;have ay:=e.m.at 1 rfl;have al:=e.m.at 2 rfl;simp only[k]at al;have az:O.cell? ⟨D,L s-1-j,N⟩=I (V .i32 (r:Int)):=(ag _ (by rw[k];omega)).trans (by simp[Ci,k,ai]);obtain⟨y,K⟩:=ak _ rfl;have E:=y.sk.cellAt (L s-1-j) O6;simp only[Ci,k,Awt,ai,Azb]at E;have Y:=Aw6 (y.m.at 1 rfl) (Aw6 (Eu (K.block f (Am af u.size) λv=>(G f v).elim ae λe=>O1) am) E);have z:B2 H M b t w (Vx r x (Cd 1 s1)) (R #[]) (F (R #[])) _:=Jn (Kq (aa.trans u ab) (λf hb=>(G f hb).elim (ab f) λe=>.inr (Ay aa.size e)) ⟨y,K,λ_ hb=>.inl hb⟩);have ao:=O0 λ(ap:Q) h2=>LG (w:=ap) (M:=M) (g:=D) (c:=ar) (n:=L s) j h2 av O1;have aI:(0:Int)<=(r:Int):=O1;have aJ:(r:Int)<(an:Int):=O1;clear e h ak ag y K E u G;go_region_held_law (λp=>p.cell? ⟨M,1,N⟩=I (W (I ⟨g,0,N⟩) an aq)/\p.cell? ⟨f,i*3+1,N⟩=I (V C (j:Int))/\p.cell? ⟨D,L s-1-j,N⟩=I (V .i32 (r:Int))) (first|(with_reducible exact Y)|((try simp only[WV]);with_reducible first|exact⟨ay,am,az⟩|exact Y))
  (first
   |(go_at_call 168;refine(ao.o _ (by exact al)).mono ?_;rintro q aY ⟨rfl,rfl⟩))
 all_goals(try go_wp2)
 all_goals
  refine bF ?_ O2 rfl rfl;first|(with_reducible exact z)|(with_reducible exact z.drew)|(with_reducible exact z.drew.drew)
variable{yc:HG}
theorem BW.resume(a:BW w n b j d nu (nq++[(yc,wz)]) p y e (W U (L nq+1) s) G):BW w ((((n.setCell ⟨b,3,N⟩ (V C yc.base)).setCell ⟨b,4,N⟩ wz).setCell ⟨b,5,N⟩ (V C yc.at_)).setCell ⟨b,6,N⟩ (W U (L nq) s)) b j {d with fr:=yc,BR:=d.BR.dropLast} nu nq p y wz (W U (L nq) s) G/\AF (mB b p y (W U (L nq+1) s) G) n ((((n.setCell ⟨b,3,N⟩ (V C yc.base)).setCell ⟨b,4,N⟩ wz).setCell ⟨b,5,N⟩ (V C yc.at_)).setCell ⟨b,6,N⟩ (W U (L nq) s))/\∀f∈mB b p y (W U (L nq) s) G,f∈mB b p y (W U (L nq+1) s) G\/n.heap.size<=f:=by
 have c:=a.dp;rw[Aw]at c;have g:=Uy (m:=L nq) c O1;rw[AH,List.take_left' (N6 (enc:=Jg) (λ_=>rfl) nq)]at g;refine a.step (((((a.sp.cD (L1:=[_,_,_]) AF.refl g (Hs _) λl i=>have h:l∈vB (W U (L nq+1) s):=M4▸i;⟨.inl h,(FV c h).2⟩).cZ ?_).cZ ?_).cZ ?_).cZ ?_) a.fl (λo k=>a.dc o (by simp[k])) (a.dc (yc,wz) O2) a.Fh (by rw[<-a.GD];simp)<;>omega
theorem Ahb(d:n.ownsRow w wp b p s wj)(g:0<s):∃c a,p=W (I ⟨c,0,N⟩) s a/\s<=a:=by
 rcases d.2 with⟨-,e⟩|⟨c,a,_,rfl,-,-,f,-⟩
 ·omega
 grind
theorem Ank{j:Nat}(x:Int)(h:Nat)(e:MM w n j b d t)(ar:d.BR≠[])(hb:d.fr.base=(h:Int))(ag:h<L d.Bm)(aG:(L d.Bm)<=5000000000)(aE:(L d.BR)<=1000000000000):
 Az Aa 172 #[J (I ⟨j,0,N⟩),V .i32 x] n λi az=>B2 w j b t n (G7 x d) (R #[]) i az:=by
 obtain⟨ao,a,ac,ay,aw,a4,al,e,rfl⟩:=e;obtain⟨ax,sc,rfl⟩:=Cf e.sk;obtain⟨a,⟨f,M⟩,rfl⟩:∃l f,a=l++[f]:=(Ax6 a).elim (λz=>absurd (by rw[<-e.GD,z];rfl) ar) λ⟨l,f,i⟩=>⟨l,f,by simpa using i⟩;have ah:(a++[(f,M)]).length=L a+1:=O2;have O:=e.dp;rw[ah]at O;obtain⟨y,H,rfl,aD⟩:=Ahb O O1;have aF:(L a)+1<=1000000000000:=by
  have:=congrArg L e.GD;grind
 obtain⟨u,q,o,rfl⟩:∃u q o,M=W u q o:=by
  rcases e.dc (f,M) O2 with⟨i,-⟩|⟨a1,a0,-,i,-⟩<;>exact⟨_,_,_,i⟩
 have aC:=(UJ e.sk).1;have ad:=e.m.at 2 rfl;have K:=e.m.at 3 rfl;rw[hb]at K;have ap:=λY=>BM n Y _ _ _ ad;have aq:=λY=>BM n Y _ _ _ K;have am:G7 x d={d with Bm:=d.Bm.take h++[x],fr:=f,BR:=d.BR.dropLast}:=by
  have au:d.BR.getLast?=I f:=by rw[<-e.GD];simp
  show _=_;simp[G7,au,hb]
 have aa:=Jk (e.dz (Azp ag));have ab:=O0 λ(an w2:Q) (v:X) (hb:Ow n an) p=>e.dv (l:=[x]) (w2:=w2) (v:=v) (Azp ag) hb p;have aH:(0:Int)<=(h:Int):=O1;have aI:(h:Int)<=(sc:Int):=O1;have aJ:(0:Int)<=(L a:Int):=O1;have aK:(L a:Int)<((L a+1:Nat):Int):=O1;have aL:(L a:Int)<=(H:Int):=O1;clear e O;go_enter func172,ntmps172;go_upto_region 0 with fail
 go_cut [] (λD=>O9 (QS w j b (mB j ac (W ax (L d.Bm) sc) (W (I ⟨y,0,N⟩) (L a+1) H) al) n {d with Bm:=d.Bm.take h++[x]} ao (a++[(f,W u q o)]) ac aw (W (I ⟨y,0,N⟩) (L a+1) H) al D))
 case first=>
  go_region_law
   (first
    |(refine HD QG (aa.alloc _) (AM n _) (m:=1) (c:=1) (s:=.tmp 15) (x:=.tmp 17) rfl rfl rfl rfl rfl (by intro aR ak;simp at ak;subst ak;rfl) O1 O1 ?_;intro aB c aS ai;obtain⟨U,aj⟩:=ab.o _ _ _ (by first|exact bA|exact bA.drew) ai;have aQ:=U.at 2 rfl;have a9:=U.fz 2;have E:QS ..:=⟨_,aj⟩;clear ai U aj))
  all_goals(try go_wp2)
  all_goals
   go_meet
   first|exact(O0 E)|exact E.drew|exact E.drew.drew
 case rest=>
  rename Q=>D
  obtain⟨ay,g,ae,af⟩:=hcut.o;have aM:=g.m.at 3 rfl;have aN:=g.m.at 4 rfl;have aO:=g.m.at 5 rfl;have aP:=g.m.at 6 rfl;have a5:=g.m.fz 3;have a6:=g.m.fz 4;have a7:=g.m.fz 5;have a8:=g.m.fz 6;have B:∀k,k<3->D.cell? ⟨y,L a*3+k,N⟩=(Jg (f,W u q o))[k]?:=λk av=>by
   have z:=g.dp;rw[ah]at z;rw[z.cellAt _ O1,Nx (size:=3) Jg (λ_=>rfl) _ (L a) O2 k av,List.getElem_concat_length rfl]
  have c0:D.cell? ⟨y,L a*3,N⟩=I (V C f.base):=B 0 O1;have a2:_=I (W u q o):=B 1 O1;have a3:_=I (Value.int C f.at_):=B 2 .refl;have G:=Jn (r:=R #[]) (Kq ae af g.resume);clear hcut g ae af B ab aa ad K ap aq;go_wp2;go_region
  all_goals(try go_wp2)
  all_goals
   refine bF ?_ O2 rfl rfl;rw[am];first|exact G.drew|exact G|exact G.drew.drew
def Kv(b:BA)(a:Int):Int:=((b.cells[a.toNat]?).getD ⟨0,0,0,0,[]⟩).BB
def Ft(b:BA)(a:Int):Int:=((b.cells[a.toNat]?).getD ⟨0,0,0,0,[]⟩).right
def LD(a:Nat)(b:BA):List Int:=(b.Bm.drop (L b.Bm-1-a)).take a
def C7(c:Int->Int)(a:List Int)(b:Nat):List Int:=a.take (L a-b)++((a.drop (L a-1-b)).take b).map c
theorem SF(d:Int->Int)(a:List Int)(c b:Nat)(e:c<L a):(C7 d a c)[b]?=if b<L a-c then a[b]? else if b<L a then (a[b-1]?).map d else none:=by
 unfold C7;grind
theorem RA(c:Int->Int)(a:List Int)(b:Nat)(d:b<L a):(C7 c a b).length=L a:=by
 unfold C7;simp;omega
theorem Aqm(c:Int->Int)(a:List Int)(b:Nat)(e:b+1<L a):C7 c a (b+1)=(C7 c a b).set (L a-1-b) (c (a[L a-2-b]'(by omega))):=by
 apply Bai;intro d;rw[SF c a (b+1) d e,List.getElem?_set,SF c a b d O1,RA c a b O1];grind
theorem Agk(b:Int->Int)(a:List Int):C7 b a 0=a:=by simp[C7]
def JL(c:Int->BA->BA)(b:Nat)(d:List BJ)(a:BA):BA:=
 if JC a<(b:Int) then c ((a.Bm[a.fr.base.toNat]?).getD 0) a
 else if (LD b a).all (λe=>decide (Kv a e=2)) then {a with Bm:=C7 (Ft a) a.Bm b,fr:=⟨a.fr.base,d,0⟩} else CY 3 a
theorem XG{st:BA}{j:Nat}(a:w<L st.Bm)(b:j<w):st.Bm[L st.Bm-2-j]?=(LD w st)[w-1-j]?:=by
 unfold LD;grind
def Ir:Nat->BA->BA
 |0,st=>st
 |n+1,st=>NY ⟨0,0,0,0,[]⟩ (Ir n st)
theorem Aun(a:Nat)(b:BA):(Ir a b).Bm.length=L b.Bm+a/\(Ir a b).cells.length=L b.cells+a:=by
 induction a with
 |zero=>exact⟨rfl,rfl⟩
 |succ a ih=>simp[Ir,NY,ih.1,ih.2];omega
def Mm(a:Nat)(b:BA):BA:=if I5 a b then Ir a (Ef a b) else Ef a b
theorem Aoh(b:Int)(a:BA):(Ef b a).Bm=a.Bm/\(Ef b a).cells=a.cells:=by unfold Ef;split<;>exact⟨rfl,rfl⟩
theorem B2.mm(e:B2 w s b t n d p n2 q):∃a,MM w q s b d a/\AF t n q/\∀c∈a,c∈t\/n.heap.size<=c:=by
 obtain⟨-,f,a,g,h⟩:=e;grind
theorem Atx(a:Nat)(ab:a<=1000000)(k:MM w n s b d t)(G:Fw d)(aa:(L d.Bm)<=1000000000)(U:(L d.cells)<=100000000):
 Az Aa 176 #[J (I ⟨s,0,N⟩),V C (a:Int)] n λf j=>B2 w s b t n (Mm a d) (R #[]) f j:=by
 have h:=O0 (Abp (a:Int) O1 k G);cases hrb:I5 a d with
 |false=>
  rw[hrb]at h;have g:Mm a d=Ef a d:=by unfold Mm;rw[hrb];rfl
  rw[g];clear k hrb g;go_enter func176,ntmps176;go_wp2_with (first
   |(go_at_call 228;refine h.o.mono ?_;intro f M e;obtain⟨rfl,-⟩:=id e;have i:=e.of AF.refl (λx hb=>Be hb) (r':=R #[]) (e':=F (R #[])) rfl;clear e))
  exact bF i O2 rfl rfl
 |true=>
  rw[hrb]at h;have g:Mm a d=Ir a (Ef a d):=by unfold Mm;rw[hrb];rfl
  rw[g];let ⟨q,r⟩:=Aoh a d
  have u:∀c wr,c<a->B2 w s b t n (Ir c (Ef a d)) (R #[]) (F (R #[])) wr->Az Aa 229 #[J (I ⟨s,0,N⟩),T #[V .u8 0,V C 0,V .i32 0,V .i32 0,W N 0 0]] wr λf j=>f=F (R #[])/\O9 (B2 w s b t n (Ir (c+1) (Ef a d)) (R #[]) (F (R #[])) j):=λc wr p e=>by
   let ⟨O,y,z,B⟩:=e.mm
   let ⟨H,K⟩:=Aun c (Ef a d)
   rw[q]at H;rw[r]at K;refine(Ad5 ⟨0,0,0,0,[]⟩ (W N 0 0) ⟨N,0,rfl,λac D=>absurd D nofun⟩ ⟨_,_,_,rfl⟩ y O1 O1).mono λf j e=>?_;exact⟨e.1,e.of z B rfl⟩
  clear k hrb g q r;go_enter func176,ntmps176;go_wp2_with (first
   |(go_at_call 228;refine h.o.mono ?_;intro f M e;obtain⟨rfl,-⟩:=id e;have i:=e.of AF.refl (λx hb=>Be hb) (r':=R #[]) (e':=F (R #[])) rfl;clear e))
  go_loopw [9] (λl wr=>∃c:Nat,c<=a/\l=V C (c:Int)/\O9 (B2 w s b t n (Ir c (Ef a d)) (R #[]) (F (R #[])) wr)) (λl _=>a-(intOf l).toNat)
  ·exact⟨0,Ai _,rfl,i⟩
  ·rename Q=>wr
   clear i;obtain⟨c,Y,rfl,m⟩:=hrel;by_cases p:c<a
   ·have E:(c:Int)<(a:Int):=O1;go_wp2_with (first
     |(go_at_call 229;refine(O0 (u c wr p m.o)).o.mono ?_;rintro f ad ⟨rfl,v⟩))
    exact⟨⟨c+1,O1,rfl,v.o⟩,by simp[intOf];omega⟩
   ·obtain rfl:c=a:=O1;have E:¬((c:Int)<(c:Int)):=O1;go_wp2;exact bF m.o O2 rfl rfl
theorem Asm(c:Bool)(b:Q):Az Aa 230 #[A c] b λg h=>g=F (T #[V .u8 3,V C (if c then 1 else 0),V .i32 0,V .i32 0,W N 0 0])/\Ow b h:=by
 cases c
 ·go_enter func230,ntmps230;go_wp2;have a:=λe f d=>CS b #[V .u8 3,V C 0,V .i32 0,V .i32 0,W N 0 0] 197 e f d;refine AZ (by simp[results,results230,go_sem,a 0 _ rfl,a 1 _ rfl,a 2 _ rfl,a 3 _ rfl,a 4 _ rfl]) rfl ⟨rfl,bA⟩
 ·go_enter func230,ntmps230;go_wp2;have a:=λe f d=>CS b #[V .u8 3,V C 1,V .i32 0,V .i32 0,W N 0 0] 197 e f d;refine AZ (by simp[results,results230,go_sem,a 0 _ rfl,a 1 _ rfl,a 2 _ rfl,a 3 _ rfl,a 4 _ rfl]) rfl ⟨rfl,bA⟩
structure Bw (d c:Q) (b:Nat) (e:List X):Prop where
 a:AF [b] d c
 lt:b<d.heap.size
 m:B7 c b e
theorem Bw.size{w X:Q}{M:Nat}{b:List Value}(c:Bw w X M b):w.heap.size<=X.heap.size:=c.a.size
theorem Bw.below(b:Bw n q w wj)(hb:Ow q Y):Bw n Y w wj:=⟨b.a.then hb,b.lt,b.m.bX (hb.block w (Am b.lt b.size)) hb.size⟩
theorem Bw.drew{c b:Q}{M:Nat}{a:List X}(d:Bw c b M a):Bw c b.drew M a:=d.below (Ae _ _).drew
theorem Bw.alloc{o:Obj}(a:Bw n q w wj):Bw n (q.alloc o) w wj:=a.below bA
theorem Bw.cE{v:X}(b:Bw n q w wj)(c:2<L wj):Bw n (q.setCell ⟨w,2,N⟩ v) w (wj.set 2 v):=⟨b.a.set (.inl (.head _)) _,b.lt,b.m.set c v⟩
theorem Bw.fresh(c:Bw n q w wj)(hb:n.heap.size<=s):Bw n (q.setCell ⟨s,b,N⟩ p) w wj:=
 have d:=c.lt
 ⟨c.a.set (.inr hb) _,c.lt,c.m.bX (AA _ _ _ _ O6) O2⟩
theorem Bw.cell{f d:Q}{c b j:Nat}{g:List X}{e:X}(h:Bw f d c g)(hb:b≠c)(i:f.cell? ⟨b,j,N⟩=I e):d.cell? ⟨b,j,N⟩=I e:=h.a.cell i (by simpa using hb)
theorem Bw.start(a:BW w n s b d nu nq p y e G wz):Bw n n s (mL b p y e G wz d):=⟨AF.refl,a.m.lt,a.m⟩
theorem BW.less{m:Nat}(c:BW w n s b d nu nq p (W U (L d.Bm) j) y e G)(l:m<=L d.Bm)(g:Bw n q s (mL b p (W U m j) y e G {d with Bm:=d.Bm.take m})):
 BW w q s b {d with Bm:=d.Bm.take m} nu nq p (W U m j) y e G/\AF (mB s p (W U (L d.Bm) j) e G) n q/\mB s p (W U m j) e G=mB s p (W U (L d.Bm) j) e G:=by
 have r:=c.dz l;have o:(d.Bm.take m).length=m:=O6;have k:=c.step ((c.sp.cD (L1:=[_,_]) AF.refl O6 (Hs _) λi f=>have h:i∈vB (W U (L d.Bm) j):=M4▸f;⟨.inl h,(FV c.sk h).2⟩).cD (L1:=[]) (A':=mA s (mL b p (W U m j) y e G {d with Bm:=d.Bm.take m})) g.a ⟨g.m,rfl⟩ O2 λi f=>⟨.inl f,Ax.1 f▸g.m.lt⟩) c.fl c.dc c.cd c.Fh c.GD;exact⟨k.1,k.2.1,by unfold mB;rw[M4]⟩
theorem Sz(c:n.cell? ⟨w,2,N⟩=I (W (I ⟨s,0,N⟩) (b+1) j))(f:n.frozen? ⟨w,2,N⟩=false)(d:n.cell? ⟨s,b,N⟩=I (V .i32 D))(i:b+1<=1000000000000)(m:b+1<=j):
 Az Aa 174 #[J (I ⟨w,0,N⟩)] n λa e=>a=F (V .i32 D)/\e=(n.setCell ⟨w,2,N⟩ (W (I ⟨s,0,N⟩) b j)).drew.drew:=by
 have h:=LG 0 c O1 i;have g:Az Aa 175 #[J (I ⟨w,0,N⟩),V C 1] n.drew λa e=>a=F (R #[])/\e=(n.setCell ⟨w,2,N⟩ (W (I ⟨s,0,N⟩) b j)).drew.drew:=by
  have k:=c;have l:=f;have o:(0:Int)<=((b+1:Nat):Int)-1:=O1;have p:((b+1:Nat):Int)-1<=(j:Int):=O1;have q:(((b+1:Nat):Int)-1).toNat=b:=O1;have r:IntKind.i64.wrap (((b+1:Nat):Int)-1)=((b+1:Nat):Int)-1:=KD O1;go_enter func175,ntmps175;go_wp2;go_region
  all_goals(try go_wp2)
  all_goals
   refine bF ?_ O2 rfl rfl;simp
 have t:=d;have u:=d;clear c d f;go_enter func174,ntmps174;go_wp2_with (first
  |(go_at_call 168;apply h.mono;rintro a v ⟨rfl,rfl⟩)
  |(go_at_call 175;apply g.mono;rintro a x ⟨rfl,rfl⟩))
 go_ret;simp
theorem BW.dY(c:BW w n s b d nu nq p y e G wz){a:Nat}(D:a<L d.cells){h o m:Nat}(j:p=W (I ⟨h,0,N⟩) o m){f:X}(i:n.cell? ⟨h,a*5+4,N⟩=I f):E9 (λg=>w<=g/\g∉mB s p y G wz) n f d.cells[a].BX:=by
 have B:(L nu)=L d.cells:=by rw[<-c.Fh,An]
 have t:d.cells[a]=nu[a].1:=by simp[<-c.Fh]
 have z:=c.fl nu[a] (Ao _);have k:=c.cl;rcases c.cl.2 with⟨-,x⟩|⟨v,q,r,l,-⟩
 ·omega
 ·rw[j]at l;cases l;rw[j]at k;rw[k.cellAt _ O1,Nx Ep (λ_=>rfl) nu a O1 4 .refl]at i;have u:nu[a].2=f:=by simpa[Ep]using i
  grind
theorem B7.du(a:Q)(b c d e f:X)(h:A0):B7 (a.alloc (.cells #[b,c,d,e,f] h)) a.heap.size [b,c,d,e,f]:=by
 refine⟨λg i=>?_,λg=>Uq _ _ _ _,O2⟩;simp_all
theorem B7.drew(a:B7 n w wj):B7 n.drew w wj:=a.bX rfl .refl
theorem VL(a:Q)(g:Nat)(j b c d e f:X)(i:A0):B7 ((a.setCell ⟨g,2,N⟩ j).alloc (.cells #[b,c,d,e,f] i)).drew.drew.drew a.heap.size [b,c,d,e,f]:=by
 have h:=B7.du (a.setCell ⟨g,2,N⟩ j) b c d e f i;rw[World.size_setCell]at h;exact h.drew.drew.drew
theorem YX(a:Q)(b:Nat)(o j k l m n d e f g h:X)(c:A0)(r:a.heap.size≠b):B7 ((((((((a.alloc (.cells #[j,k,l,m,n] c)).setCell ⟨b,2,N⟩ o).setCell ⟨a.heap.size,0,N⟩ d).setCell ⟨a.heap.size,1,N⟩ e).setCell ⟨a.heap.size,2,N⟩ f).setCell ⟨a.heap.size,3,N⟩ g).setCell ⟨a.heap.size,4,N⟩ h)).drew.drew.drew a.heap.size [d,e,f,g,h]:=by
 have p:=B7.set (B7.set ((B7.du a j k l m n c).bX (w':=(a.alloc (.cells #[j,k,l,m,n] c)).setCell ⟨b,2,N⟩ o) (AA _ _ _ _ r) O2) (i:=0) O2 d) (i:=1) O2 e;have q:=B7.set (B7.set (B7.set p (i:=2) O2 f) (i:=3) O2 g) .refl h;exact q.drew.drew.drew
theorem DQ.of{lo:Nat}{e:A0}(a:q.ownsRow lo e j (W (I ⟨w,0,N⟩) s b) s wj)(d:n.grownBy q p.ownBlock)(c:p.ownBlock=I w\/w=n.heap.size)(g:w<q.heap.size):DQ n e j p (W (I ⟨w,0,N⟩) s b) s wj q:=⟨Jk a,AF.refl.grown d λ_ e=>.inl (Ca.2 e),λh f=>by
 obtain rfl:=Ax.1 f;exact⟨c.imp Ca.2 λa=>Ayn a.symm,g⟩⟩
def LN(c:Int)(d:Int)(a:BA):BA:=
 let b:=(a.cells[d.toNat]?).getD ⟨0,0,0,0,[]⟩
 if b.BB≠3\/(L b.BX:Int)≠c then CY 3 (Cd 1 a) else {Cd 1 a with Bm:=(Cd 1 a).Bm++b.BX}
theorem Avn{c:Nat}(x:Int)(k:MM w n c b d t)(bE:(L d.Bm)<=1000000000){s:List Int}{r:Nat}(aj:d.Bm=s++[(r:Int)])(aE:r<L d.cells)(bk:d.cells[r].BX.length<=1000000):
 Az Aa 179 #[J (I ⟨c,0,N⟩),V C x] n λg ao=>B2 w c b t n (LN x (r:Int) d) (R #[]) g ao:=by
 obtain⟨aY,aZ,b5,bM,am,U,ab,k,ag⟩:=k;have ak:(L d.Bm)=L s+1:=by rw[aj];simp
 obtain⟨e,sc,rfl,ah,aF⟩:=Ju k.sk O1;obtain⟨cg,cc,fp,bb,u,a2,aK,aL,aM,aN,an,-⟩:=k.cellAt (r:=r) aE;have a4:=k.dY aE a2 an;subst a2;have G:cg≠c:=λg=>(Axj.1 k.nd).1 (Ad _ (by rw[EV];grind));have be:e≠c:=λg=>(Axj.1 k.nd).1 (Aj _ (Ad _ (by rw[EV];grind)));have aG:n.cell? ⟨e,L s,N⟩=I (V .i32 (r:Int)):=by rw[aF _ O1,aj];simp[Ci]
 rw[ak]at ah;obtain⟨h,D⟩:∃h,mL b (W (I ⟨cg,0,N⟩) (L d.cells) cc) (W (I ⟨e,0,N⟩) (L d.Bm) sc) am U ab d=h:=⟨_,rfl⟩;have B:=D▸Bw.start k;have aI:h[1]?=I (W (I ⟨cg,0,N⟩) (L d.cells) cc):=by rw[<-D];rfl
 have aJ:h[2]?=I (W (I ⟨e,0,N⟩) (L s+1) sc):=by rw[<-D,<-ak];rfl
 have bH:(L h)=14:=by rw[<-D];rfl
 have ad:O9 (∀a ae,Bw n a c ae->ae[1]?=I (W (I ⟨cg,0,N⟩) (L d.cells) cc)->a.cell? ⟨c,1,N⟩=I (W (I ⟨cg,0,N⟩) (L d.cells) cc)/\a.cell? ⟨cg,r*5,N⟩=I (.int .u8 d.cells[r].BB)/\a.cell? ⟨cg,r*5+1,N⟩=I (.int C d.cells[r].n)/\a.cell? ⟨cg,r*5+2,N⟩=I (.int .i32 d.cells[r].left)/\a.cell? ⟨cg,r*5+3,N⟩=I (.int .i32 d.cells[r].right)/\a.cell? ⟨cg,r*5+4,N⟩=I (W fp bb u)):=λa ae f bc=>⟨f.m.at 1 bc,f.cell G aK,f.cell G aL,f.cell G aM,f.cell G aN,f.cell G an⟩;have aq:O9 (∀a,Bw n a c h->Az Aa 174 #[J (I ⟨c,0,N⟩)] a λg ao=>g=F (V .i32 (r:Int))/\ao=(a.setCell ⟨c,2,N⟩ (W (I ⟨e,0,N⟩) (L s) sc)).drew.drew):=λa f=>Sz (f.m.at 2 aJ) (f.m.fz 2) (f.cell be aG) O1 ah;have a8:2<L h:=O1;have bf:=Nat.ne_of_lt B.lt;have a0:n.heap.size≠c:=λg=>bf g.symm;have ar:=O0 (λa (f:Bw n a c h)=>ad.o a h f aI);have au:=O0 (λa (f:Bw n a c (h.set 2 (W (I ⟨e,0,N⟩) (L s) sc)))=>ad.o a _ f (by simp[aI]));have ai:(Cd 1 d).Bm=s:=by simp[Cd,aj]
 have bG:(L s)<=sc:=O1;have E:O9 (∀a,Bw n a c (h.set 2 (W (I ⟨e,0,N⟩) (L s) sc))->BW w a c b (Cd 1 d) aY aZ (W (I ⟨cg,0,N⟩) (L d.cells) cc) (W (I ⟨e,0,N⟩) (L s) sc) am U ab/\AF t n a/\mB c (W (I ⟨cg,0,N⟩) (L d.cells) cc) (W (I ⟨e,0,N⟩) (L s) sc) U ab=t):=λa f=>by
  have bs:d.Bm.take (L s)=d.Bm.take (L d.Bm-1):=by rw[ak];congr 1
  have Y:Bw n a c (mL b (W (I ⟨cg,0,N⟩) (L d.cells) cc) (W (I ⟨e,0,N⟩) (L s) sc) am U ab {d with Bm:=d.Bm.take (L s)}):=by
   rw[<-D]at f;exact f
  obtain⟨i,p,q⟩:=k.less (m:=L s) O1 Y;rw[<-ag]at p;rw[bs]at i;exact⟨i,p,by rw[q,ag]⟩
 have av:O9 (∀a,Bw n a c (h.set 2 (W (I ⟨e,0,N⟩) (L s) sc))->Az Aa 127 #[J (I ⟨c,0,N⟩),V C 3] a λg aO=>g=F (R #[])/\O9 (B2 w c b t n (CY 3 (Cd 1 d)) (R #[]) (F (R #[])) aO)):=λa f=>by
  obtain⟨i,p,q⟩:=E.o a f;have bd:MM w a c b (Cd 1 d) t:=⟨_,_,_,_,_,_,_,i,q.symm⟩;exact(Ka 3 bd).mono λg aO aD=>⟨aD.1,aD.of p (λaw hb=>Be hb) rfl⟩
 obtain⟨fl,bl⟩:∃fl,d.cells[r].BX=fl:=⟨_,rfl⟩;rw[bl]at bk a4;have aW:O9 (LN x (r:Int) d=if d.cells[r].BB≠3\/(L fl:Int)≠x then CY 3 (Cd 1 d) else {Cd 1 d with Bm:=s++fl}):=by
  show _=_;unfold LN;grind
 obtain⟨bC,b9,bj,a3⟩:=a4;cases bj;have aP:O9 (∀a M v,Bw n a c (h.set 2 (W (I ⟨e,0,N⟩) (L s) sc))->DQ a 106 1 (W (I ⟨e,0,N⟩) (L s) sc) v (L s+L fl) (Ci s++Ci fl) M->(M.cell? ⟨c,2,N⟩=I (W (I ⟨e,0,N⟩) (L s) sc)/\M.frozen? ⟨c,2,N⟩=false)/\O9 (B2 w c b t n {Cd 1 d with Bm:=s++fl} (R #[]) (F (R #[])) (M.setCell ⟨c,2,N⟩ v))):=λa M v f bw=>by
  obtain⟨i,p,q⟩:=E.o a f;rw[<-ai]at i q bw ⊢;have aa:=i.dv (l:=fl) (Ac _) (Ae _ _) (by rwa[AP]);rw[AP]at aa;exact⟨⟨aa.1.at 2 rfl,aa.1.fz 2⟩,Jn (Kq p (λaw hb=>.inl (q▸hb)) aa.2)⟩
 have bI:(0:Int)<=(r:Int):=O1;have bJ:(r:Int)<(L d.cells:Int):=O1;clear ad;generalize hkd:d.cells[r].BB=rk at*;generalize d.cells[r].n=rn at*;generalize d.cells[r].left=rf at*;generalize d.cells[r].right=rg at*;have ap:=O0 a3;have aQ:=O0 k.lz;obtain⟨bt,bp,a6⟩:=AB.1 TY;simp only[Aw0]at a6;obtain⟨bm,bn,bo⟩:=a6;clear aF aK aL aM aN an aG aJ ah k ag D a3;go_enter func179,ntmps179;go_upto_region 0 with fail
 go_cut [4] (λb0 j=>∃b4:Nat,b0=J (I ⟨b4,0,N⟩)/\n.heap.size<=b4/\(j.cell? ⟨b4,0,N⟩=I (V .u8 rk)/\j.cell? ⟨b4,4,N⟩=I (W fp (L fl) u))/\O9 (Bw n j c (h.set 2 (W (I ⟨e,0,N⟩) (L s) sc))))
 case first=>
  go_region_held_law (λa=>a.cell? ⟨c,1,N⟩=I (W (I ⟨cg,0,N⟩) (L d.cells) cc)/\a.cell? ⟨cg,r*5,N⟩=I (V .u8 rk)/\a.cell? ⟨cg,r*5+1,N⟩=I (V C rn)/\a.cell? ⟨cg,r*5+2,N⟩=I (V .i32 rf)/\a.cell? ⟨cg,r*5+3,N⟩=I (V .i32 rg)/\a.cell? ⟨cg,r*5+4,N⟩=I (W fp (L fl) u))
   (first|(refine ar.o _ ?_;(repeat (first|(with_reducible exact B)|(with_reducible refine Bw.drew ?_)|(with_reducible refine Bw.alloc ?_)));done)|(refine au.o _ ?_;(repeat (first|(with_reducible exact B)|(with_reducible refine Bw.drew ?_)|(with_reducible refine Bw.alloc ?_)|(with_reducible refine Bw.cE ?_ a8)|(with_reducible refine Bw.fresh ?_ (Ac _))));done))
   (first
    |(go_at_call 174;with_reducible refine(aq.o _ ?_).mono ?_<;>first|((repeat (first|(with_reducible exact B)|(with_reducible refine Bw.drew ?_)|(with_reducible refine Bw.alloc ?_)));done)|(rintro g bO ⟨rfl,rfl⟩)))
  all_goals(try go_wp2)
  all_goals
   go_meet
   refine⟨n.heap.size,rfl,Ac _,?_,?_⟩
   ·first
    |with_reducible exact⟨(VL n c (W (I ⟨e,0,N⟩) (L s) sc) (V .u8 rk) (V C rn) (V .i32 rf) (V .i32 rg) (W fp (L fl) u) 197).at 0 rfl,(VL n c (W (I ⟨e,0,N⟩) (L s) sc) (V .u8 rk) (V C rn) (V .i32 rf) (V .i32 rg) (W fp (L fl) u) 197).at 4 rfl⟩
    |with_reducible exact⟨(YX n c (W (I ⟨e,0,N⟩) (L s) sc) (V .u8 0) (V C 0) (V .i32 0) (V .i32 0) (W N 0 0) (V .u8 rk) (V C rn) (V .i32 rf) (V .i32 rg) (W fp (L fl) u) 197 a0).at 0 rfl,(YX n c (W (I ⟨e,0,N⟩) (L s) sc) (V .u8 0) (V C 0) (V .i32 0) (V .i32 0) (W N 0 0) (V .u8 rk) (V C rn) (V .i32 rf) (V .i32 rg) (W fp (L fl) u) 197 a0).at 4 rfl⟩
   ·show Bw _ _ _ _;(repeat (first|(with_reducible exact B)|(with_reducible refine Bw.drew ?_)|(with_reducible refine Bw.alloc ?_)|(with_reducible refine Bw.cE ?_ a8)|(with_reducible refine Bw.fresh ?_ (Ac _))))
 case rest=>
  clear aq ar au B;rename Q=>j
  obtain⟨b4,rfl,bD,⟨c0,ax⟩,z⟩:=hcut;by_cases bh:rk≠3\/(L fl:Int)≠x
  ·have aV:=O0 (av.o j z.o);have O:O9 (LN x (r:Int) d=CY 3 (Cd 1 d)):=by
    grind
   by_cases az:rk=3;all_goals(try have aB:¬((L fl:Int)=x):=by omega)
   all_goals
    go_wp2_with (first
     |(go_at_call 127;refine aV.o.mono ?_;rintro g w5 ⟨rfl,y⟩))
    rw[O.o];exact bF y.o O2 rfl rfl
  ·have az:rk=3:=O1;have aB:(L fl:Int)=x:=O1;subst az;subst aB;have O:O9 (LN ((L fl:Nat):Int) (r:Int) d={Cd 1 d with Bm:=s++fl}):=by
    grind
   clear av aW bh;by_cases ay:fl=[]
   ·subst ay;obtain⟨i,p,q⟩:=E.o j z.o;have al:=i.m.at 2 rfl;have bu:j.drew.cell? ⟨c,2,N⟩=_:=al;have b6:j.drew.frozen? ⟨c,2,N⟩=_:=i.m.fz 2;have aX:j.drew.cell? ⟨b4,4,N⟩=_:=ax;have y:O9 (B2 w c b t n {Cd 1 d with Bm:=s++[]} (R #[]) (F (R #[])) (j.setCell ⟨c,2,N⟩ (W (I ⟨e,0,N⟩) (L s) sc))):=by
     have Y:=z.o.cE (v:=W (I ⟨e,0,N⟩) (L s) sc) O6;rw[List.set_set]at Y;obtain⟨bx,bz,bN⟩:=E.o _ Y;have g:({Cd 1 d with Bm:=s++[]}:BA)=Cd 1 d:=by rw[A6,<-ai]
     rw[g];exact⟨rfl,bz,_,⟨_,_,_,_,_,_,_,bx,rfl⟩,λaw hb=>Be O6⟩
    clear i p q;cases fp;all_goals
     go_upto_region 3 with fail
     go_region
     all_goals(try go_wp2)
     all_goals
      refine bF ?_ O2 rfl rfl;rw[show LN 0 (r:Int) d=_ from O.o];first|(with_reducible exact y.o)|(with_reducible exact y.o.drew)
   ·have br:=Axd.2 ay;obtain⟨af,fo,⟨-,bq⟩,rfl,-⟩:=ap.o 0 br;have bg:af≠c:=λg=>bq (g▸Aw3 ..);have aS:O9 (∀a,Bw n a c (h.set 2 (W (I ⟨e,0,N⟩) (L s) sc))->∀K ac,(Ci fl)[K]?=I ac->a.cell? ((⟨af,fo,N⟩:Addr).add K)=I ac):=λa f K ac H=>by
     have a7:K<L fl:=by
      have:=(AK.1 H).1;simpa[Ci]using this
     obtain⟨b8,bB,-,ba,bi⟩:=ap.o K a7;cases ba;rw[Om];have:=f.cell bg bi;rw[this,<-H];simp[Ci,a7]
    obtain⟨i,p,q⟩:=E.o j z.o;have aT:O9 (j.ownsRow w 106 1 (W (I ⟨e,0,N⟩) (L s) sc) (L s) (Ci s)):=by
     have:=i.sk;rw[ai]at this;exact this
    have al:=i.m.at 2 rfl;have bu:j.drew.cell? ⟨c,2,N⟩=_:=al;have aX:j.drew.cell? ⟨b4,4,N⟩=_:=ax;have aH:=p.size;have aR:=O0 (Ay aQ.o aH);clear i p q aH;go_upto_region 3 with fail
    go_region_law
     (first
      |(refine step_append_lies _ rfl (.tmp 29) (.tmp 31) 108 rfl w 106 bt _ 1 4 underlying108 bp bm bn bo rfl O1 (W (I ⟨e,0,N⟩) (L s) sc) (L s) (Ci s) (by first|(simp[Act.eval];done)|(simp[Act.eval,Act.put];done)) (T1 aT.o (Ae _ _).drew) ⟨af,fo,N⟩ (L fl) u (Ci fl) (by first|(simp[Act.eval];done)|(simp[Act.eval,Act.put];done)) (by simp[Ci]) (aS.o _ z.o.drew) (by intro ac H;simp[Ci]at H;obtain⟨bQ,-,rfl⟩:=H;rfl) O1 O8 O1 aR.o _ rfl ?_;intro b1 b2 bP aC a5 a1 a9;obtain⟨⟨bK,b7⟩,y⟩:=aP.o _ _ _ z.o.drew (.of aC a5 a1 a9);clear aC a5 a1 a9))
    all_goals(try go_wp2)
    all_goals
     refine bF ?_ O2 rfl rfl;rw[O.o];first|(with_reducible exact y.o)|(with_reducible exact y.o.drew)
def Gh(a b c:Int):Cb:=⟨if QJ a then 3 else 1,Mg a b c,0,0,[]⟩
structure Slc where
 idx:Nat
 dst:Option Nat
 Tu:List Nat
 G:X->Q->Prop
def Atv(c:List Nat)(b:Array Bool):Bool:=(AV b.size).all λa=>b.getD a false||c.contains a
def OG(a:Act):Option Nat->X
 |some d=>a.eval (.tmp d)
 |none=>Aw7
theorem An1(al:Ke w9 wk=true)(g:List Slc)(t:List Nat)(ah:∀a∈g,∀f,a.dst=I f->f∈t)(am:∀a∈g,∀d∈g,a.idx≠d.idx->∀f,a.dst=I f->d.dst≠I f)(au:(g.map (·.idx)).Nodup)(aw:∀a∈g,∀j∈a.Tu,Region.waitsFor w9 wk a.idx j=true)(m:Act)(av:∀a∈g,∀f,a.dst=I f->f<m.tmps.size)(p:Array Bool->Act->Q->Prop)(ak:∀a2 b e,p a2 b e->sf e)(ad:∀a∈g,∃l,wk[a.idx]?=I l/\l.guard=N/\l.dst=a.dst/\∀c b e,c.size=wk.size->DV t m b->c.getD a.idx true=false->(∀j∈a.Tu,c.getD j false=true)->p c b e->(∀d∈g,c.getD d.idx false=true->d.G (OG b d.dst) e)->
 l.wp w6 b e (λB s=>∃o,B=b.put l.dst o/\p (c.setIfInBounds a.idx true) B s/\a.G (if a.dst=N then Aw7 else o) s/\∀d∈g,d.idx≠a.idx->∀af,d.G af e->d.G af s) nh) {Y:Q} (D:Nat) (k:Array Bool) (ac:k.size=wk.size) (ap:k.toList.count false<=D) (a1:Atv (g.map (·.idx)) k=true) (ay:∀a∈g,k.getD a.idx false=false) (aj:p k m Y) (ao:∀c b e,(∀i,i<wk.size->c.getD i false=true)->DV t m b->p c b e->(∀a∈g,a.G (OG b a.dst) e)->nh .normal b e):wpAnyH w6 w9 wk nh sf D k m Y:=by
 refine Akf al (λc b e=>c.size=wk.size/\(∀i,c.getD i true=false->i∈g.map (·.idx))/\DV t m b/\p c b e/\∀a∈g,c.getD a.idx false=true->a.G (OG b a.dst) e) ?_ ?_ D k m Y ac ap ?_
 ·rintro c b e i l ⟨U,H,r,M,v⟩ y ae O;obtain⟨a,h,rfl⟩:=AE.1 (H i ae);let ⟨a3,az,aq,an,a0⟩:=ad a h
  obtain rfl:a3=l:=Axi (az.symm.trans y);have ax:∀j∈a.Tu,c.getD j false=true:=λj x=>by
   let ⟨a8,a5,u,a4,hb,a6⟩:=Region.waitsFor_spec (aw a h _ x)
   grind
  unfold wpOp;simp only[y];rw[if_pos (by simp[Region.wanted,aq])];refine .inl (Oper.wp_mono (λB s ag=>?_) (a0 c b e U r ae ax M v));obtain⟨o,rfl,K,w,ai⟩:=ag;have a7:(c.setIfInBounds a.idx true).getD a.idx false=true:=by rw[Aw9,Aya O6];rfl
  rw[an]at K ⊢;refine⟨ak _ _ _ K,by simpa using U,λj x=>?_,?_,K,λd z ab=>?_⟩
  ·by_cases n:a.idx=j
   ·exact AE.2 ⟨a,h,n⟩
   ·rw[A3 true n]at x;exact H j x
  ·cases hx:a.dst with
   |none=>exact r
   |some f=>exact r.put (ah a h f hx) o
  ·by_cases n:a.idx=d.idx
   ·obtain rfl:a=d:=Y6 au h z n;cases hx:a.dst with
    |none=>
     rw[hx,if_pos rfl]at w;exact w
    |some f=>
     rw[hx,if_neg O2]at w;show a.G ((b.put (I f) o).eval (.tmp f)) s;rw[IE (by rw[r.size];exact av a h f hx)];exact w
   ·rw[A3 false n]at ab;have q:=ai d z (Aym n) _ (v d z ab);have u:OG (b.put a.dst o) d.dst=OG b d.dst:=by
     cases hx:a.dst with
     |none=>rfl
     |some f=>
      cases hy:d.dst with
      |none=>rfl
      |some d'=>exact F0 (λu=>am a h d z n f hx (by rw[hy,u])) o
    rwa[u]
 ·rintro c b e ⟨U,H,r,M,v⟩ O;refine ao c b e O r M λa h=>v a h (O _ ?_);obtain⟨l,y,-⟩:=ad a h;exact(A9.1 y).1
 ·refine⟨ac,λi aa=>?_,DV.refl _ _,aj,λa h q=>?_⟩
  ·have ar:i<k.size:=by
    rcases Aw8 i k.size with E|E
    ·exact E
    ·simp[Bal E]at aa
   have q:=Axk.1 a1 i (Ayo.2 ar);rw[getD_both aa]at q;simpa using q
  ·rw[ay a h]at q;cases q
theorem Nh{w':Q}{v:X}(a:(execOp ws.eval nl).run w6 n=.ok (.value v) w')(b:v6 (ws.put nl.dst v) w'):nl.wp w6 ws n v6 nh:=by
 unfold Oper.wp;rwa[a]
theorem wp_skip{w':Q}(a:(execOp ws.eval nl).run w6 n=.ok .skip w')(b:v6 (ws.put nl.dst Aw7) w'):nl.wp w6 ws n v6 nh:=by
 unfold Oper.wp;rwa[a]
theorem Acd{f:FuncId}{args:Array X}(d:(execOp ws.eval nl).run w6 n=.ok (.enter f args) n)(e:Az w6 f args n λa c=>∃b,a=F b/\v6 (ws.put nl.dst b) c):nl.wp w6 ws n v6 nh:=by
 unfold Oper.wp;rw[d];refine Calls.mono e λa c g=>?_;grind
theorem Ash(a:wpOp w6 wk nh w (nh .normal) ws n):K5 w6 wk nh w (0+1) .normal ws n:=by
 exact wpOp_mono (λws n a=>a) a
def GZ(d:Q)(b:X)(c:Q):Prop:=∃a e f g h i,b=J (I ⟨a,0,N⟩)/\d.heap.size<=a/\B7 c a [e,f,g,h,i]
theorem GZ.bG{w:Q}(d:GZ n p w)(f:∀a,n.heap.size<=a->a<w.heap.size->q.heap[a]?=w.heap[a]?)(g:w.heap.size<=q.heap.size):GZ n p q:=by
 let ⟨a,h,i,j,k,l,e,b,c⟩:=d
 exact⟨a,h,i,j,k,l,e,b,c.bX (f a b c.lt) g⟩
structure Fl (e:Q) (i:Nat) (f g h j:List X) (a:Array Bool) (c:Act) (d:Q):Prop where
 b:Bw e d i (if a.getD 13 false then h else if a.getD 5 false then g else f)
 o:a.getD 13 false=true->a.getD 5 false=true
 ne:a.getD 16 false=true->a.getD 17 false=true->c.eval (.tmp 4)≠c.eval (.tmp 5)
 p:a.getD 18 false=true->a.getD 16 false=true
 st:a.getD 18 false=true->∃b,e.heap.size<=b/\c.eval (.tmp 4)=J (I ⟨b,0,N⟩)/\B7 d b j
def FC(b:Q)(h f d g e c:X):List Slc:=[⟨5,I 11,[],λa _=>a=h⟩,⟨6,I 12,[5],λa _=>a=f⟩,⟨7,I 13,[6],λa _=>a=d⟩,⟨13,I 19,[5],λa _=>a=g⟩,⟨14,I 20,[13],λa _=>a=e⟩,⟨15,I 21,[14],λa _=>a=c⟩,⟨16,I 4,[],GZ b⟩,⟨17,I 5,[],GZ b⟩,⟨18,N,[16,7,5,13],λ_ _=>True⟩]
variable{xt:Slc->Prop}
theorem Lb(d:xt ⟨5,I 11,[],λa _=>a=p⟩)(f:xt ⟨6,I 12,[5],λa _=>a=y⟩)(g:xt ⟨7,I 13,[6],λa _=>a=e⟩)(h:xt ⟨13,I 19,[5],λa _=>a=G⟩)(i:xt ⟨14,I 20,[13],λa _=>a=wz⟩)(j:xt ⟨15,I 21,[14],λa _=>a=vh⟩)(k:xt ⟨16,I 4,[],GZ n⟩)(l:xt ⟨17,I 5,[],GZ n⟩)(m:xt ⟨18,N,[16,7,5,13],λ_ _=>True⟩):∀b∈FC n p y e G wz vh,xt b:=by
 intro b c;simp[FC,AX,Axw,or_false]at c;grind
theorem Amx(j:Q)(i f d h e c:X):(∀g∈FC j i f d h e c,∀a,g.dst=I a->a∈[11,12,13,19,20,21,4,5])/\(∀g∈FC j i f d h e c,∀k∈FC j i f d h e c,g.idx≠k.idx->∀a,g.dst=I a->k.dst≠I a)/\((FC j i f d h e c).map (·.idx)).Nodup:=by
 refine⟨?_,?_,by simp[FC]⟩
 ·refine Lb ?_ ?_ ?_ ?_ ?_ ?_ ?_ ?_ ?_<;>(intro a b;simp at b;try subst b;try simp)
 ·refine Lb ?_ ?_ ?_ ?_ ?_ ?_ ?_ ?_ ?_<;>refine Lb ?_ ?_ ?_ ?_ ?_ ?_ ?_ ?_ ?_<;>(intro l a b;simp at b l;try subst b;try simp)
theorem Py{h:X}(c:∀f,GZ n f q->GZ n f Y)(g:Nat):∀b∈FC n p y e h wz vh,b.idx≠g->∀d,b.G d q->b.G d Y:=
 Lb (λ_ _ a=>a) (λ_ _ a=>a) (λ_ _ a=>a) (λ_ _ a=>a) (λ_ _ a=>a) (λ_ _ a=>a) (λ_ _ a=>c _ a) (λ_ _ a=>c _ a) (λ_ _ a=>a)
theorem Fl.quiet(c:Fl n w wj vy sv xe vf ws q){i d:Nat}(a:i≠5/\i≠13/\i≠16/\i≠17/\i≠18)(e:d≠4/\d≠5)(f:X):Fl n w wj vy sv xe (vf.setIfInBounds i true) (ws.put (I d) f) q:=by
 refine⟨?_,?_,?_,?_,?_⟩
 ·rw[A3 false a.2.1,A3 false a.1];exact c.b
 ·rw[A3 false a.2.1,A3 false a.1];exact c.o
 ·rw[A3 false a.2.2.1,A3 false a.2.2.2.1,F0 e.1,F0 e.2];exact c.ne
 ·rw[A3 false a.2.2.2.2,A3 false a.2.2.1];exact c.p
 ·rw[A3 false a.2.2.2.2,F0 e.1];exact c.st
theorem Aki(a:w<vf.size):(vf.setIfInBounds w true).getD w false=true:=by simp_all
theorem Ad7{w0:Q}(b:n=(q.setCell ⟨w,2,N⟩ p).drew.drew)(c:w<w0.heap.size):∀a,w0.heap.size<=a->n.heap[a]?=q.heap[a]?:=λa hb=>by
 rw[b];exact AA _ _ _ _ O6
theorem Fl.e5(b:Fl n w wj vy sv xe vf ws q)(k:5<vf.size)(l:vf.getD 5 true=false){d:Nat}(f:d≠4/\d≠5)(t:X):Bw n q w wj/\∀c,Bw n c w vy->(∀a,n.heap.size<=a->c.heap[a]?=q.heap[a]?)->q.heap.size<=c.heap.size->Fl n w wj vy sv xe (vf.setIfInBounds 5 true) (ws.put (I d) t) c:=by
 have e:=getD_both l;have h:vf.getD 13 false=false:=by
  cases hx:vf.getD 13 false with
  |false=>rfl
  |true=>rw[b.o hx]at e;cases e
 have hb:=b.b;rw[h,e]at hb;refine⟨hb,λc u j m=>⟨?_,λ_=>Aki k,?_,?_,?_⟩⟩
 ·simp_all
 ·rw[A3 false O4,A3 false O4,F0 f.1,F0 f.2];exact b.ne
 ·rw[A3 false O4,A3 false O4];exact b.p
 ·rw[A3 false O4,F0 f.1];intro i;let ⟨a,g,r,s⟩:=b.st i
  exact⟨a,g,r,s.bX (j a g) m⟩
theorem Fl.eV(c:Fl n w wj vy sv xe vf ws q)(r:13<vf.size)(j:vf.getD 13 true=false)(h:vf.getD 5 false=true){d:Nat}(e:d≠4/\d≠5)(o:X):Bw n q w vy/\∀b,Bw n b w sv->(∀a,n.heap.size<=a->b.heap[a]?=q.heap[a]?)->q.heap.size<=b.heap.size->Fl n w wj vy sv xe (vf.setIfInBounds 13 true) (ws.put (I d) o) b:=by
 have hb:=c.b;rw[getD_both j,h]at hb;refine⟨hb,λb s i k=>⟨?_,λ_=>by simp_all,?_,?_,?_⟩⟩
 ·simp_all
 ·rw[A3 false O4,A3 false O4,F0 e.1,F0 e.2];exact c.ne
 ·rw[A3 false O4,A3 false O4];exact c.p
 ·rw[A3 false O4,F0 e.1];intro g;let ⟨a,f,l,m⟩:=c.st g
  exact⟨a,f,l,m.bX (i a f) k⟩
theorem Abr(a:w≠s):Value.pointer (I ⟨w,0,N⟩)≠J (I ⟨s,0,N⟩):=by
 simp
theorem Fl.eT(a:Fl n w wj vy sv xe vf ws q)(g:vf.getD 16 true=false)(j:5<ws.tmps.size)(f:vf.getD 17 false=true->GZ n (ws.eval (.tmp 5)) q)(h:Obj):Fl n w wj vy sv xe (vf.setIfInBounds 16 true) (ws.put (I 4) (J (I ⟨q.heap.size,0,N⟩))) (q.alloc h):=by
 have b:vf.getD 16 false=false:=getD_both g;refine⟨?_,?_,?_,?_,?_⟩
 ·rw[A3 false (show 16≠13 by decide),A3 false (show 16≠5 by decide)];exact a.b.alloc
 ·rw[A3 false (show 16≠13 by decide),A3 false (show 16≠5 by decide)];exact a.o
 ·rw[A3 false (show 16≠17 by decide)];intro _ e;obtain⟨i,_,_,_,_,_,d,-,hb⟩:=f e;have k:=hb.lt;rw[IE O1,F0 O4,d];exact Abr O1
 ·rw[A3 false (show 16≠18 by decide)];intro c;rw[a.p c]at b;cases b
 ·rw[A3 false (show 16≠18 by decide)];intro c;rw[a.p c]at b;cases b
theorem Fl.du(a:Fl n w wj vy sv xe vf ws q)(k:5<ws.tmps.size)(h:vf.getD 16 false=true->GZ n (ws.eval (.tmp 4)) q)(c:Obj):Fl n w wj vy sv xe (vf.setIfInBounds 17 true) (ws.put (I 5) (J (I ⟨q.heap.size,0,N⟩))) (q.alloc c):=by
 refine⟨?_,?_,?_,?_,?_⟩
 ·rw[A3 false (show 17≠13 by decide),A3 false (show 17≠5 by decide)];exact a.b.alloc
 ·rw[A3 false (show 17≠13 by decide),A3 false (show 17≠5 by decide)];exact a.o
 ·rw[A3 false (show 17≠16 by decide)];intro f _;obtain⟨b,_,_,_,_,_,e,-,hb⟩:=h f;have l:=hb.lt;rw[IE O1,F0 O4,e];exact Abr O1
 ·rw[A3 false (show 17≠18 by decide),A3 false (show 17≠16 by decide)];exact a.p
 ·rw[A3 false (show 17≠18 by decide),F0 O4];intro g;obtain⟨b,i,j,d⟩:=a.st g;exact⟨b,i,j,d.bX (Axo q c d.lt) O2⟩
theorem GZ.new(a:Q)(b:a.heap.size<=n.heap.size)(c:A0):GZ a (J (I ⟨n.heap.size,0,N⟩)) (n.alloc (.cells #[V .u8 0,V C 0,V .i32 0,V .i32 0,W N 0 0] c)):=⟨_,_,_,_,_,_,rfl,b,B7.du _ _ _ _ _ _ _⟩
def w5(b:Q)(a:Nat)(c d e f g:X):Q:=((((b.setCell ⟨a,0,N⟩ c).setCell ⟨a,1,N⟩ d).setCell ⟨a,2,N⟩ e).setCell ⟨a,3,N⟩ f).setCell ⟨a,4,N⟩ g
theorem B7.dE(g:B7 n w [p,y,e,G,wz])(a b c d f:X):B7 (w5 n w a b c d f) w [a,b,c,d,f]:=by
 have h:=B7.set (B7.set (B7.set g (i:=0) O2 a) (i:=1) O2 b) (i:=2) O2 c;exact B7.set (B7.set h O2 d) .refl f
theorem B7.ej(b:B7 n s wj)(a:s≠w)(c d e f g:X):B7 (w5 n w c d e f g) s wj:=by
 refine b.bX ?_ (by simp[w5]);unfold w5;rw[AA _ _ _ _ a,AA _ _ _ _ a,AA _ _ _ _ a,AA _ _ _ _ a,AA _ _ _ _ a]
theorem Bw.dE(a:Bw n q w wj)(hb:n.heap.size<=s)(b c d e f:X):Bw n (w5 q s b c d e f) w wj:=((((a.fresh hb).fresh hb).fresh hb).fresh hb).fresh hb
theorem GZ.dE{i c:Q}{a:Nat}{h:X}{p q r s t:X}(j:GZ i h c)(hb:B7 c a [p,q,r,s,t])(k l m n o:X):GZ i h (w5 c a k l m n o):=by
 let ⟨b,u,v,w,x,y,d,e,f⟩:=j
 by_cases g:b=a
 ·subst g;exact⟨b,_,_,_,_,_,d,e,f.dE _ _ _ _ _⟩
 ·exact⟨b,_,_,_,_,_,d,e,f.ej g _ _ _ _ _⟩
theorem Fl.stored(b:Fl n w wj vy sv [p,y,e,G,wz] vf ws q)(l:vf.getD 16 false=true)(k:GZ n (ws.eval (.tmp 4)) q):∃a c d f g h,ws.eval (.tmp 4)=J (I ⟨a,0,N⟩)/\n.heap.size<=a/\B7 q a [c,d,f,g,h]/\Fl n w wj vy sv [p,y,e,G,wz] (vf.setIfInBounds 18 true) ws (w5 q a p y e G wz):=by
 let ⟨a,c,d,f,g,h,i,hb,j⟩:=k
 refine⟨a,c,d,f,g,h,i,hb,j,?_,?_,?_,?_,?_⟩
 ·rw[A3 false O4,A3 false O4];exact b.b.dE hb _ _ _ _ _
 ·rw[A3 false O4,A3 false O4];exact b.o
 ·rw[A3 false O4,A3 false O4];exact b.ne
 ·simp_all
 ·exact λ_=>⟨a,hb,i,j.dE _ _ _ _ _⟩
def Na(d:Int)(c a:Cb)(b:BA):BA:=
 if c.BB≠1\/a.BB≠1 then CY 3 (Cd 1 (Cd 1 b)) else if PG d a.n=false then CY 6 (Cd 1 (Cd 1 b)) else H6 (Gh d c.n a.n) (Cd 1 (Cd 1 b))
theorem YN(a:d.Bm=wi++[D,nf]):Cd 1 (Cd 1 d)={d with Bm:=d.Bm.take (L wi)}:=by
 unfold Cd;grind
theorem Agc{e:Nat}{c:BA}(ab:Int)(cG:9<=ab/\ab<=14)(D:MM w n e b c t)(a8:Fw c)(cj:(L c.Bm)<=1000000000)(bt:(L c.cells)<=1000000000){s:List Int}{x y:Nat}(a1:c.Bm=s++[(x:Int),(y:Int)])(ck:x<L c.cells)(cm:y<L c.cells):
 Az Aa 181 #[J (I ⟨e,0,N⟩),V C ab] n λB w'=>B2 w e b t n (Na ab c.cells[x] c.cells[y] c) (R #[]) B w':=by
 obtain⟨c1,c3,c2,cM,b6,bn,bJ,D,aT⟩:=D;have b1:(L c.Bm)=L s+2:=by rw[a1];simp
 obtain⟨z,sc,rfl,bs,aZ⟩:=Ju D.sk O1;obtain⟨cg,cc,am,al,ak,ce,b7,l1,l2,l3,l4,-⟩:=D.cellAt (r:=x) ck;obtain⟨k,af,ar,aq,ap,cf,bB,bC,bD,bE,bG,-⟩:=D.cellAt (r:=y) cm;obtain⟨rfl,rfl⟩:k=cg/\af=cc:=O6;clear cf;subst ce;have aa:k≠e:=λB=>(Axj.1 D.nd).1 (Ad _ (by rw[EV];grind));have aX:z≠e:=λB=>(Axj.1 D.nd).1 (Aj _ (Ad _ (by rw[EV];grind)));have b5:n.cell? ⟨z,L s+1,N⟩=I (V .i32 (y:Int)):=by rw[aZ _ O1,a1];simp[Ci]
 have b2:n.cell? ⟨z,L s,N⟩=I (V .i32 (x:Int)):=by rw[aZ _ O1,a1];simp[Ci]
 rw[b1]at bs;obtain⟨E,a0⟩:∃E,mL b (W (I ⟨k,0,N⟩) (L c.cells) af) (W (I ⟨z,0,N⟩) (L c.Bm) sc) b6 bn bJ c=E:=⟨_,rfl⟩;have aK:=a0▸Bw.start D;have b8:E[1]?=I (W (I ⟨k,0,N⟩) (L c.cells) af):=by rw[<-a0];rfl
 have b9:E[2]?=I (W (I ⟨z,0,N⟩) (L s+1+1) sc):=by rw[<-a0,show L s+1+1=L c.Bm by omega];rfl
 have bz:(L E)=14:=by rw[<-a0];rfl
 have a4:O9 (∀a,Bw n a e ((E.set 2 (W (I ⟨z,0,N⟩) (L s+1) sc)).set 2 (W (I ⟨z,0,N⟩) (L s) sc))->MM w a e b (Cd 1 (Cd 1 c)) t/\AF t n a):=λa h=>by
  rw[List.set_set]at h;have ca:Bw n a e (mL b (W (I ⟨k,0,N⟩) (L c.cells) af) (W (I ⟨z,0,N⟩) (L s) sc) b6 bn bJ {c with Bm:=c.Bm.take (L s)}):=by
   rw[<-a0]at h;exact h
  obtain⟨aE,a2,co⟩:=D.less (m:=L s) O1 ca;rw[<-aT]at a2;rw[YN a1];exact⟨⟨_,_,_,_,_,_,_,aE,by rw[co,aT]⟩,a2⟩
 have aP:O9 (∀a ai,Bw n a e ((E.set 2 (W (I ⟨z,0,N⟩) (L s+1) sc)).set 2 (W (I ⟨z,0,N⟩) (L s) sc))->Az Aa 127 #[J (I ⟨e,0,N⟩),V C ai] a λB aF=>B=F (R #[])/\O9 (B2 w e b t n (CY ai (Cd 1 (Cd 1 c))) (R #[]) (F (R #[])) aF)):=λa ai h=>by
  obtain⟨aE,a2⟩:=a4.o a h;exact(Ka ai aE).mono λB aF aB=>⟨aB.1,aB.of a2 (λac hb=>Be hb) rfl⟩
 have aO:O9 (∀a ai aL,Bw n a e ((E.set 2 (W (I ⟨z,0,N⟩) (L s+1) sc)).set 2 (W (I ⟨z,0,N⟩) (L s) sc))->Az Aa 173 #[J (I ⟨e,0,N⟩),T #[V .u8 ai,V C aL,V .i32 0,V .i32 0,W N 0 0]] a λB aF=>B=F (R #[])/\O9 (B2 w e b t n (H6 ⟨ai,aL,0,0,[]⟩ (Cd 1 (Cd 1 c))) (R #[]) (F (R #[])) aF)):=λa ai aL h=>by
  obtain⟨aE,a2⟩:=a4.o a h;refine(OW ⟨ai,aL,0,0,[]⟩ (W N 0 0) ⟨N,0,rfl,λi ci=>absurd ci O2⟩ ⟨_,_,_,rfl⟩ aE ⟨a8.su,a8.sm,a8.mu,a8.mm⟩ (by rw[YN a1];grind) bt).mono λB aF aB=>?_;have ch:=aB.1;exact⟨ch,aB.of a2 (λac hb=>Be hb) rfl⟩
 have aI:O9 (∀bj Y j a,Fl n e E (E.set 2 (W (I ⟨z,0,N⟩) (L s+1) sc)) ((E.set 2 (W (I ⟨z,0,N⟩) (L s+1) sc)).set 2 (W (I ⟨z,0,N⟩) (L s) sc)) bj Y j a->a.cell? ⟨e,1,N⟩=I (W (I ⟨k,0,N⟩) (L c.cells) af)):=by
  intro bj Y j a h;refine h.b.m.at 1 ?_;grind
 have be:∀a,Bw n a e E->Az Aa 174 #[J (I ⟨e,0,N⟩)] a λB w'=>B=F (V .i32 (y:Int))/\w'=(a.setCell ⟨e,2,N⟩ (W (I ⟨z,0,N⟩) (L s+1) sc)).drew.drew:=λa h=>Sz (h.m.at 2 b9) (h.m.fz 2) (h.cell aX b5) O1 O1;have aN:O9 (∀a,Bw n a e (E.set 2 (W (I ⟨z,0,N⟩) (L s+1) sc))->Az Aa 174 #[J (I ⟨e,0,N⟩)] a λB w'=>B=F (V .i32 (x:Int))/\w'=(a.setCell ⟨e,2,N⟩ (W (I ⟨z,0,N⟩) (L s) sc)).drew.drew):=λa h=>Sz (h.m.at 2 (by simp[bz])) (h.m.fz 2) (h.cell aX b2) O1 O1;have aM:∀a bi,Bw n a e bi->(a.cell? ⟨k,x*5,N⟩=I (.int .u8 c.cells[x].BB)/\a.cell? ⟨k,x*5+1,N⟩=I (.int C c.cells[x].n)/\a.cell? ⟨k,x*5+2,N⟩=I (.int .i32 c.cells[x].left)/\a.cell? ⟨k,x*5+3,N⟩=I (.int .i32 c.cells[x].right)/\a.cell? ⟨k,x*5+4,N⟩=I (W am al ak))/\a.cell? ⟨k,y*5,N⟩=I (.int .u8 c.cells[y].BB)/\a.cell? ⟨k,y*5+1,N⟩=I (.int C c.cells[y].n)/\a.cell? ⟨k,y*5+2,N⟩=I (.int .i32 c.cells[y].left)/\a.cell? ⟨k,y*5+3,N⟩=I (.int .i32 c.cells[y].right)/\a.cell? ⟨k,y*5+4,N⟩=I (W ar aq ap):=λa bi h=>⟨⟨h.cell aa b7,h.cell aa l1,h.cell aa l2,h.cell aa l3,h.cell aa l4⟩,h.cell aa bB,h.cell aa bC,h.cell aa bD,h.cell aa bE,h.cell aa bG⟩;have bw:2<L E:=O1;have cH:(x:Int)<(L c.cells:Int):=O1;have cI:(y:Int)<(L c.cells:Int):=O1;have bo:n.drew.cell? ⟨e,1,N⟩=I (W (I ⟨k,0,N⟩) (L c.cells) af):=aK.m.at 1 b8;generalize c.cells[x]=cl at*;generalize c.cells[y]=cr at*;obtain⟨U,aj,an,ao,cJ⟩:=cl;obtain⟨rk,ae,ax,ay,cK⟩:=cr;simp only at*;obtain⟨au,aV⟩:∃au,E.set 2 (W (I ⟨z,0,N⟩) (L s+1) sc)=au:=⟨_,rfl⟩;obtain⟨a5,aW⟩:∃a5,au.set 2 (W (I ⟨z,0,N⟩) (L s) sc)=a5:=⟨_,rfl⟩;have bx:2<L au:=O6;rw[aV]at aP aO aI aN a4;rw[aW]at aP aO aI a4;have bg:O9 (∀a,Bw n a e E->Bw n (a.setCell ⟨e,2,N⟩ (W (I ⟨z,0,N⟩) (L s+1) sc)).drew.drew e au):=λa h=>by rw[<-aV];exact(h.cE bw).drew.drew
 have bh:∀a,Bw n a e au->Bw n (a.setCell ⟨e,2,N⟩ (W (I ⟨z,0,N⟩) (L s) sc)).drew.drew e a5:=λa h=>by rw[<-aW];exact(h.cE bx).drew.drew
 clear D aZ aT a0 b8 b9 a1 b1 bs b5 b2 b7 l1 l2 l3 l4 bB bC bD bE bG a8 bz bt cj aV aW a4 bw bx;have br:=aK.lt;go_enter func181,ntmps181;go_upto_region 0 with fail
 go_cut [4,5] (λcp cq a3=>∃b4 av:Nat,cp=J (I ⟨b4,0,N⟩)/\cq=J (I ⟨av,0,N⟩)/\(a3.cell? ⟨b4,0,N⟩=I (V .u8 rk)/\a3.cell? ⟨b4,1,N⟩=I (V C ae)/\a3.cell? ⟨av,0,N⟩=I (V .u8 U)/\a3.cell? ⟨av,1,N⟩=I (V C aj))/\O9 (Bw n a3 e a5))
 case first=>
  refine Ans (S:=λw'=>w'.cell? ⟨e,1,N⟩=I (W (I ⟨k,0,N⟩) (L c.cells) af)) 19 0 (by rfl) (by rfl) O3 O3 (by rfl) bo (λcF=>?_);iterate 10
   refine Ld (v:=?_) [0,1,2,3,4,8,9,10,11,12] rfl rfl rfl O3 O3 O3 (λ_ _ _ D=>D) (Be ⟨by rfl,?_⟩) O7 ?_;rotate_left
   ·intro n bZ;(try dsimp only at bZ);(go_simp<;>with_reducible rfl)
   simp only[Act.put,Axh,Axp,Axn]
  have aH:=Amx n (V .i32 (y:Int)) (J (I ⟨k,y*5,N⟩)) (T #[V .u8 rk,V C ae,V .i32 ax,V .i32 ay,W ar aq ap]) (V .i32 (x:Int)) (J (I ⟨k,x*5,N⟩)) (T #[V .u8 U,V C aj,V .i32 an,V .i32 ao,W am al ak]);refine An1 O3 (FC n (V .i32 (y:Int)) (J (I ⟨k,y*5,N⟩)) (T #[V .u8 rk,V C ae,V .i32 ax,V .i32 ay,W ar aq ap]) (V .i32 (x:Int)) (J (I ⟨k,x*5,N⟩)) (T #[V .u8 U,V C aj,V .i32 an,V .i32 ao,W am al ak])) _ aH.1 aH.2.1 aH.2.2 (Lb O2 (by intro aD O;obtain rfl:=Ax.1 O;kernel_rfl) (by intro aD O;obtain rfl:=Ax.1 O;kernel_rfl) (by intro aD O;obtain rfl:=Ax.1 O;kernel_rfl) (by intro aD O;obtain rfl:=Ax.1 O;kernel_rfl) (by intro aD O;obtain rfl:=Ax.1 O;kernel_rfl) O2 O2 (by intro aD O;simp only[AX,Axw,or_false]at O;rcases O with rfl|rfl|rfl|rfl<;>kernel_rfl)) _ (Lb ?l1 ?l2 ?l3 ?l4 ?l5 ?l6 ?l7 ?l8 ?l9) (Fl n e E au a5 [V .u8 rk,V C ae,V .i32 ax,V .i32 ay,W ar aq ap]) (λcn j a h=>aI.o _ cn j a h) (Lb ?s5 ?s6 ?s7 ?s13 ?s14 ?s15 ?s16 ?s17 ?s18) 9 _ O3 (Ayn O3) O3 (Lb O3 O3 O3 O3 O3 O3 O3 O3 O3) ⟨?w0,(λD=>by cases D),(λD=>by cases D),(λD=>by cases D),(λD=>by cases D)⟩ ?done;case l1=>intro d G;cases G;show 11<_;simp
  case l2=>intro d G;cases G;show 12<_;simp
  case l3=>intro d G;cases G;show 13<_;simp
  case l4=>intro d G;cases G;show 19<_;simp
  case l5=>intro d G;cases G;show 20<_;simp
  case l6=>intro d G;cases G;show 21<_;simp
  case l7=>intro d G;cases G;show 4<_;simp
  case l8=>intro d G;cases G;show 5<_;simp
  case l9=>intro d G;cases G
  case w0=>exact aK.drew
  case s5=>
   refine⟨_,rfl,rfl,rfl,λY j a ad q p u g l=>?_⟩;obtain⟨hb,a9⟩:=g.e5 (by rw[ad];decide) p (d:=11) O4 (V .i32 (y:Int));have c4:j.tmps[10]?.getD Aw7=J (I ⟨e,0,N⟩):=by rw[q.it 10 O4];rfl
   refine Acd (f:=174) (args:=#[J (I ⟨e,0,N⟩)]) ?_ ?_
   ·clear g l hb a9 u p q;go_simp
   ·refine(be a hb).mono ?_;rintro B aG ⟨rfl,aw⟩;have a7:=Ad7 (w0:=n) aw br;have aC:a.heap.size<=aG.heap.size:=by rw[aw];simp
    exact⟨_,rfl,_,rfl,a9 aG (by rw[aw];exact bg.o a hb) a7 aC,rfl,Py (λv ah=>ah.bG (λac H _=>a7 ac H) aC) _⟩
  case s13=>
   refine⟨_,rfl,rfl,rfl,λY j a ad q p u g l=>?_⟩;obtain⟨hb,a9⟩:=g.eV (by rw[ad];decide) p (u 5 O2) (d:=19) O4 (V .i32 (x:Int));have c9:j.tmps[18]?.getD Aw7=J (I ⟨e,0,N⟩):=by rw[q.it 18 O4];rfl
   refine Acd (f:=174) (args:=#[J (I ⟨e,0,N⟩)]) ?_ ?_
   ·clear g l hb a9 u p q;go_simp
   ·refine(aN.o a hb).mono ?_;rintro B aG ⟨rfl,aw⟩;have a7:=Ad7 (w0:=n) aw br;have aC:a.heap.size<=aG.heap.size:=by rw[aw];simp
    exact⟨_,rfl,_,rfl,a9 aG (by rw[aw];exact bh a hb) a7 aC,rfl,Py (λv ah=>ah.bG (λac H _=>a7 ac H) aC) _⟩
  case s6=>
   refine⟨_,rfl,rfl,rfl,λY j a ad q p u g l=>?_⟩;have cE:j.tmps[9]?.getD Aw7=W (I ⟨k,0,N⟩) (L c.cells) af:=by rw[q.it 9 O4];rfl
   have c5:j.tmps[11]?.getD Aw7=(V .i32 (y:Int)):=by
    have H:=l ⟨5,I 11,[],λv _=>v=(V .i32 (y:Int))⟩ (by simp[FC]) (u 5 O2);rwa[<-Aw9]
   refine Nh (v:=(J (I ⟨k,y*5,N⟩))) (w':=a) ?_ ⟨_,rfl,g.quiet (i:=6) (d:=12) O4 O4 _,rfl,λba _ _ bb p=>p⟩;clear g l u p q;go_simp
  case s14=>
   refine⟨_,rfl,rfl,rfl,λY j a ad q p u g l=>?_⟩;have c8:j.tmps[17]?.getD Aw7=W (I ⟨k,0,N⟩) (L c.cells) af:=by rw[q.it 17 O4];rfl
   have cB:j.tmps[19]?.getD Aw7=(V .i32 (x:Int)):=by
    have H:=l ⟨13,I 19,[5],λv _=>v=(V .i32 (x:Int))⟩ (by simp[FC]) (u 13 O2);rwa[<-Aw9]
   refine Nh (v:=(J (I ⟨k,x*5,N⟩))) (w':=a) ?_ ⟨_,rfl,g.quiet (i:=14) (d:=20) O4 O4 _,rfl,λba _ _ bb p=>p⟩;clear g l u p q;go_simp
  case s7=>
   refine⟨_,rfl,rfl,rfl,λY j a ad q p u g l=>?_⟩;have c6:j.tmps[12]?.getD Aw7=(J (I ⟨k,y*5,N⟩)):=by
    have H:=l ⟨6,I 12,[5],λv _=>v=(J (I ⟨k,y*5,N⟩))⟩ (by simp[FC]) (u 6 O2);rwa[<-Aw9]
   obtain⟨-,c0,bk,bK,bM,bN⟩:=aM a _ g.b;refine Nh (v:=(T #[V .u8 rk,V C ae,V .i32 ax,V .i32 ay,W ar aq ap])) (w':=a) ?_ ⟨_,rfl,g.quiet (i:=7) (d:=13) O4 O4 _,rfl,λba _ _ bb p=>p⟩;clear g l u p q;go_simp
  case s15=>
   refine⟨_,rfl,rfl,rfl,λY j a ad q p u g l=>?_⟩;have cC:j.tmps[20]?.getD Aw7=(J (I ⟨k,x*5,N⟩)):=by
    have H:=l ⟨14,I 20,[13],λv _=>v=(J (I ⟨k,x*5,N⟩))⟩ (by simp[FC]) (u 14 O2);rwa[<-Aw9]
   obtain⟨⟨c0,bk,bK,bM,bN⟩,-⟩:=aM a _ g.b;refine Nh (v:=(T #[V .u8 U,V C aj,V .i32 an,V .i32 ao,W am al ak])) (w':=a) ?_ ⟨_,rfl,g.quiet (i:=15) (d:=21) O4 O4 _,rfl,λba _ _ bb p=>p⟩;clear g l u p q;go_simp
  case s16=>
   refine⟨_,rfl,rfl,rfl,λY j a ad q p u g l=>?_⟩;refine Nh (v:=J (I ⟨a.heap.size,0,N⟩)) (w':=a.alloc (.cells #[V .u8 0,V C 0,V .i32 0,V .i32 0,W N 0 0] 197)) ?_ ⟨_,rfl,g.eT p (by rw[q.size];simp) (λH=>l ⟨17,I 5,[],GZ n⟩ (by simp[FC]) H) _,GZ.new n g.b.size _,Py (λv ah=>ah.bG (λac _ aR=>Axo a _ aR) O2) _⟩;clear g l u p q;go_simp
  case s17=>
   refine⟨_,rfl,rfl,rfl,λY j a ad q p u g l=>?_⟩;refine Nh (v:=J (I ⟨a.heap.size,0,N⟩)) (w':=a.alloc (.cells #[V .u8 0,V C 0,V .i32 0,V .i32 0,W N 0 0] 197)) ?_ ⟨_,rfl,g.du (by rw[q.size];simp) (λH=>l ⟨16,I 4,[],GZ n⟩ (by simp[FC]) H) _,GZ.new n g.b.size _,Py (λv ah=>ah.bG (λac _ aR=>Axo a _ aR) O2) _⟩;clear g l u p q;go_simp
  case s18=>
   refine⟨_,rfl,rfl,rfl,λY j a ad q p u g l=>?_⟩;obtain⟨ac,ct,cv,cw,cx,cy,aJ,hb,K,bq⟩:=g.stored (u 16 O2) (l ⟨16,I 4,[],GZ n⟩ (by simp[FC]) (u 16 O2));have cD:j.tmps[4]?.getD Aw7=J (I ⟨ac,0,N⟩):=by rwa[<-Aw9]
   have c7:j.tmps[13]?.getD Aw7=(T #[V .u8 rk,V C ae,V .i32 ax,V .i32 ay,W ar aq ap]):=by
    have H:=l ⟨7,I 13,[6],λv _=>v=(T #[V .u8 rk,V C ae,V .i32 ax,V .i32 ay,W ar aq ap])⟩ (by simp[FC]) (u 7 O2);rwa[<-Aw9]
   have bl:=K.at 0 rfl;have bm:=K.at 1 rfl;have bO:=K.at 2 rfl;have bP:=K.at 3 rfl;have bQ:=K.at 4 rfl;have bS:=K.fz 0;have bT:=K.fz 1;have bU:=K.fz 2;have bV:=K.fz 3;have bW:=K.fz 4;refine wp_skip (w':=w5 a ac (V .u8 rk) (V C ae) (V .i32 ax) (V .i32 ay) (W ar aq ap)) ?_ ⟨_,rfl,bq,trivial,Py (λv ah=>ah.dE K _ _ _ _ _) _⟩;clear g l u p q bq K;unfold w5;go_simp
  case done=>
   intro Y j a a6 q g l;have bI:=a6 18 O4;have bH:=a6 13 O4;obtain⟨b4,aY,aJ,bu⟩:=g.st bI;have b0:=g.ne (a6 16 O4) (a6 17 O4);obtain⟨av,ct,cv,cw,cx,cy,aQ,cd,M⟩:GZ n (j.eval (.tmp 5)) a:=l ⟨17,I 5,[],GZ n⟩ (by simp[FC]);have bp:j.eval (.tmp 21)=(T #[V .u8 U,V C aj,V .i32 an,V .i32 ao,W am al ak]):=l ⟨15,I 21,[14],λv _=>v=(T #[V .u8 U,V C aj,V .i32 an,V .i32 ao,W am al ak])⟩ (by simp[FC]);have aS:=g.b;rw[bH,if_pos rfl]at aS;have bX:b4≠av:=λB=>b0 (by rw[aJ,aQ,B]);have ag:=UV q;simp only[Baa,List.foldl_nil]at ag;rw[aJ,aQ,bp]at ag;generalize j.eval (.tmp 11)=y11 at ag;generalize j.eval (.tmp 12)=y12 at ag;generalize j.eval (.tmp 13)=y13 at ag;generalize j.eval (.tmp 19)=y19 at ag;generalize j.eval (.tmp 20)=y20 at ag;simp only[Act.put,Axh,Axp,Axn]at ag;clear q l a6 g b0 aJ aQ bp bI bH;subst ag;have bl:=M.at 0 rfl;have bm:=M.at 1 rfl;have bO:=M.at 2 rfl;have bP:=M.at 3 rfl;have bQ:=M.at 4 rfl;have bS:=M.fz 0;have bT:=M.fz 1;have bU:=M.fz 2;have bV:=M.fz 3;have bW:=M.fz 4;have bc:=O0 (bu.ej bX (V .u8 U) (V C aj) (V .i32 an) (V .i32 ao) (W am al ak));have bd:=O0 (M.dE (V .u8 U) (V C aj) (V .i32 an) (V .i32 ao) (W am al ak));have az:=O0 (aS.dE cd (V .u8 U) (V C aj) (V .i32 an) (V .i32 ao) (W am al ak));clear bu M aS aH;refine Ash ?_;refine wpOp_step (o:=⟨N,.store _ (.tmp 5) (.tmp 21),0,_,_,N⟩) rfl (λcz bY=>?_);go_simp;refine bY _ _ ?_;(try go_wp2)
   go_meet
   exact⟨b4,av,rfl,rfl,⟨bc.o.at 0 rfl,bc.o.at 1 rfl,bd.o.at 0 rfl,bd.o.at 1 rfl⟩,az.o⟩
 case rest=>
  clear be aN aI aK aM bg bh bo aa aX;rename Q=>a3
  obtain⟨b4,av,rfl,rfl,⟨c0,bk,bl,bm⟩,az⟩:=hcut;rcases(show U=1/\rk≠1\/U≠1\/U=1/\rk=1/\(ab=12/\ae=0\/ab=12/\ae≠0\/ab=9\/ab=10\/ab=11\/ab=13\/ab=14) by omega) with⟨rfl,H⟩|H|⟨rfl,rfl,⟨rfl,rfl⟩|⟨rfl,H⟩|rfl|rfl|rfl|rfl|rfl⟩;all_goals
   go_wp2_with (first
    |(go_at_call 127;refine(aP.o _ _ az.o).mono ?_;rintro B w5 ⟨rfl,bf⟩)
    |(go_at_call 230;refine(Asm _ _).mono ?_;rintro B cN ⟨rfl,aY⟩;replace az:=O0 (az.o.below aY);clear aY)
    |(go_at_call 173;refine(aO.o _ _ _ az.o).mono ?_;rintro B w5 ⟨rfl,bf⟩))
   all_goals
    refine bF ?_ O2 rfl rfl;refine(congrArg (λcs=>B2 w e b t n cs (R #[]) (F (R #[])) _) ?_).mpr bf.o;first|(simp[Na,PG,Gh,Mg,QJ,H];done)|(simp[Na,PG,Gh,Mg,QJ];done)|(simp[Na,PG,Gh,Mg,QJ, *];done)
def Jw(c:Int)(b:Nat)(a:BA):BA:=H6 ⟨3,c,0,0,a.Bm.drop (L a.Bm-b)⟩ (Cd b a)
theorem Xk(a:Nat)(i:a<=1000000)(b:Q):(Instr.makeSlice 108 (V C (a:Int)) (V C (a:Int))).run Aa b=.ok (W (I ⟨b.heap.size,0,N⟩) a a) (b.alloc (.cells (madeCells #[V .i32 0] a) 106)):=by
 let ⟨h,d,c⟩:=AB.1 TY
 simp[Aw0]at c;let ⟨e,f,g⟩:=c
 rw[run_make b 108 106 h _ underlying108 d e C C a a O1 O1 (by rw[g];omega) O1,f];simp[Value.cells]
theorem Aam(a:Nat):(madeCells #[Value.int .i32 0] a).toList=List.replicate a (V .i32 0):=by
 simp[madeCells,Nat.mod_one,List.map_const']
theorem Awg(h:Int)(a:Nat)(aB:a<=1000)(f:MM w n s b d t)(g:Fw d)(a8:(L d.Bm)<=1000000000)(am:(L d.cells)<=1000000000)(au:0<L d.Bm)(av:a<=L d.Bm):
 Az Aa 177 #[J (I ⟨s,0,N⟩),V C h,V C (a:Int)] n λe u=>B2 w s b t n (Jw h a d) (R #[]) e u:=by
 have ar:=Xk a O1 n;have H:=f;obtain⟨a2,a4,a3,aJ,aI,a5,aK,f,G⟩:=f;obtain⟨q,sc,rfl,a6,M⟩:=Ju f.sk au;obtain⟨c,v⟩:∃c,n.alloc (.cells (madeCells #[V .i32 0] a) 106)=c:=⟨_,rfl⟩;have x:Ow n c:=by rw[<-v];exact bA
 have K:c.heap[n.heap.size]?=I (.cells (List.replicate a (Value.int .i32 0)).toArray 106 (0,0)):=by
  rw[<-v,AM,<-Aam]
 have ad:c.drew.heap[n.heap.size]?=I (.cells (List.replicate a (Value.int .i32 0)).toArray 106 (0,0)):=K;have a9:n.heap.size<c.heap.size:=O6;have ac:=O0 (rfl:d.Bm.drop (L d.Bm-a)=d.Bm.drop (L d.Bm-a));obtain⟨fl,z⟩:∃fl,d.Bm.drop (L d.Bm-a)=fl:=⟨_,rfl⟩;have k:(L fl)=a:=O6;have ah:∀r B,(Ci fl)[r]?=I B->c.drew.cell? ((⟨q,L d.Bm-a,N⟩:Addr).add r)=I B:=λr B U=>by
  have a7:r<a:=by
   have:=(AK.1 U).1;simpa[Ci,k]using this
  rw[Om];show c.cell? _=_;refine Bu x ?_;rw[M _ O1,<-U,<-z];simp[Ci]
 have ae:∀i,i.heap[n.heap.size]?=I (.cells (splice (List.replicate a (Value.int .i32 0)) 0 (Ci fl)).toArray 106 (0,0))->Ow n i->n.heap.size<i.heap.size->Az Aa 175 #[J (I ⟨s,0,N⟩),V C (a:Int)] i λe w5=>e=F (R #[])/\O9 (Az Aa 173 #[J (I ⟨s,0,N⟩),T #[V .u8 3,V C h,V .i32 0,V .i32 0,W (I ⟨n.heap.size,0,N⟩) a a]] w5 λe u=>e=F (R #[])/\O9 (B2 w s b t n (Jw h a d) (R #[]) (F (R #[])) u)):=λi l j a1=>by
  have ay:splice (List.replicate a (Value.int .i32 0)) 0 (Ci fl)=Ci fl:=by
   have:(Ci fl).length=a:=by simp[Ci,k]
   simp[splice,this]
  rw[ay]at l;refine(PU a (H.bG j) av O1).mono λe w5 p=>?_;have y:=p.1;obtain⟨-,E,aa,al,ak⟩:=p;have ao:n.heap.size∉t:=λg=>by
   have:=(f.rg _ (G▸g)).2;omega
  have an:w5.heap[n.heap.size]?=I (.cells (Ci fl).toArray 106 (0,0)):=by rw[E.block _ a1 ao,l]
  have a0:=f.lz;have ap:n.heap.size∉aa:=λg=>by
   grind
  refine⟨y,?_⟩;refine(OW ⟨3,h,0,0,fl⟩ (W (I ⟨n.heap.size,0,N⟩) a a) ⟨I ⟨n.heap.size,0,N⟩,a,by rw[k],λY aq=>⟨n.heap.size,0,⟨a0,ap⟩,rfl,?_⟩⟩ ⟨_,_,_,rfl⟩ al ⟨g.su,g.sm,g.mu,g.mm⟩ ?_ am).mono λe u p=>?_
  ·have:=A5 an (0+Y) (.int .i32 fl[Y]) (by simp[Ci,aq]);rw[Om]at this;simpa using this
  ·simp[Cd];omega
  ·have y:=p.1;refine⟨y,?_⟩;have ax:Jw h a d=H6 ⟨3,h,0,0,fl⟩ (Cd a d):=by unfold Jw;rw[z]
   rw[ax];have aj:=(AF.bW j (X:=t)).trans E λD hb=>Be hb;exact p.of aj (λD hb=>(ak D hb).imp id λai=>Ay j.size ai) rfl
 have aH:c.drew.cell? ⟨s,2,N⟩=I (W (I ⟨q,0,N⟩) (L d.Bm) sc):=(f.bG x).m.at 2 rfl;have az:(Aa.info? 106).map (·.size)=I 1:=rfl;have aC:(0:Int)<=(L d.Bm:Int)-(a:Int):=O1;have aD:(L d.Bm:Int)-(a:Int)<=(L d.Bm:Int):=O1;have aE:((L d.Bm:Int)-(a:Int)).toNat=L d.Bm-a:=O1;have aF:IntKind.i64.wrap ((L d.Bm:Int)-(a:Int))=(L d.Bm:Int)-(a:Int):=KD O1;have aG:(L d.Bm)-(L d.Bm-a)=a:=O1;clear f H M G g K z ac;go_enter func177,ntmps177;go_upto_region 1 with fail
 clear ar v;go_region_law
  (first
   |(refine step_copy_splice rfl (.tmp 9) (.tmp 21) 108 108 rfl 106 underlying108 az (I ⟨n.heap.size,0,N⟩) (if sc=L d.Bm-a then I ⟨q,0,N⟩ else I ⟨q,L d.Bm-a,N⟩) a a a (sc-(L d.Bm-a)) (by first|(simp[Act.eval];done)|(simp[Act.eval,Act.put];done)) (by first|(simp[Act.eval];done)|(simp[Act.eval,Act.put];done)) n.heap.size 0 (List.replicate a (V .i32 0)) 106 ad (Ci fl) (by simp[Ci,k]) (λaw=>⟨rfl,⟨q,L d.Bm-a,N⟩,by rw[if_neg];simp[Ci,k]at aw;omega,ah⟩) (by simp[Ci,k]) (by intro aL O;simp[Ci]at O;obtain⟨aN,-,rfl⟩:=O;rfl) n.heap.size n x.drew (Ac _) ?_;intro i l j;have ab:=O0 (ae i l.out j (by have:=l.out;exact(A9.1 this).1));clear l j))
 all_goals
  go_wp2_with (first
   |(go_at_call 175;refine ab.o.mono ?_;rintro e w5 ⟨rfl,af⟩)
   |(go_at_call 173;refine af.o.mono ?_;rintro e aM ⟨rfl,ag⟩))
 all_goals
  exact bF ag.o O2 rfl rfl
end Go.Proofs.YtpkbnogifdlcmaaGreatDoor
