import Derived.Test.YtcacpmkdfnmhaaaGreatDoorDLJ
import Derived.ScopeJumps
import Derived.WalkMore
set_option linter.unusedSimpArgs false
set_option maxRecDepth 100000
set_option maxHeartbeats 2000000
open Go renaming Calls->Av,TypeId->AX,Value->X,World->Q
open Go.Act renaming eval->A4
open Go.Ending renaming returned->F
open Go.IntKind renaming i64->C
open Go.Proofs.Tryz renaming prog->Aa
open Go.Value renaming agg->T,bool->A,int->V,pointer->J,slice->W,string->S,tuple->R
open List renaming length->L
open Option renaming none->N,some->I
open Or renaming inl->Ba
namespace Go.Proofs.YtcacpmkdfnmhaaaGreatDoor
open Go.RowKit Go.Sort
variable{y nk vz:List Nat}{vy:Option Nat}{n p H:World}{wi:List Value}{vi sq:Nat->Prop}{b i r M wu ny yd ye yf yg:Value}{wf:List Int}{w s m j:Nat}{wj:TypeId}{wa w0:List As}{np:Prop}{o:Int}{G:Option Addr}
theorem AF.grown(a:AF y n p)(b:p.grownBy H vy)(h:∀c,vy=I c->c∈y\/n.heap.size<=c):AF y n H:=
 ⟨b.os.trans a.os,b.tape.trans a.tape,b.output.trans a.output,Aw a.size b.size,λd f e=>(b.block d (Aj f a.size) λg=>(h d g.symm).elim e O1).trans (a.block d f e)⟩
def BN(d:Q)(b:Nat)(a:List X):Prop:=FB d b (L a) λc=>(a[c]?).getD .nilIface
theorem BN.at{w:Q}{b:Nat}(e:BN w b wi)(a:Nat){d:X}(g:wi[a]?=I d):w.cell? ⟨b,a,N⟩=I d:=by
 have f:=(Are.1 g).1;have:=e.c a f;grind
theorem BN.set{b:Nat}(a:BN n b wi){i:Nat}(f:i<L wi)(u:X):BN (n.setCell ⟨b,i,N⟩ u) b (wi.set i u):=by
 refine⟨λj e=>?_,λj=>by rw[An];exact a.fz j,by simpa using a.lt⟩;rw[Ar1]at e;by_cases d:j=i
 ·subst d;rw[Am _ _ _ (a.c j e)];simp[f]
 ·rw[Fp (Asg d),a.c j e,List.getElem?_set_ne (Asg d)]
theorem BN.bX{b w':Q}{a:Nat}{c:List X}(e:BN b a c)(d:w'.heap[a]?=b.heap[a]?)(f:b.heap.size<=w'.heap.size):BN w' a c:=FB.bX e d f
structure Cg where
 kind:Int
 n:Int
 left:Int
 right:Int
 fields:List Int
structure Gk where
 base:Int
 code:List Bx
 at_:Int
structure Bq where
 cells:List Cg
 stack:List Int
 fr:Gk
 BF:List Gk
 su:Int
 sm:Int
 mu:Int
 mm:Int
 state:Int
 kind:Int
 text:List UInt8
def DK(a:Cg×X):List X:=[V .u8 a.1.kind,V C a.1.n,V .i32 a.1.left,V .i32 a.1.right,a.2]
def IA(a:Gk×X):List X:=[V C a.1.base,a.2,V C a.1.at_]
def BX(a:List Int):List X:=a.map λb=>V .i32 b
def JM(a:List UInt8):List X:=a.map λb=>V .u8 (b.toNat:Int)
def EC(f:Nat->Prop)(i:Q)(h:X)(c:List Int):Prop:=∃e g,h=W e (L c) g/\∀b (j:b<L c),∃a d,f a/\e=I ⟨a,d,N⟩/\i.cell? ⟨a,d+b,N⟩=I (.int .i32 c[b])
theorem EC.fr(f:EC vi n b wf)(g:∀a,vi a->a<n.heap.size->sq a/\p.heap[a]?=n.heap[a]?):EC sq p b wf:=by
 let ⟨q,cap,d,h⟩:=f
 refine⟨q,cap,d,λk i=>?_⟩;let ⟨a,o,j,e,c⟩:=h k i
 let ⟨l,m⟩:=g a j (AG c)
 exact⟨a,o,l,e,DA m c⟩
def Et(d:Nat)(e:Q)(b:X)(a:List Bx):Prop:=(b=W N 0 0/\a=[])\/EZ (λc=>c<d) e b a
theorem Et.fr{b:Nat}{e f:Q}{d:X}{c:List Bx}(a:Et b e d c)(hb:Below b e f):Et b f d c:=a.imp id λa=>a.fr hb.size λg h _=>hb.block g h
def mL(b:Nat)(c f e d g:X)(a:Bq):List X:=[J (I ⟨b,0,N⟩),c,f,V C a.fr.base,e,V C a.fr.at_,d,V C a.su,V C a.sm,V C a.mu,V C a.mm,V C a.state,V C a.kind,g]
def mB(a:Nat)(b d c e:X):List Nat:=a::(vB b++(vB d++(vB c++vB e)))
structure BH (a:Nat) (d:Q) (e n:Nat) (c:Bq) (f:List (Cg×X)) (h:List (Gk×X)) (g j l i k:X):Prop where
 m:BN d e (mL n g j l i k c)
 cl:d.ownsRow a 153 5 g (L f) (f.flatMap DK)
 fl:∀x∈f,EC (λb=>a<=b/\b∉mB e g j i k) d x.2 x.1.fields
 sk:d.ownsRow a 85 1 j (L c.stack) (BX c.stack)
 dp:d.ownsRow a 90 3 i (L h) (h.flatMap IA)
 dc:∀x∈h,Et a d x.2 x.1.code
 cd:Et a d l c.fr.code
 tx:d.ownsRow a 5 1 k (L c.text) (JM c.text)
 EI:f.map (·.1)=c.cells
 FA:h.map (·.1)=c.BF
 nd:(mB e g j i k).Nodup
 ml:a<=e
theorem Fc(a:n.ownsRow w wj s b m wi)(hb:j∈vB b):w<=j/\j<n.heap.size:=⟨N3 a (BM.1 hb),RD a (BM.1 hb)⟩
variable{c:Bq}{nc:List (Cg×Value)}{w8:List (Gk×Value)}
theorem BH.rg{e:Nat}(a:BH w n s e c nc w8 b i r M wu):∀d∈mB s b i M wu,w<=d/\d<n.heap.size:=by
 intro d hb;rcases AW.1 hb with rfl|hb
 ·exact⟨a.ml,a.m.lt⟩
 rcases Ag.1 hb with hb|hb
 ·exact Fc a.cl hb
 rcases Ag.1 hb with hb|hb
 ·exact Fc a.sk hb
 rcases Ag.1 hb with hb|hb
 ·exact Fc a.dp hb
 ·exact Fc a.tx hb
theorem BH.lz{d:Nat}(a:BH w n s d c nc w8 b i r M wu):w<=n.heap.size:=Aw a.ml (Atq a.m.lt)
abbrev mA(b:Nat)(d:List X):As:=⟨[b],λh=>BN h b d/\L d=14,λa _ f=>Aq.1 f▸cells_of_cell (a.1.c 0 O1),λa g e=>⟨a.1.bX (e _ (.head _)) g,a.2⟩⟩
abbrev PM(f:Nat)(c:AX)(h:Nat)(b:X)(g:Nat)(j:List X):As:=⟨vB b,λi=>i.ownsRow f c h b g j,λa _ e=>.ca (Ib a) e,λa _ d=>FC a d⟩
abbrev mS(b i j:Nat)(a:Bq)(c:List (Cg×X))(e:List (Gk×X))(d g k f h:X):List As:=[mA i (mL j d g k f h a),PM b 153 5 d (L c) (c.flatMap DK),PM b 85 1 g (L a.stack) (BX a.stack),PM b 90 3 f (L e) (e.flatMap IA),PM b 5 1 h (L a.text) (JM a.text)]
theorem KY{lo Pb:Nat}{st:Bq}{cs:List (Cg×X)}{ds:List (Gk×X)}{kv:X}:fp (mS lo w Pb st cs ds b i kv r M)=mB w b i r M:=by simp[fp,mB]
theorem BH.sp{d:Nat}(a:BH w n s d c nc w8 b i r M wu):Bo w n (mS w s d c nc w8 b i r M wu) n (mS w s d c nc w8 b i r M wu):=
 Sp.b2 ⟨a.lz,by simp only[List.forall_mem_cons];exact⟨⟨a.m,rfl⟩,a.cl,a.sk,a.dp,a.tx,nofun⟩,by rw[KY];exact a.nd,by rw[KY];exact a.rg⟩
variable{ss:List (Cg×Value)}{x3:List (Gk×Value)}
theorem BH.step{st':Bq}(f:BH w n s m c nc w8 b i r M wu)(K:Bo w n (mS w s m c nc w8 b i r M wu) p (mS w s m st' ss x3 ny yd ye yf yg))(G:∀d∈ss,EC (λa=>w<=a/\a∉mB s b i M wu) n d.2 d.1.fields)(E:∀d∈x3,Et w n d.2 d.1.code)(D:Et w n ye st'.fr.code)(q:ss.map (·.1)=st'.cells)(t:x3.map (·.1)=st'.BF):BH w p s m st' ss x3 ny yd ye yf yg/\AF (mB s b i M wu) n p/\∀a∈mB s ny yd yf yg,a∈mB s b i M wu\/n.heap.size<=a:=by
 let ⟨e,o,h⟩:=K
 have k:=o.h;have l:=o.nd;simp only[KY,List.forall_mem_cons]at e h k l;obtain⟨u,v,x,y,z,-⟩:=k;have hb:=e.low (λa hb=>(f.rg a hb).1) f.lz;exact⟨⟨u.1,v,λd j=>(G d j).fr λa g B=>⟨⟨g.1,λH=>(h a H).elim g.2 O1⟩,e.block a B g.2⟩,x,y,λd j=>(E d j).fr hb,D.fr hb,z,q,t,l,f.ml⟩,e,h⟩
theorem Bo.dt{a:Nat}{u:X}(b:Bo w n wa p (mA a wi::w0))(g:m<14):Bo w n wa (p.setCell ⟨a,m,N⟩ u) (mA a (wi.set m u)::w0):=
 have ⟨d,e⟩:=b.mem (.head _);b.cI (L1:=[]) (AF.refl.set (.inl (.head _)) u) ⟨d.set O1 u,by simpa using e⟩ O2 λf c=>⟨.inl c,by simpa using(b.s.rg f (HU (.head _) c)).2⟩
theorem Jz(c:AF y n p)(d:∀a∈nk,a∈y\/n.heap.size<=a)(b:np/\AF nk p H/\∀a∈vz,a∈nk\/p.heap.size<=a):np/\AF y n H/\∀a∈vz,a∈y\/n.heap.size<=a:=⟨b.1,c.trans b.2.1 d,λa hb=>(b.2.2 a hb).elim (d a) λe=>.inr (Aw c.size e)⟩
theorem BH.bE{i:Nat}{w m:Q}{b c:Nat}{j:Bq}{d:List (Cg×X)}{f:List (Gk×X)}{e k h g l:X}(a:BH i w b c j d f e k h g l)(hb:Below w.heap.size w m):BH i m b c j d f e k h g l:=(a.step (a.sp.bE hb) a.fl a.dc a.cd a.EI a.FA).1
theorem BH.cO{d:X}{st':Bq}{kv' u:X}{i:Nat}(a:BH w n s m c nc w8 b d r M wu)(k:(mL m b d r M wu c).set i u=mL m b d kv' M wu st')(o:i<14)(f:st'.cells=c.cells)(g:st'.stack=c.stack)(h:st'.BF=c.BF)(j:st'.text=c.text)(l:Et w n kv' st'.fr.code):BH w (n.setCell ⟨s,i,N⟩ u) s m st' nc w8 b d kv' M wu:=by
 have e:=a.sp.dt (u:=u) o;rw[k,<-g,<-j]at e;exact(a.step e a.fl a.dc l (f▸a.EI) (h▸a.FA)).1
theorem BH.eF(a:BH w n s m c nc w8 b i r M wu)(h:AF (vB i) n p){e:List Int}(g:p.ownsRow w 85 1 ny (L e) (BX e))(j:∀d∈vB ny,d∈vB i\/n.heap.size<=d):BH w (p.setCell ⟨s,2,N⟩ ny) s m {c with stack:=e} nc w8 b ny r M wu/\AF (mB s b i M wu) n (p.setCell ⟨s,2,N⟩ ny)/\∀d∈mB s b ny M wu,d∈mB s b i M wu\/n.heap.size<=d:=
 a.step ((a.sp.cI (L1:=[_,_]) h g (Gf _) λk f=>⟨j k f,(Fc g f).2⟩).dt O1) a.fl a.dc a.cd a.EI a.FA
theorem BH.fq{cs':List (Cg×X)}(d:BH w n s m c nc w8 b i r M wu)(h:AF (vB b) n p)(f:p.ownsRow w 153 5 ny (L cs') (cs'.flatMap DK))(j:∀g∈cs',EC (λa=>w<=a/\a∉mB s b i M wu) n g.2 g.1.fields)(k:∀a∈vB ny,a∈vB b\/n.heap.size<=a):BH w (p.setCell ⟨s,1,N⟩ ny) s m {c with cells:=cs'.map (·.1)} cs' w8 ny i r M wu/\AF (mB s b i M wu) n (p.setCell ⟨s,1,N⟩ ny)/\∀a∈mB s ny i M wu,a∈mB s b i M wu\/n.heap.size<=a:=
 d.step ((d.sp.cI (L1:=[_]) h f (Gf _) λl e=>⟨k l e,(Fc f e).2⟩).dt O1) j d.dc d.cd rfl d.FA
theorem BH.fd{ds':List (Gk×X)}(d:BH w n s m c nc w8 b i r M wu)(h:AF (vB M) n p)(f:p.ownsRow w 90 3 ny (L ds') (ds'.flatMap IA))(j:∀g∈ds',Et w n g.2 g.1.code)(k:∀a∈vB ny,a∈vB M\/n.heap.size<=a):BH w (p.setCell ⟨s,6,N⟩ ny) s m {c with BF:=ds'.map (·.1)} nc ds' b i r ny wu/\AF (mB s b i M wu) n (p.setCell ⟨s,6,N⟩ ny)/\∀a∈mB s b i ny wu,a∈mB s b i M wu\/n.heap.size<=a:=
 d.step ((d.sp.cI (L1:=[_,_,_]) h f (Gf _) λl e=>⟨k l e,(Fc f e).2⟩).dt O1) d.fl j d.cd d.EI rfl
theorem BH.fi(a:BH w n s m c nc w8 b i r M wu)(g:AF (vB wu) n p){t':List UInt8}(f:p.ownsRow w 5 1 ny (L t') (JM t'))(h:∀d∈vB ny,d∈vB wu\/n.heap.size<=d):BH w (p.setCell ⟨s,13,N⟩ ny) s m {c with text:=t'} nc w8 b i r M ny/\AF (mB s b i M wu) n (p.setCell ⟨s,13,N⟩ ny)/\∀d∈mB s b i M ny,d∈mB s b i M wu\/n.heap.size<=d:=
 a.step ((a.sp.cI (L1:=[_,_,_,_]) g f (Gf _) λj e=>⟨h j e,(Fc f e).2⟩).dt .refl) a.fl a.dc a.cd a.EI a.FA
theorem BH.eX(a:BH w n s m c nc w8 b i r M wu)(g:AF (vB i) n p){s':List Int}(e:p.ownsRow w 85 1 i (L s') (BX s')):BH w p s m {c with stack:=s'} nc w8 b i r M wu/\AF (mB s b i M wu) n p:=
 have f:=a.step (st':={c with stack:=s'}) (a.sp.cI (L1:=[_,_]) g e (Gf _) λ_ d=>⟨.inl d,(Fc e d).2⟩) a.fl a.dc a.cd a.EI a.FA
 ⟨f.1,f.2.1⟩
theorem BH.fZ(a:BH w n s m c nc w8 b i r M wu)(j:AF (vB b) n p)(f:p.ownsRow w 153 5 b (L ss) (ss.flatMap DK))(k:∀h∈ss,EC (λd=>w<=d/\d∉mB s b i M wu) n h.2 h.1.fields):BH w p s m {c with cells:=ss.map (·.1)} ss w8 b i r M wu/\AF (mB s b i M wu) n p:=
 have g:=a.step (st':={c with cells:=ss.map (·.1)}) (a.sp.cI (L1:=[_]) j f (Gf _) λ_ e=>⟨.inl e,(Fc f e).2⟩) k a.dc a.cd rfl a.FA
 ⟨g.1,g.2.1⟩
def MM(k:Nat)(m:Q)(a g:Nat)(l:Bq)(f:List Nat):Prop:=∃h i b d j c e,BH k m a g l h i b d j c e/\f=mB a b d c e
theorem MM.bE{e:Nat}{w g:Q}{c d:Nat}{f:Bq}{b:List Nat}(a:MM e w c d f b)(hb:Below w.heap.size w g):MM e g c d f b:=by
 let ⟨h,j,i,n,m,k,o,a,l⟩:=a
 exact⟨h,j,i,n,m,k,o,a.bE hb,l⟩
def BL(i f g:Nat)(a:List Nat)(d:Q)(k:Bq)(j:X)(h:Ending)(e:Q):Prop:=h=F j/\AF a d e/\∃b,MM i e f g k b/\∀c∈b,c∈a\/d.heap.size<=c
theorem BL.drew{d M b:Nat}{a:List Nat}{g:Q}{f:Bq}{e:X}{c:Ending}{h:Q}(j:BL d M b a g f e c h):BL d M b a g f e c h.drew:=
 have ⟨k,l,i,m,n⟩:=j
 ⟨k,l.drew,i,m.bE (Ae _ _).drew,n⟩
theorem H3{e r:X}(a:BH w p s m c nc w8 b i e M wu/\AF y n p/\∀d∈mB s b i M wu,d∈y\/n.heap.size<=d):BL w s m y n c r (F r) p:=⟨rfl,a.2.1,_,⟨_,_,_,_,_,_,_,a.1,rfl⟩,a.2.2⟩
theorem Df.lo{c:Nat}{w w':Q}{e:AX}(d:Df w e m b i s wi w')(l:c<=w.heap.size)(j:∀f∈vB b,c<=f):w'.ownsRow c e m i s wi:=⟨d.own.1,d.own.2.imp id λ⟨a,g,k,e,_,h⟩=>⟨a,g,k,e,(d.nb a (by rw[e,DV];simp)).1.elim (j a) O1,h⟩⟩
theorem JO(a:-9223372036854775808<=o/\o<=9223372036854775807):IntKind.i64.wrap o=o:=by rw[IntKind.wrap_i64];omega
theorem Zc(e f:Nat)(b c a:Int)(d:Q)(j:d.cell? ⟨e,f,N⟩=I (V C b))(k:d.cell? ⟨e,f+1,N⟩=I (V C c))(l:d.frozen? ⟨e,f,N⟩=false)(r:0<=b/\b<=1000000000000)(p:0<=c/\c<=1000000000000)(q:0<=a/\a<=1000000000000):
 Av Aa 100 #[J (I ⟨e,f,N⟩),V C a] d λg i=>(a<=c-b/\g=F (A true)/\i=d.drew.setCell ⟨e,f,N⟩ (V C (b+a)))\/(c-b<a/\g=F (A false)/\i=d.drew):=by
 have m:=j;have n:=k;have o:=l;by_cases h:c-b<a;all_goals
  go_enter Tryz.func100,Tryz.ntmps100;go_wp2;go_region
  go_wp2;go_ret;first|exact .inr ⟨h,rfl,rfl⟩|exact .inl ⟨h,rfl,rfl⟩
structure EV (a:Bq):Prop where
 su:0<=a.su/\a.su<=a.sm
 sm:a.sm<=2000000
 mu:0<=a.mu/\a.mu<=a.mm
 mm:a.mm<=2000000
def CJ(a:Int)(b:Bq):Bq:={b with state:=2,kind:=a}
def DC(a:Bq):Bool:=decide (1<=a.sm-a.su)
def BR(a:Bq):Bq:=if DC a then {a with su:=a.su+1} else CJ 1 a
def Iw(b:Int)(a:Bq):Bool:=decide (b<=a.mm-a.mu)
def Dw(b:Int)(a:Bq):Bq:=if Iw b a then {a with mu:=a.mu+b} else CJ 2 a
theorem IF{d:Nat}(b:Int)(a:MM w n s d c y):
 Av Aa 101 #[J (I ⟨s,0,N⟩),V C b] n λr t=>BL w s d y n (CJ b c) (R #[]) r t:=by
 obtain⟨p,q,e,j,h,f,k,a,rfl⟩:=a;have x:=a.m.at 11 rfl;have z:=a.m.at 12 rfl;have B:=a.m.fz 11;have D:=a.m.fz 12;have l:O9 (MM w ((n.setCell ⟨s,11,N⟩ (V C 2)).setCell ⟨s,12,N⟩ (V C b)) s d (CJ b c) (mB s e j f k)):=by
  have g:=a.cO (i:=11) (st':={c with state:=2}) rfl O1 rfl rfl rfl rfl a.cd;exact⟨p,q,e,j,h,f,k,g.cO (i:=12) (u:=V C b) (st':=CJ b c) (kv':=h) rfl O1 rfl rfl rfl rfl g.cd,rfl⟩
 go_wp2;exact bF ⟨rfl,(AF.refl.set (Ba (Aqu ..)) _).set (Ba (Aqu ..)) _,_,l.o,λv hb=>Ba hb⟩ O2 rfl rfl
theorem BH.drew{g:Nat}{k:Q}{M a:Nat}{h:Bq}{b:List (Cg×X)}{d:List (Gk×X)}{c i f e j:X}(l:BH g k M a h b d c i f e j):BH g k.drew M a h b d c i f e j:=l.bE (Ae _ _).drew
theorem BL.of{lo M Pb:Nat}{r r':X}{e e':Ending}{w':Q}(g:AF y n p)(h:∀b∈nk,b∈y\/n.heap.size<=b)(f:BL lo M Pb nk p c r e w')(i:e'=F r'):BL lo M Pb y n c r' e' w':=
 have ⟨_,j,d,k,hb⟩:=f;have a:=Jz g h ⟨k,j,hb⟩
 ⟨i,a.2.1,d,a.1,a.2.2⟩
theorem MH{e:Nat}(a:MM w n s e c y)(g:EV c):
 Av Aa 50 #[J (I ⟨s,0,N⟩)] n λb p=>BL w s e y n (BR c) (A (DC c)) b p:=by
 obtain⟨q,t,r,B,z,u,D,a,rfl⟩:=a;have v:=g.su;have x:=g.sm;have k:=O0 (Zc s 7 c.su c.sm 1 n (a.m.at 7 rfl) (a.m.at 8 rfl) (a.m.fz 7) O1 O1 O1);have d:=O0 a.drew;have j:=O0 (IF 1 ⟨_,_,_,_,_,_,_,a.drew,rfl⟩);go_enter Tryz.func50,Tryz.ntmps50;go_wp2_with (first
  |(apply k.o.mono;rintro b E (⟨f,rfl,rfl⟩|⟨f,rfl,rfl⟩))
  |(apply j.o.mono;intro b G h;obtain⟨rfl,-⟩:=id h;have i:=O0 h))
 ·have hb:DC c=true:=decide_eq_true f;go_ret;rw[show BR c={c with su:=c.su+1} from if_pos hb,hb];exact H3 ⟨d.o.cO rfl O1 rfl rfl rfl rfl d.o.cd,AF.set (AF.bG (Ae _ _).drew) (.inl (.head _)) _,λl hb=>.inl hb⟩
 ·have hb:DC c=false:=decide_eq_false O1;go_ret;rw[show BR c=CJ 1 c from if_neg (by simp[hb]),hb];exact i.o.of (AF.bG (Ae _ _).drew) (λl hb=>.inl hb) rfl
theorem YI{g:Nat}(a:Int)(B:0<=a/\a<=1000000)(b:MM w n s g c y)(i:EV c):
 Av Aa 211 #[J (I ⟨s,0,N⟩),V C a] n λd q=>BL w s g y n (Dw a c) (A (Iw a c)) d q:=by
 obtain⟨r,u,t,E,D,v,G,b,rfl⟩:=b;have x:=i.mu;have z:=i.mm;have l:=O0 (Zc s 9 c.mu c.mm a n (b.m.at 9 rfl) (b.m.at 10 rfl) (b.m.fz 9) O1 O1 O1);have f:=O0 b.drew;have k:=O0 (IF 2 ⟨_,_,_,_,_,_,_,b.drew,rfl⟩);clear b;go_enter Tryz.func211,Tryz.ntmps211;go_wp2_with (first
  |(apply l.o.mono;rintro d H (⟨h,rfl,rfl⟩|⟨h,rfl,rfl⟩))
  |(apply k.o.mono;intro d K e;obtain⟨rfl,-⟩:=id e;have j:=O0 e;clear e))
 ·have hb:Iw a c=true:=decide_eq_true h;go_ret;rw[show Dw a c={c with mu:=c.mu+a} from if_pos hb,hb];exact H3 ⟨f.o.cO rfl O1 rfl rfl rfl rfl f.o.cd,AF.set (AF.bG (Ae _ _).drew) (.inl (.head _)) _,λp hb=>.inl hb⟩
 ·have hb:Iw a c=false:=decide_eq_false O1;go_ret;rw[show Dw a c=CJ 2 c from if_neg (by simp[hb]),hb];exact j.o.of (AF.bG (Ae _ _).drew) (λp hb=>.inl hb) rfl
theorem RU{a m:Nat}(b:n.ownsRow w wj s (W G a j) a wi)(k:m<=a):n.ownsRow w wj s (W G m j) m (wi.take (m*s)):=by
 have q:m*s<=a*s:=Art _ k;refine⟨by rw[Aqw,b.1];omega,?_⟩;rcases b.2 with⟨c,d⟩|⟨f,l,e,c,d,g,o,h,i,p⟩
 ·grind
 ·right
  cases c;refine⟨f,j,e,rfl,d,g,O1,h,i,?_⟩;grind
theorem Tryz.eu:(Aa.info? 85).map (λa=>(a.zero,a.size,a.bytes))=I (I (V .i32 0),1,4):=O3
theorem Ov:ET 87 85 1 4:=.of Tryz.underlying87 Tryz.eu rfl .refl O1
theorem Aoc(a:List Int)(b:Nat):(BX a).take (b*1)=BX (a.take b):=by simp[BX]
theorem BH.dN{sc:Nat}(a:BH w n s m c nc w8 b (W G (L c.stack) sc) i r M)(hb:j<=L c.stack):n.ownsRow w 85 1 (W G j sc) j (BX (c.stack.take j)):=Aoc ..▸RU a.sk hb
theorem LJ:vB (W G w m)=vB (W G s j):=by cases G<;>rfl
theorem BH.dI{w2:Q}{e sc:Nat}{l:List Int}{v:X}(k:BH w n s e c nc w8 b (W G (L c.stack) sc) i r M)(u:j<=L c.stack)(hb:Below n.heap.size n p)(h:Df p 85 1 (W G j sc) v (j+L l) (BX (c.stack.take j)++BX l) w2):BN w2 s (mL e b (W G (L c.stack) sc) i r M c)/\BH w (w2.setCell ⟨s,2,N⟩ v) s e {c with stack:=c.stack.take j++l} nc w8 b v i r M/\AF (mB s b (W G (L c.stack) sc) r M) n (w2.setCell ⟨s,2,N⟩ v)/\∀f∈mB s b v r M,f∈mB s b (W G (L c.stack) sc) r M\/n.heap.size<=f:=by
 have a:=k.bE hb;have d:vB (W G j sc)=vB (W G (L c.stack) sc):=LJ;have g:=h.af;have q:(c.stack.take j++l).length=j+L l:=by simp[u]
 have y:=a.eF (d▸g) (by rw[q];simpa[BX]using h.lo a.lz λf hb=>(Fc a.sk (d▸hb)).1) λx o=>d▸(h.nb x o).1;exact⟨a.m.bX (g.block s a.m.lt λt=>(Arf.1 k.nd).1 (Ah _ (Ad _ (d▸t)))) g.size,Jz (AF.bG hb) (λ_ hb=>.inl hb) y⟩
theorem BH.gh{bn sc:Nat}(d:BH w n s m c nc w8 b (W G (L c.stack) sc) i r M)(hb:bn<=L c.stack):BH w (n.setCell ⟨s,2,N⟩ (W G bn sc)) s m {c with stack:=c.stack.take bn} nc w8 b (W G bn sc) i r M/\AF (mB s b (W G (L c.stack) sc) r M) n (n.setCell ⟨s,2,N⟩ (W G bn sc))/\∀a∈mB s b (W G bn sc) r M,a∈mB s b (W G (L c.stack) sc) r M\/n.heap.size<=a:=
 d.eF AF.refl (by have:=d.dN hb;grind) λ_ hb=>.inl (LJ▸hb)
theorem QE(a:n.ownsRow w wj j (W G s m) s wi):s<=m/\(G=N->s=0/\m=0):=by
 rcases a.2 with⟨e,f⟩|⟨d,b,c,h,-,-,g,-⟩
 ·grind
 grind
def Ff(b:Int)(a:Bq):Bq:={a with stack:=a.stack++[b]}
theorem Nr{b f:Nat}{e:Bq}(x:Int)(a:MM w n b f e y)(M:(L e.stack)<=5000000000):
 Av Aa 147 #[J (I ⟨b,0,N⟩),V .i32 x] n λp u=>BL w b f y n (Ff x e) (R #[]) p u:=by
 obtain⟨B,E,D,aa,U,G,ab,a,rfl⟩:=a;obtain⟨Y,sc,rfl⟩:=BW a.sk;have q:=a.m.at 2 rfl;have H:=λt=>alloc_old n t _ _ _ q;have j:=O0 (Ib (a.dN (Ac _)));have k:=O0 λw2 v=>a.dI (l:=[x]) (w2:=w2) (v:=v) (Ac _) ((Ae _ n).alloc (Ac _) (.cells #[V .i32 x] 85));clear a;go_enter Tryz.func147,Tryz.ntmps147;go_wp2_with (first
  |(at_builtin;refine HT Ov (j.o.alloc _) (AL n _) (m:=1) (c:=1) (s:=.tmp 8) (x:=.tmp 10) rfl rfl rfl rfl rfl (by intro ac i;simp at i;subst i;rfl) .refl O1 ?_;intro z c ad g;obtain⟨d,h⟩:=k.o _ _ g;have O:=d.at 2 rfl;have K:=d.fz 2;have o:=O0 h;clear g d h))
 exact bF (by have:=H3 (r:=R #[]) o.o;rwa[AQ]at this) O2 rfl rfl
theorem IM(e:n.ownsRow w wj 1 b s wi)(l:0<s):∃c d,b=W (I ⟨c,0,N⟩) s d/\s<=d/\(∀a,a<s->n.cell? ⟨c,a,N⟩=wi[a]?):=by
 rcases e.2 with⟨-,j⟩|⟨c,f,i,h,-,-,g,-⟩
 ·omega
 ·subst h;exact⟨c,f,rfl,g,λa k=>e.cellAt a O1⟩
theorem Kr{w:Q}{M g n c:Nat}(a:Nat)(d:w.cell? ⟨M,2,N⟩=I (W (I ⟨g,0,N⟩) n c))(h:a<n)(i:n<=1000000000000):
 Av Aa 146 #[J (I ⟨M,0,N⟩),V C (a:Int)] w λb e=>b=F (J (I ⟨g,n-1-a,N⟩))/\e=w.drew:=by
 have f:=d;have j:0<=n-1-a:=O1;have k:n-1-a<n:=O1;have l:((n:Int)-1-a).toNat=n-1-a:=O1;go_wp2;go_region
 go_wp2;go_ret;simp
def BQ(b:Nat)(a:Bq):Bq:={a with stack:=a.stack.take (L a.stack-b)}
theorem N4{d:Nat}(b:Nat)(a:MM w n s d c y)(u:b<=L c.stack)(t:(L c.stack)<=1000000000000):
 Av Aa 153 #[J (I ⟨s,0,N⟩),V C (b:Int)] n λf g=>BL w s d y n (BQ b c) (R #[]) f g:=by
 obtain⟨h,j,i,E,B,k,G,a,rfl⟩:=a;obtain⟨D,sc,rfl⟩:=BW a.sk;have q:=(QE a.sk).1;have e:=O0 (H3 (r:=R #[]) (a.gh (bn:=L c.stack-b) O1));have l:=a.m.at 2 rfl;have p:=a.m.fz 2;have v:0<=L c.stack-b:=O1;have x:(L c.stack)-b<=sc:=O1;have z:((L c.stack:Int)-b).toNat=L c.stack-b:=O1;clear a;go_enter Tryz.func153,Tryz.ntmps153;go_wp2;go_region
 all_goals(try go_wp2)
 all_goals
  exact bF e.o.drew O2 rfl rfl
theorem OK{f:Nat}{d:Int}(a:MM w n s f c y)(b:c.stack=wf++[d])(i:(L c.stack)<=1000000000000):
 Av Aa 152 #[J (I ⟨s,0,N⟩)] n λe t=>BL w s f y n (BQ 1 c) (V .i32 d) e t:=by
 have k:=O0 (N4 1 (a.bE (Ae _ _).drew) (by rw[b];simp) i);obtain⟨x,B,z,G,E,D,K,a,rfl⟩:=a;obtain⟨g,v,rfl,-,h⟩:=IM a.sk (by rw[b];simp);have q:(L c.stack)=L wf+1:=by rw[b];simp
 have p:=O0 (Kr 0 (a.m.at 2 rfl) O1 i);have r:n.drew.cell? ⟨g,L c.stack-1-0,N⟩=I (V .i32 d):=by
  show n.cell? _=_;rw[h _ O1,b];simp[BX]
 have H:n.drew.cell? ⟨g,L c.stack-1,N⟩=I (V .i32 d):=r;clear a h b q;go_enter Tryz.func152,Tryz.ntmps152;go_wp2_with (first
  |(apply p.o.mono;rintro e M ⟨rfl,rfl⟩)
  |(apply k.o.mono;intro e O j;obtain⟨rfl,-⟩:=id j;have l:=O0 j))
 go_ret;exact l.o.of (AF.bG (Ae _ _).drew) (λu hb=>Ba hb) rfl
theorem Ue{b:Nat}(a:MM w n s b c y)(l:(L c.stack)<=1000000000000)(hb:0<=c.fr.base/\c.fr.base<=1000000000000):
 Av Aa 149 #[J (I ⟨s,0,N⟩)] n λd e=>d=F (V C ((L c.stack:Int)-1-c.fr.base))/\e=n.drew:=by
 obtain⟨f,h,g,q,o,i,r,a,rfl⟩:=a;obtain⟨p,sc,rfl⟩:=BW a.sk;have j:=a.m.at 2 rfl;have k:=a.m.at 3 rfl;go_wp2;go_region
 go_wp2;go_ret;simp
theorem Tryz.eE:(Aa.info? 153).map (λa=>(a.zero,a.size,a.bytes))=I (I (T #[V .u8 0,V C 0,V .i32 0,V .i32 0,W N 0 0]),5,48):=O3
theorem Adp:ET 86 153 5 48:=.of Tryz.underlying86 Tryz.eE rfl O1 O1
theorem BH.d9{w2:Q}{g:Nat}{x:Cg}{v fv:X}(h:BH w n s g c nc w8 b i r M wu)(t:EC (λa=>w<=a/\a∉mB s b i M wu) n fv x.fields)(hb:Below n.heap.size n p)(f:Df p 153 5 b v (L nc+1) (nc.flatMap DK++DK (x,fv)) w2):BN w2 s (mL g b i r M wu c)/\BH w (w2.setCell ⟨s,1,N⟩ v) s g {c with cells:=c.cells++[x]} (nc++[(x,fv)]) w8 v i r M wu/\AF (mB s b i M wu) n (w2.setCell ⟨s,1,N⟩ v)/\∀a∈mB s v i M wu,a∈mB s b i M wu\/n.heap.size<=a:=by
 have d:=h.bE hb;have j:=d.fq f.af (cs':=nc++[(x,fv)]) (by simpa using f.lo d.lz λa hb=>(Fc d.cl hb).1) (λy e=>by
  rcases Ag.1 e with e|e
  ·exact d.fl y e
  ·obtain rfl:=Aq.1 e;exact t.fr λa k l=>⟨k,hb.block a l⟩) λu o=>(f.nb u o).1
 rw[AJ,h.EI]at j;exact⟨d.m.bX (f.af.block s d.m.lt λq=>(Arf.1 h.nd).1 (Ad _ q)) f.af.size,Jz (AF.bG hb) (λ_ hb=>.inl hb) j⟩
def Mq(b:Cg)(a:Bq):Bq:={a with stack:=a.stack++[(L a.cells:Int)],cells:=a.cells++[b]}
theorem YU{j H:Nat}{e:Bq}(x:Cg)(fv:X)(aa:EC (λb=>w<=b/\b∉y) n fv x.fields)(av:∃E ay c,fv=W E ay c)(d:MM w n j H e y)(aw:(L e.stack)<=5000000000)(au:(L e.cells)<=1000000000):
 Av Aa 212 #[J (I ⟨j,0,N⟩),T #[V .u8 x.kind,V C x.n,V .i32 x.left,V .i32 x.right,fv]] n λK a1=>BL w j H y n (Mq x e) (R #[]) K a1:=by
 obtain⟨fp,ap,ao,rfl⟩:=av;have o:=λa=>(Ae n.heap.size n).alloc (Ac _) a;have af:=O0 λa=>Nr (L e.cells:Int) (d.bE (o a)) aw;obtain⟨a5,a4,an,M⟩:∃k cc,(∀a,(n.alloc a).cell? ⟨j,1,N⟩=I (W k (L e.cells) cc))/\∀b∈y,b<n.heap.size:=by
  obtain⟨p,al,ak,az,ax,am,a0,d,rfl⟩:=d;obtain⟨k,cc,rfl⟩:=BW d.cl;have:(L p)=L e.cells:=by rw[<-d.EI,Ax]
  exact⟨k,cc,λa=>this▸Bn (o a) (d.m.at 1 rfl),λb hb=>(d.rg b hb).2⟩
 have a9:IntKind.i32.wrap (L e.cells:Int)=(L e.cells:Int):=by unfold IntKind.wrap;simp[IntKind.bits,IntKind.signed];omega
 have ai:=O0 aa;have G:=O0 o;have ad:=O0 M;clear d aa o M;go_enter Tryz.func212,Tryz.ntmps212;go_upto_region 2 with(first
  |(go_at_call 147;refine(af.o _).mono ?_;rintro K i ⟨rfl,l,a2,⟨p,al,ak,az,ax,am,a0,g,rfl⟩,t⟩))
 obtain⟨k,cc,rfl⟩:=BW g.cl;have aq:=g.m.at 1 rfl;have a7:=λa=>alloc_old i a _ _ _ aq;have f:=λD v B=>DA (l.block n.heap.size O2 λz=>Atu _ (ad.o _ z)) (Cb n _ _ D v B);have aE:=f 0 _ rfl;have aG:=f 1 _ rfl;have aI:=f 2 _ rfl;have aK:=f 3 _ rfl;have aM:=f 4 _ rfl;have h:=λa D v B=>alloc_old i a _ _ _ (f D v B);have aF:=λa=>h a 0 _ rfl;have aH:=λa=>h a 1 _ rfl;have aJ:=λa=>h a 2 _ rfl;have aL:=λa=>h a 3 _ rfl;have aN:=λa=>h a 4 _ rfl;have a8:(L p)<=1000000000:=by
  have:=congrArg List.length g.EI;rw[Ax]at this;exact this▸au
 have ag:=O0 λ(aj w2:Q) (v:X) (hb:Below i.heap.size i aj) E=>g.d9 (x:=x) (fv:=W fp ap ao) (w2:=w2) (v:=v) (ai.o.fr λb q ar=>⟨⟨q.1,λz=>(t b z).elim q.2 λd=>by simp at d;omega⟩,(l.block b O5 q.2).trans ((G.o _).block b ar)⟩) hb E;have ae:=O0 (Ib g.cl);have ab:=O0 ((AF.bG (G.o _)).trans l λb hb=>.inl hb);have ac:O9 (∀b∈_,b∈y\/n.heap.size<=b):=λb hb=>(t b hb).imp id λd=>by simp at d;omega
 clear an f h g l t;go_region_law
  (first
   |(refine GQ Adp (ae.o.alloc _) (AL i _) (m:=1) (c:=1) (s:=.tmp 16) (x:=.tmp 18) (by simp[A4];done) (by simp[A4];done) rfl rfl rfl (by intro aC Y;simp at Y;rcases Y with rfl|rfl|rfl|rfl|rfl<;>rfl) O1 O1 ?_;intro a3 c aD O;obtain⟨u,U⟩:=ag.o _ _ _ (by first|exact bA|exact bA.drew) O;have aB:=u.at 1 rfl;have a6:=u.fz 1;have ah:=O0 U;clear O u U))
 all_goals(try go_wp2)
 all_goals
  exact bF ((H3 (r:=R #[]) ah.o).of ab.o ac.o rfl) O2 rfl rfl
def G2(b:Cg)(a:Bq):Bq:=if Iw 1 a then Mq b (Dw 1 a) else Dw 1 a
theorem Ym(a:Bq):(Dw 1 a).stack=a.stack/\(Dw 1 a).cells=a.cells:=by unfold Dw;split<;>exact⟨rfl,rfl⟩
theorem M7(b:Cg)(i:X)(v:EC (λa=>w<=a/\a∉y) n i b.fields)(Y:∃ae ad H,i=W ae ad H)(d:MM w n s m c y)(f:EV c)(aa:(L c.stack)<=5000000000)(U:(L c.cells)<=1000000000):
 Av Aa 151 #[J (I ⟨s,0,N⟩),T #[V .u8 b.kind,V C b.n,V .i32 b.left,V .i32 b.right,i]] n λh ag=>BL w s m y n (G2 b c) (R #[]) h ag:=by
 obtain⟨fp,M,K,rfl⟩:=Y;have o:=λq=>(Ae n.heap.size n).alloc .refl q;have D:=O0 λq=>YI 1 O1 (d.bE (o q)) f;have x:O9 (∀a∈y,a<n.heap.size):=by
  obtain⟨ai,ak,aj,an,am,al,ao,d,rfl⟩:=d;exact λa hb=>(d.rg a hb).2
 have G:=O0 v;have u:=O0 o;clear d v o;go_enter Tryz.func151,Tryz.ntmps151;go_wp2_with (first
  |(go_at_call 211;apply (D.o _).mono;rintro h ap ⟨rfl,g,ah,l,k⟩;have e:=λac af ab=>DA (g.block n.heap.size O2 λf=>Atu _ (x.o _ f)) (Cb n _ _ ac af ab);have ar:=e 0 _ rfl;have au:=e 1 _ rfl;have av:=e 2 _ rfl;have aw:=e 3 _ rfl;have ax:=e 4 _ rfl;have r:=O0 ((AF.bG (u.o _)).trans g λa hb=>.inl hb);have t:O9 (∀a∈_,a∈y\/n.heap.size<=a):=λa hb=>(k a hb).imp id λd=>(by simp at d;omega);have z:=O0 (YU b (W fp M K) (G.o.fr λa j O=>⟨⟨j.1,λf=>(k a f).elim j.2 λd=>(by simp at d;omega)⟩,(g.block a O5 j.2).trans ((u.o _).block a O)⟩) ⟨_,_,_,rfl⟩ l (by rw[(Ym c).1];exact aa) (by rw[(Ym c).2];exact U));have B:=O0 l;clear e g k l;cases hrb:Iw 1 c)
  |(go_at_call 212;apply z.o.mono;intro h aq p;obtain⟨rfl,-⟩:=id p;have E:=O0 p;clear p))
 ·rw[show G2 b c=Dw 1 c from if_neg (by simp[hrb])];exact bF ⟨rfl,r.o,_,B.o,t.o⟩ O2 rfl rfl
 ·rw[show G2 b c=Mq b (Dw 1 c) from if_pos hrb];exact bF (E.o.of r.o t.o rfl) O2 rfl rfl
def Gs(c:Int)(a:Bq):Bq:=
 let b:=a.stack.take a.fr.base.toNat++[c]
 match a.BF.getLast? with
 |none=>{a with stack:=b,state:=1}
 |some f=>{a with stack:=b,fr:=f,BF:=a.BF.dropLast}
theorem Acn{g j:Nat}{b:Bq}(x:Int)(d:Nat)(a:MM w n g j b y)(q:b.BF=[])(hb:b.fr.base=(d:Int))(o:d<=L b.stack)(ah:(L b.stack)<=5000000000):
 Av Aa 150 #[J (I ⟨g,0,N⟩),V .i32 x] n λG K=>BL w g j y n (Gs x b) (R #[]) G K:=by
 obtain⟨O,E,U,ap,an,ab,aq,a,rfl⟩:=a;obtain⟨ao,sc,rfl⟩:=BW a.sk;obtain⟨aa,Y,rfl⟩:=BW a.dp;obtain rfl:E=[]:=Arr.1 (a.FA.trans q);have ag:=(QE a.sk).1;have H:=a.m.at 2 rfl;have k:=a.m.at 3 rfl;rw[hb]at k;have ac:=λi=>alloc_old n i _ _ _ H;have ad:=λi=>alloc_old n i _ _ _ k;have u:O9 (Gs x b={b with stack:=b.stack.take d++[x],state:=1}):=by show _=_;simp[Gs,q,hb]
 have z:=O0 (Ib (a.dN o));have B:=O0 λ(D w2:Q) (v:X) (hb:Below n.heap.size n D) p=>a.dI (l:=[x]) (w2:=w2) (v:=v) o hb p;have ai:(0:Int)<=(d:Int):=O1;have aj:(d:Int)<=(sc:Int):=O1;clear a;go_enter Tryz.func150,Tryz.ntmps150;go_upto_region 0 with fail
 go_region_law
  (first
   |(refine GQ Ov (z.o.alloc _) (AL n _) (m:=1) (c:=1) (s:=.tmp 15) (x:=.tmp 17) rfl rfl rfl rfl rfl (by intro ar t;simp at t;subst t;rfl) O1 O1 ?_;intro M c au r;obtain⟨h,e⟩:=B.o _ _ _ (by first|exact bA|exact bA.drew) r;have am:=h.at 2 rfl;have af:=h.fz 2;have al:=e.1.m.at 6 rfl;have ak:=e.1.m.at 11 rfl;have ae:=e.1.m.fz 11;have f:=O0 e;clear r h e))
 all_goals(try go_wp2)
 all_goals
  rw[u.o];exact bF (H3 ⟨f.o.1.cO rfl O1 rfl rfl rfl rfl f.o.1.cd,f.o.2.1.set (.inl (.head _)) _,f.o.2.2⟩) O2 rfl rfl
end Go.Proofs.YtcacpmkdfnmhaaaGreatDoor
namespace Go.Proofs.YtcacpmkdfnmhaaaGreatDoor
open Go.RowKit Go.Sort Go.Lib
variable{w:Nat}{n:World}
def N2(a:ByteArray)(b:Bq):Bool:=decide (L b.text+a.size<=2000)
def Qp(b:ByteArray)(a:Bq):Bq:=if N2 b a then {a with text:=a.text++b.data.toList} else CJ 8 a
theorem Abs(a b:List UInt8):JM (a++b)=JM a++JM b:=by simp[JM]
variable{c:Bq}
theorem Aqg{e j:Nat}{i:List Nat}(s:ByteArray)(a:MM w n e j c i)(b:0<s.size)(aa:s.size<=1000000)(ab:(L c.text)<=2000):
 Av Aa 51 #[J (I ⟨e,0,N⟩),S s] n λk E=>BL w e j i n (Qp s c) (A (N2 s c)) k E:=by
 have r:=O0 (IF 8 a);obtain⟨H,M,K,ae,ad,O,ai,a,rfl⟩:=a;obtain⟨ah,ag,rfl⟩:=BW a.tx;have u:=a.m.at 13 rfl;have q:=O0 (Ib a.tx);have d:=O0 a;clear a;by_cases l:(L c.text)+s.size<=2000
 ·have hb:N2 s c=true:=decide_eq_true l;rw[show Qp s c={c with text:=c.text++s.data.toList} from if_pos hb,hb];have B:¬(2000:Int)<(L c.text:Int)+(s.size:Int):=O1;go_enter Tryz.func51,Tryz.ntmps51;go_wp2_with (first
   |(at_builtin;refine X1 q.o (s:=s) (y:=.tmp 20) (x:=.tmp 21) rfl rfl rfl rfl O1 O1 ?_;intro Y G ak b;have p:=d.o.fi b.af (t':=c.text++s.data.toList) (by rw[Ay,Abs];exact b.lo d.o.lz λt hb=>(Fc d.o.tx hb).1) λD v=>(b.nb D v).1;have g:=b.af.block e d.o.m.lt λz=>(Arf.1 d.o.nd).1 (Ah _ (Ah _ (Ah _ z)));have ac:=DA g u;have U:=(d.o.m.bX g b.af.size).fz 13;have f:=O0 p;clear p b g))
  go_ret;exact H3 f.o
 ·have hb:N2 s c=false:=decide_eq_false l;rw[show Qp s c=CJ 8 c from if_neg (by simp[hb]),hb];have B:(2000:Int)<(L c.text:Int)+(s.size:Int):=O1;go_enter Tryz.func51,Tryz.ntmps51;go_wp2_with (first
   |(go_at_call 101;refine r.o.mono ?_;intro k aj h;obtain⟨rfl,-⟩:=id h;have f:=O0 h;clear h))
  go_ret;exact f.o.of AF.refl (λt hb=>.inl hb) rfl
end Go.Proofs.YtcacpmkdfnmhaaaGreatDoor
namespace Go.Proofs.YtcacpmkdfnmhaaaGreatDoor
open Go.RowKit Go.Sort
variable{n:World}{w:Nat}
theorem AF.FZ{j:Nat}{v:X}(b:v.ownBlock=I w)(a:X):AF (vB v) n (n.setCell ⟨w,j,N⟩ a):=AF.refl.set (Ba (BM.2 b)) a
def G7(b:Int)(a:Bq):Bq:={a with stack:=a.stack.dropLast++[b]}
theorem An6(a:List Int)(c b:Int):(BX (a++[c])).set (L a) (V .i32 b)=BX (a++[b]):=by
 unfold BX;simp
theorem BH.cellAt{y:Nat}{c:Q}{o p:Nat}{a:Bq}{d:List (Cg×X)}{t:List (Gk×X)}{j z x u B:X}(f:BH y c o p a d t j z x u B){r:Nat}(G:r<L a.cells):∃b q fp k i,j=W (I ⟨b,0,N⟩) (L a.cells) q/\c.cell? ⟨b,r*5,N⟩=I (.int .u8 a.cells[r].kind)/\c.cell? ⟨b,r*5+1,N⟩=I (.int C a.cells[r].n)/\c.cell? ⟨b,r*5+2,N⟩=I (.int .i32 a.cells[r].left)/\c.cell? ⟨b,r*5+3,N⟩=I (.int .i32 a.cells[r].right)/\c.cell? ⟨b,r*5+4,N⟩=I (W fp k i)/\EC (λ_=>True) c (W fp k i) a.cells[r].fields:=by
 have v:(L d)=L a.cells:=by rw[<-f.EI,Ax]
 have e:a.cells[r]=d[r].1:=by simp[<-f.EI]
 have l:=f.fl d[r] (Ao _);obtain⟨fp,i,m,-⟩:=id l;rcases f.cl.2 with⟨-,E⟩|⟨b,s,D,w,-⟩
 ·omega
 ·have g:=f.cl;subst w;have h:=MI (size:=5) DK (λ_=>rfl) d r O1;refine⟨b,s,fp,d[r].1.fields.length,i,by rw[v],?_,?_,?_,?_,?_,?_⟩
  ·rw[g.cellAt _ O1,show r*5=r*5+0 by rfl,h 0 O1,e];rfl
  ·rw[g.cellAt _ O1,h 1 O1,e];rfl
  ·rw[g.cellAt _ O1,h 2 O1,e];rfl
  ·rw[g.cellAt _ O1,h 3 O1,e];rfl
  ·rw[g.cellAt _ O1,h 4 .refl];exact congrArg I m
  ·rw[e,<-m];exact l.fr λ_ _ _=>⟨trivial,rfl⟩
end Go.Proofs.YtcacpmkdfnmhaaaGreatDoor
