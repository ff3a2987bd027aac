import Derived.Test.YtnghccjoicmabaaGreatDoorProg
import Derived.WalkSpells
import Derived.WalkLawsBesides
import Derived.Deep.QuietTactic
import Derived.BigQuiet
import Derived.Lib.QuietBelow
import Derived.Deep.AppendLies
import Derived.OneCell
import Derived.Deep.RegionLaw
import Derived.RangeFuncNested
import Derived.ArgAppend
import Derived.Deep.DeepAppendRoom
import Derived.Test.YtnghccjoicmabaaGreatDoorCrcJ
import Derived.Deep.DeepCutAuto
import Derived.Laws.Bits64
import Derived.Lib.Bytealg
set_option maxRecDepth 100000
set_option maxHeartbeats 8000000
open Except renaming error->P
open Go renaming Calls->Adg,TypeId->Ad5,Value->X,World->Q,below_drewN->Aeu,maxLen->Aed,wpList_append_lies->Adl
open Go.ByteArray renaming toList_eq->Adw
open Go.Ending renaming returned->F
open Go.IntKind renaming i64->C
open Go.Obj renaming cells->Adi
open Go.Proofs.Tryz renaming prog->Acs,underlying34->Ae0
open Go.RowKit renaming wrap64->Aer
open Go.Value renaming agg->T,bool->A,int->V,ownBlock->Ad6,pointer->J,slice->W,string->S,tuple->R
open Go.World renaming news_of_block->Adu
open Or renaming inl->Ads,inr->Ad7
namespace Go.Proofs.YtnghccjoicmabaaGreatDoor
open Go.RowKit Go.Sort
variable{w v b d x K:Nat}{n p h:World}{m q j:Value}{w2 se:Bool}{vp:Prop}{M:TypeId}{wb:List Value}{t wg:List Nat}{n9:Option Nat}{x0:Nat->Prop}{w4:Oper}{wj:Act}{vv:Act->World->Prop}{w6:Exit->Act->World->Prop}{wc:Array Oper}{sg:List Oper}{wp:Program}{x2:Func}{x3:Ending->World->Prop}{xs:Exit}{s wn:ByteArray}{wd ve:Type}{y:List ByteArray}{nh:ByteArray×Nat}
def CV(a:Int):Bool:=decide (97<=a) && decide (a<=122)
def HG(a:Int):Bool:=decide (48<=a) && decide (a<=57)
theorem Fi(a:Int)(b:Q):Adg Acs 166 #[V .u8 a] b λc d=>c=F (A (CV a))/\d=b:=by
 go_wp2;all_goals go_ret
 all_goals simp_all[CV]
 omega
theorem Nt(a:Int)(b:Q):Adg Acs 167 #[V .u8 a] b λc d=>c=F (A (HG a))/\d=b:=by
 go_wp2;all_goals go_ret
 all_goals simp_all[HG]
 omega
def ZD(b a:Int):Int:=if b=15 then a.tmod 256 else a
theorem Pk(c b:Int)(d:X)(a:Q):
 Adg Acs 182 #[T #[V C c,V C b,d]] a λe f=>e=F (V C (ZD c b))/\Below a.heap.size a f:=by
 go_wp2;all_goals go_ret
 all_goals refine⟨?_,bA⟩
 all_goals simp_all[ZD]
structure G7 where
 tag:Int
 «to»:Int
structure Bp where
 op:Int
 a:Int
 alts:List G7
structure IK where
 name:ByteArray
 arity:Int
structure CH where
 name:ByteArray
 arity:Int
 exp:Bool
 code:List Bp
structure J8 where
 name:ByteArray
 AA:List IK
 Aq:List CH
def short(a:Nat):Prop:=a<140737488355328
theorem short.le(a:short w):w<140737488355328:=a
def Du(f:Q)(h:X)(b:List G7):Prop:=
 ∃e g,h=W e b.length g/\short b.length/\∀a (i:a<b.length),∃c d,e=some ⟨c,d,none⟩/\f.cell? ⟨c,d+a*2,none⟩=some (.int C b[a].tag)/\f.cell? ⟨c,d+a*2+1,none⟩=some (.int C b[a].to)
def Eh(f:Q)(j:X)(c:List Bp):Prop:=
 ∃h i,j=W h c.length i/\short c.length/\∀b (k:b<c.length),∃d e g,h=some ⟨d,e,none⟩/\f.cell? ⟨d,e+b*3,none⟩=some (.int C c[b].op)/\f.cell? ⟨d,e+b*3+1,none⟩=some (.int C c[b].a)/\f.cell? ⟨d,e+b*3+2,none⟩=some g/\Du f g c[b].alts
def EN(f:Q)(h:X)(b:List IK):Prop:=
 ∃e g,h=W e b.length g/\short b.length/\∀a (i:a<b.length),∃c d,e=some ⟨c,d,none⟩/\f.cell? ⟨c,d+a*2,none⟩=some (.string b[a].name)/\f.cell? ⟨c,d+a*2+1,none⟩=some (.int C b[a].arity)/\b[a].name.size<=Aed
def Fx(e:Q)(i:X)(b:List CH):Prop:=
 ∃g h,i=W g b.length h/\short b.length/\∀a (j:a<b.length),∃c d f,g=some ⟨c,d,none⟩/\e.cell? ⟨c,d+a*4,none⟩=some (.string b[a].name)/\e.cell? ⟨c,d+a*4+1,none⟩=some (.int C b[a].arity)/\e.cell? ⟨c,d+a*4+2,none⟩=some (.bool b[a].exp)/\e.cell? ⟨c,d+a*4+3,none⟩=some f/\Eh e f b[a].code/\b[a].name.size<=Aed
def GF(d:Q)(e:X)(a:J8):Prop:=
 ∃c b,e=T #[S a.name,c,b]/\a.name.size<=Aed/\EN d c a.AA/\Fx d b a.Aq
theorem Aa(d:Below n.heap.size n p){a:Addr}{c:X}(b:n.cell? a=some c):p.cell? a=some c:=by
 rw[d.cell (Adt b)];exact b
theorem FA{d:Q}(e:Below n.heap.size n d):(∀a b,a<n.heap.size->d.cell? ⟨a,b,none⟩=n.cell? ⟨a,b,none⟩)/\(∀a b,a<n.heap.size->d.frozen? ⟨a,b,none⟩=n.frozen? ⟨a,b,none⟩):=
 ⟨λa b c=>e.cell (p:=⟨a,b,none⟩) c,λa b c=>e.frozen (p:=⟨a,b,none⟩) c⟩
theorem Du.cJ{w:Q}(a:Below w.heap.size w n){c:X}{b:List G7}(h:Du w c b):Du n c b:=by
 let ⟨q,e,f,m,k⟩:=h
 refine⟨q,e,f,m,λp l=>?_⟩;let ⟨d,o,g,i,j⟩:=k p l
 exact⟨d,o,g,Aa a i,Aa a j⟩
theorem Eh.cJ{w d:Q}(a:Below w.heap.size w d){c:X}{b:List Bp}(j:Eh w c b):Eh d c b:=by
 let ⟨t,g,h,r,p⟩:=j
 refine⟨t,g,h,r,λs q=>?_⟩;let ⟨f,o,e,i,k,l,m,n⟩:=p s q
 exact⟨f,o,e,i,Aa a k,Aa a l,Aa a m,n.cJ a⟩
theorem EN.cJ{w:Q}(a:Below w.heap.size w n){c:X}{b:List IK}(h:EN w c b):EN n c b:=by
 let ⟨r,e,f,p,l⟩:=h
 refine⟨r,e,f,p,λq m=>?_⟩;let ⟨d,o,g,i,j,k⟩:=l q m
 exact⟨d,o,g,Aa a i,Aa a j,k⟩
theorem Fx.cJ{w d:Q}(a:Below w.heap.size w d){c:X}{b:List CH}(j:Fx w c b):Fx d c b:=by
 let ⟨v,f,h,t,r⟩:=j
 refine⟨v,f,h,t,λu s=>?_⟩;let ⟨e,o,g,i,k,l,m,n,p,q⟩:=r u s
 exact⟨e,o,g,i,Aa a k,Aa a l,Aa a m,Aa a n,p.cJ a,q⟩
theorem GF.cJ{w d:Q}(b:Below w.heap.size w d){c:X}{a:J8}(g:GF w c a):GF d c a:=by
 let ⟨k,f,e,j,i,h⟩:=g
 exact⟨k,f,e,j,i.cJ b,h.cJ b⟩
def UA(e:Q)(f:Option Addr)(c:List G7):Prop:=
 ∀a (g:a<c.length),∃b d,f=some ⟨b,d,none⟩/\e.cell? ⟨b,d+a*2,none⟩=some (.int C c[a].tag)/\e.cell? ⟨b,d+a*2+1,none⟩=some (.int C c[a].to)
def YD(f:Q)(j:Option Addr)(d:List Bp):Prop:=
 ∀b (k:b<d.length),∃c e i h g,j=some ⟨c,e,none⟩/\f.cell? ⟨c,e+b*3,none⟩=some (.int C d[b].op)/\f.cell? ⟨c,e+b*3+1,none⟩=some (.int C d[b].a)/\f.cell? ⟨c,e+b*3+2,none⟩=some (W i h g)/\Du f (W i h g) d[b].alts
def YP(e:Q)(f:Option Addr)(b:List IK):Prop:=
 ∀a (g:a<b.length),∃c d,f=some ⟨c,d,none⟩/\e.cell? ⟨c,d+a*2,none⟩=some (.string b[a].name)/\e.cell? ⟨c,d+a*2+1,none⟩=some (.int C b[a].arity)/\b[a].name.size<=Aed
def Xu(e:Q)(h:Option Addr)(b:List CH):Prop:=
 ∀a (i:a<b.length),∃c d g f cc,h=some ⟨c,d,none⟩/\e.cell? ⟨c,d+a*4,none⟩=some (.string b[a].name)/\e.cell? ⟨c,d+a*4+1,none⟩=some (.int C b[a].arity)/\e.cell? ⟨c,d+a*4+2,none⟩=some (.bool b[a].exp)/\e.cell? ⟨c,d+a*4+3,none⟩=some (W g f cc)/\Eh e (W g f cc) b[a].code/\b[a].name.size<=Aed
variable{w8:List G7}
theorem Du.open(h:Du n m w8):∃a b,m=W a w8.length b/\w8.length<140737488355328/\∀c,Below n.heap.size n c->UA c a w8:=by
 let ⟨a,b,f,o,k⟩:=h
 refine⟨a,b,f,o.le,λc d p l=>?_⟩;let ⟨e,q,g,i,j⟩:=k p l
 exact⟨e,q,g,Aa d i,Aa d j⟩
variable{wz:List Bp}
theorem Eh.open(k:Eh n m wz):∃b c,m=W b wz.length c/\wz.length<140737488355328/\∀d,Below n.heap.size n d->YD d b wz:=by
 let ⟨b,c,i,s,q⟩:=k
 refine⟨b,c,i,s.le,λd a t r=>?_⟩;let ⟨h,u,v,j,l,o,p,e⟩:=q t r
 obtain⟨g,f,rfl,-,-⟩:=id e;exact⟨h,u,g,_,f,j,Aa a l,Aa a o,Aa a p,e.cJ a⟩
variable{v0:List IK}
theorem EN.open(h:EN n m v0):∃a b,m=W a v0.length b/\v0.length<140737488355328/\∀c,Below n.heap.size n c->YP c a v0:=by
 let ⟨a,b,f,p,l⟩:=h
 refine⟨a,b,f,p.le,λc d q o=>?_⟩;let ⟨e,r,g,i,j,k⟩:=l q o
 exact⟨e,r,g,Aa d i,Aa d j,k⟩
variable{xk:List CH}
theorem Fx.open(j:Fx n m xk):∃b c,m=W b xk.length c/\xk.length<140737488355328/\∀d,Below n.heap.size n d->Xu d b xk:=by
 let ⟨b,c,h,t,r⟩:=j
 refine⟨b,c,h,t.le,λd a u s=>?_⟩;let ⟨f,v,w,i,k,l,o,p,e,q⟩:=r u s
 obtain⟨g,cc,rfl,-,-⟩:=id e;exact⟨f,v,g,_,cc,i,Aa a k,Aa a l,Aa a o,Aa a p,e.cJ a,q⟩
theorem LG(a:w2=se):Ending.returned (A w2)=F (A se):=by rw[a]
theorem Ak(d:Q)(b:Array X)(f:Ad5)(a:Nat)(c:X)(e:b[a]?=some c):(d.alloc (.cells b f)).cell? ⟨d.heap.size,a,none⟩=some c:=by
 simp[e]
theorem alloc_old(f:Q)(d:Obj)(a c:Nat)(e:X)(b:f.cell? ⟨a,c,none⟩=some e):(f.alloc d).cell? ⟨a,c,none⟩=some e:=by
 rw[((Acv _ _).alloc .refl d).cell (Adt b)];exact b
theorem Pp(a:Nat)(c e:Int)(d:X)(f g:Int)(b:Q)(s:a<21)(j:b.cell? ⟨20,a*7+5,none⟩=some (V C f))(k:b.cell? ⟨20,a*7+6,none⟩=some (V C g)):
 Adg Acs 141 #[T #[V C a,V C c,d],V C e] b λi m=>i=F (V C (IntKind.i64.wrap (IntKind.i64.wrap (e+f)+IntKind.i64.wrap (g*ZD a c))))/\Below b.heap.size b m:=by
 have n:=cell_regrown (Ak b #[V C a,V C c,d] 65 0 _ rfl);have o:=cell_regrown (Ak b #[V C a,V C c,d] 65 1 _ rfl);have p:=cell_regrown (Ak b #[V C a,V C c,d] 65 2 _ rfl);have q:=cell_regrown (alloc_old b (.cells #[V C a,V C c,d] 65) _ _ _ j);have r:=cell_regrown (alloc_old b (.cells #[V C a,V C c,d] 65) _ _ _ k);have t:(0:Int)<=(a:Int):=by omega
 have u:(a:Int)<21:=by omega
 go_enter Tryz.func141,Tryz.ntmps141;go_wp2;refine wp_region_quiet_below rfl (by kernel_rfl) ?_;repeat (quiet_step (first|(go_at_call 182;exact Calls.regrown_of (Pk _ _ _ _))))
 refine wpQuiet_nil ?_;intro _ hw';let ⟨⟨h,l⟩,hw''⟩:=hw'
 subst hw'';go_wp2;go_ret;exact⟨rfl,bA.trans ((below_regrown _ h l).mono (by simp))⟩
def DE:List Int:=[1,0,0,0,0,1,0,
 2,0,65535,0,0,1,0,
 2,0,1000,1,1,1,0,
 0,0,0,2,0,-1,0,
 2,0,1000,1,1,0,-1,
 2,0,1000,2,1,-1,0,
 2,0,1000,0,1,0,-1,
 2,1,1000,0,0,0,1,
 0,0,0,1,0,0,0,
 0,0,0,2,0,-1,0,
 0,0,0,2,0,-1,0,
 0,0,0,2,0,-1,0,
 0,0,0,2,0,-1,0,
 0,0,0,2,0,-1,0,
 0,0,0,2,0,-1,0,
 2,0,65535,0,1,1,-1,
 2,0,255,1,0,-1,1,
 3,0,0,1,0,0,0,
 2,0,65535,0,0,0,0,
 0,0,0,1,0,0,0,
 0,0,0,0,0,0,0]
def Fh(b a:Nat):Int:=DE.getD (b*7+a) 0
def GD(b:Q):Prop:=∀a,a<147->b.cell? ⟨20,a,none⟩=some (V C (DE.getD a 0))
theorem GD.cJ{w:Q}(b:Below w.heap.size w n)(a:GD w):GD n:=λd c=>Aa b (a d c)
theorem GD.row(b:GD n)(a j:Nat)(d:a<21)(c:j<7):n.cell? ⟨20,a*7+j,none⟩=some (V C (Fh a j)):=b _ (by omega)
def TI(a:Nat)(b c:Int):Int:=Aer (Aer (c+Fh a 5)+Aer (Fh a 6*ZD a b))
theorem Po(a:Nat)(c d:Int)(f:X)(b:Q)(e:a<21)(h:GD b):
 Adg Acs 141 #[T #[V C a,V C c,f],V C d] b λg i=>g=F (V C (TI a c d))/\Below b.heap.size b i:=
 (Pp a c d f _ _ b e (h.row a 5 e (by omega)) (h.row a 6 e .refl)).mono λg i ⟨k,j⟩=>⟨by rw[k];simp[IntWalk.i64_left,TI],j⟩
theorem hid(a:vp):Hid vp:=a
theorem Tryz.fd:(Acs.info? 3).map (λa=>(a.zero,a.size,a.bytes))=some (some (V C 0),1,8):=by kernel_rfl
theorem AL(a:Q)(e:X)(g:Ad5)(b:Nat)(f:a.heap.size=b):∀c d,[e][c]?=some d->(a.alloc (.cells #[e] g)).cell? ((⟨b,0,none⟩:Addr).add c)=some d:=by
 subst f;exact Adu (Adp a _)
theorem Gg{f:Type}(b c:f->X):∀d:List f,(d.flatMap λe=>[b e,c e]).length=d.length*2
 |[]=>rfl
 |a::r=>by simp only[Adh,Adk,Aea,Ae5,Gg b c r];omega
theorem LJ{h:Type}(c d e f:h->X):∀g:List h,(g.flatMap λb=>[c b,d b,e b,f b]).length=g.length*4
 |[]=>rfl
 |a::r=>by simp only[Adh,Adk,Aea,Ae5,LJ c d e f r];omega
theorem Co{f:Type}(c d:f->X):∀(e:List f) i h,(e.flatMap λb=>[c b,d b])[i*2]?=some (c e[i])/\(e.flatMap λb=>[c b,d b])[i*2+1]?=some (d e[i])
 |a::r,0,_=>by simp
 |a::r,i+1,h=>by
  have:=Co c d r i (by simpa using h);grind
theorem EX{g:Type}(d e f:g->X):∀(c:List g) i h,(c.flatMap λb=>[d b,e b,f b])[i*3]?=some (d c[i])/\(c.flatMap λb=>[d b,e b,f b])[i*3+1]?=some (e c[i])/\(c.flatMap λb=>[d b,e b,f b])[i*3+2]?=some (f c[i])
 |a::r,0,_=>by simp
 |a::r,i+1,h=>by
  have:=EX d e f r i (by simpa using h);grind
theorem C7{j:Type}(d e f g:j->X):∀(c:List j) i h,(c.flatMap λb=>[d b,e b,f b,g b])[i*4]?=some (d c[i])/\(c.flatMap λb=>[d b,e b,f b,g b])[i*4+1]?=some (e c[i])/\(c.flatMap λb=>[d b,e b,f b,g b])[i*4+2]?=some (f c[i])/\(c.flatMap λb=>[d b,e b,f b,g b])[i*4+3]?=some (g c[i])
 |a::r,0,_=>by simp
 |a::r,i+1,h=>by
  have:=C7 d e f g r i (by simpa using h);grind
theorem IL{P:Program}(b:Q)(a j e:Ad5)(f:TypeInfo)(i:P.underlying a=some (.slice e))(h:P.info? e=some f)(c:Addr)(d:Nat):
 (Builtin.append_ #[a,a] j #[W none 0 0,W (some c) 0 d]).run P b=.ok (W none 0 0) b:=by
 have g:=run_firstCells_some (P:=P) b f.size 0 c 0 d [] (by simp) nofun;simp[Builtin.append_,run_underlying i,sizeOf,typeInfo,h,Builtin.lenOf,g]
theorem Pj(a:n.ownsRow w M v (W (some ⟨b,0,none⟩) d x) d wb):b<n.heap.size/\w<=b/\d<=x:=by
 rcases a.2 with⟨c,-⟩|⟨g,e,f,k,h,i,j,-⟩
 ·cases c
 grind
theorem Jh(a:Q)(c:Array X)(d:Ad5)(b:Nat):(a.alloc (.cells c d)).frozen? ⟨a.heap.size,b,none⟩=false:=by simp
theorem Dh(c:n.ownsRow w M v m b wb)(a:Below n.heap.size n p):p.ownsRow w M v m b wb:=
 c.kept (row:=none) ⟨a.os,a.tape,a.output,a.size,λe d _=>a.block e d⟩ (by grind)
theorem Ad(c:n.ownsRow w M v m b wb):∃d a,m=W d b a:=by
 rcases c.2 with⟨rfl,rfl⟩|⟨g,e,f,rfl,-⟩<;>exact⟨_,_,rfl⟩
theorem Lb(c:n.ownsRow b M v m w wb):∀a,m.ownBlock=some a->a<n.heap.size:=λa d=>(c.lt a d).2
def Fr(b:List Nat)(c d:Q):Prop:=∀a∈b,d.heap[a]?=c.heap[a]?
theorem Fr.refl(bs:List Nat)(a:Q):Fr bs a a:=λ_ _=>rfl
theorem Fr.trans{a:List Nat}{d e f:Q}(g:Fr a d e)(h:Fr a e f):Fr a d f:=λb c=>(h b c).trans (g b c)
theorem Fr.sub(b:Fr t n p)(d:∀a∈wg,a∈t):Fr wg n p:=λa c=>b a (d a c)
def vB(v:X):List Nat:=v.ownBlock.toList
theorem Ah:w∈vB m↔m.ownBlock=some w:=by
 unfold vB;simp
theorem An(a n c:Nat):vB (W (some ⟨a,0,none⟩) n c)=[a]:=rfl
theorem EM(b a:Nat):vB (W none b a)=[]:=rfl
theorem Az(c:n.ownsRow w M v m b wb)(g:Fr (vB m) n p):p.ownsRow w M v m b wb:=by
 refine⟨c.1,?_⟩;rcases c.2 with h|⟨a,d,e,rfl,f,j,i⟩
 ·exact .inl h
 ·refine .inr ⟨a,d,e,rfl,f,?_,i⟩;rw[g a (by simp[vB,Ad6])];omega
section
variable {α:Type} (cells:α->List Value) (sub:α->List Nat) (ok:World->α->Prop) (e:TypeId) (size:Nat)
def AJ(a:X)(b:List α):List Nat:=vB a++b.flatMap sub
structure AZ (d:Q) (f:Nat) (c:X) (a:List α):Prop where
 own:d.ownsRow 0 e size c a.length (a.flatMap cells)
 it:∀x∈a,ok d x
 nd:(AJ sub c a).Nodup
 rg:∀b∈AJ sub c a,f<=b/\b<d.heap.size
variable {cells:α->List Value} {sub:α->List Nat} {ok:World->α->Prop} {e:TypeId} {size:Nat}
def FI(sub:α->List Nat)(ok:Q->α->Prop):Prop:=∀a b c,ok a c->a.heap.size<=b.heap.size->Fr (sub c) a b->ok b c
theorem AZ.nil(c:Q)(b:Nat):AZ cells sub ok e size c b (W none 0 0) ([]:List α):=
 ⟨Ad1 _ _ _ _,(λ_ a=>absurd a nofun),(by simp[AJ,EM]),(λd a=>absurd a nofun)⟩
theorem AZ.fr(l:FI sub ok){c w':Q}{k:Nat}{f:X}{h:List α}(b:AZ cells sub ok e size c k f h)(m:c.heap.size<=w'.heap.size)(i:Fr (AJ sub f h) c w'):AZ cells sub ok e size w' k f h:=by
 refine⟨Az b.own (i.sub λd a=>Acw _ a),λg j=>l c w' g (b.it g j) m (i.sub λd a=>Acx _ (Ada.2 ⟨g,j,a⟩)),b.nd,λd a=>?_⟩;have:=b.rg d a;omega
theorem AZ.cJ(j:FI sub ok){w g:Q}{d:Nat}{f:X}{h:List α}(b:AZ cells sub ok e size w d f h)(c:Below w.heap.size w g):AZ cells sub ok e size g d f h:=
 b.fr j c.size λa i=>c.block a (b.rg a i).2
theorem AZ.low{b:List α}(a:AZ cells sub ok e size n w m b)(f:v<=w):AZ cells sub ok e size n v m b:=
 ⟨a.own,a.it,a.nd,λc d=>by have:=a.rg c d;omega⟩
theorem AZ.slice{v:X}{xs:List α}(b:AZ cells sub ok e size n w v xs):∃c a,v=W c xs.length a:=Ad b.own
theorem AZ.push(v:FI sub ok){d w1 k:Q}{o:Nat}{j:X}{f:List α}(g:AZ cells sub ok e size d o j f)(M:o<=d.heap.size)(B:Fr (AJ sub j f) d w1)(K:d.heap.size<=w1.heap.size){x:α}(L:ok w1 x)(m:∀b∈sub x,d.heap.size<=b/\b<w1.heap.size)(H:(sub x).Nodup)(l:w1.grownBy k j.ownBlock){c p s:Nat}(G:p=f.length+1)(q:j.ownBlock=some c\/c=w1.heap.size)(N:c<k.heap.size)(I:k.ownsRow 0 e size (W (some ⟨c,0,none⟩) p s) p (f.flatMap cells++cells x)):AZ cells sub ok e size k o (W (some ⟨c,0,none⟩) p s) (f++[x]):=by
 subst G;have n:∀b∈f.flatMap sub,o<=b/\b<d.heap.size/\j.ownBlock≠some b:=by
  intro b a;have h:=g.rg b (Acx _ a);refine⟨h.1,h.2,λe=>?_⟩;exact(Aee.1 g.nd).2.2 b (Ah.2 e) b a rfl
 have u:∀b∈sub x,j.ownBlock≠some b:=λb a e=>by
  have h:=g.rg b (Acw _ (Ah.2 e));have w:=m b a;omega
 have E:c∉sub x:=λa=>by
  rcases q with e|e
  ·exact u c a e
  ·have:=m c a;omega
 have D:c∉f.flatMap sub:=λa=>by
  rcases q with e|e
  ·exact(n c a).2.2 e
  ·have:=n c a;omega
 refine⟨?_,λy i=>?_,?_,λb a=>?_⟩
 ·rw[Adk,Ado];simpa using I
 ·rcases Acz.1 i with i|i
  ·refine v d k y (g.it y i) (Ac5 K l.size) λb a=>?_;have t:=Ada.2 ⟨y,i,a⟩;have h:=n b t;rw[l.block b (by omega) (λe=>h.2.2 e.symm)];exact B b (Acx _ t)
  ·obtain rfl:=Ac9.1 i;refine v w1 k y L l.size λb a=>l.block b (m b a).2 (λe=>u b a e.symm)
 ·unfold AJ;rw[An,Ado,Adh,Ae1,Ad8,Acr,Ahd,Acz,Aee];refine⟨λa=>a.elim D E,(Aee.1 g.nd).2.1,H,λr z b a e=>?_⟩;subst e;have h:=n r z;have w:=m r a;omega
 ·unfold AJ at a;rw[An,Ado,Adh,Ae1,Ad8]at a;have O:=l.size;rcases Acz.1 a with a|a
  ·obtain rfl:=Ac9.1 a;rcases q with e|e
   ·have:=g.rg b (Acw _ (Ah.2 e));omega
   ·omega
  ·rcases Acz.1 a with a|a
   ·have:=n b a;omega
   ·have:=m b a;omega
end
def FG(a:G7):List X:=[V C a.tag,V C a.to]
def VA(a:IK):List X:=[S a.name,V C a.arity]
def ER(b:Bp×X):List X:=[V C b.1.op,V C b.1.a,b.2]
abbrev Es:=List (Bp×X)
abbrev U6:=List (CH×X×Es)
def QT(a:CH×X×Es):List X:=[S a.1.name,V C a.1.arity,A a.1.exp,a.2.1]
abbrev Zu{α:Type}:α->List Nat:=λ_=>[]
abbrev Oj:=AZ FG Zu (λ_ _=>True) 68 2
abbrev Ux:=AZ VA Zu (λ_ _=>True) 55 2
theorem Aab:FI (Zu (α:=G7)) (λ_ _=>True):=λ_ _ _ _ _ _=>trivial
def AP(a:Bp×X):List Nat:=AJ (Zu (α:=G7)) a.2 a.1.alts
def Vv(b:Q)(a:Bp×X):Prop:=Oj b 0 a.2 a.1.alts
theorem Vu:FI AP Vv:=λ_ _ _ a c b=>a.fr Aab c b
abbrev QL:=AZ ER AP Vv 65 3
def AH(a:CH×X×Es):List Nat:=AJ AP a.2.1 a.2.2
def Qf(b:Q)(a:CH×X×Es):Prop:=QL b 0 a.2.1 a.2.2/\a.2.2.map (·.1)=a.1.code
theorem O6:FI AH Qf:=λ_ _ _ a c b=>⟨a.1.fr Vu c b,a.2⟩
abbrev L8:=AZ QT AH Qf 59 4
theorem FL(d:n.ownsRow 0 M w m v wb):(m=W none 0 0/\v=0)\/∃a c,m=W (some ⟨a,0,none⟩) v c/\a<n.heap.size/\∀b,b<v*w->n.cell? ⟨a,b,none⟩=wb[b]?:=by
 rcases d.2 with⟨g,h⟩|⟨a,c,f,rfl,i,j,k⟩
 ·grind
 ·exact Ad7 ⟨a,c,rfl,(Pj d).1,λb e=>d.cellAt b e⟩
theorem Oj.at{w:Q}{l:Nat}(j:Oj w l m w8)(d:short w8.length):Du w m w8:=by
 rcases FL j.own with⟨rfl,k⟩|⟨i,f,rfl,-,c⟩
 ·obtain rfl:w8=[]:=Aeo k;exact⟨none,0,rfl,d,λe a=>absurd a nofun⟩
 ·refine⟨_,f,rfl,d,λe a=>⟨i,0,rfl,?_⟩⟩;let ⟨g,h⟩:=Co (λb:G7=>Value.int C b.tag) (λb=>Value.int C b.to) w8 e a
  rw[Aey,c _ (by omega),c _ (by omega)];exact⟨g,h⟩
theorem Ux.at{w:Q}{l:Nat}(k:Ux w l m v0)(e:short v0.length)(c:∀a∈v0,a.name.size<=Aed):EN w m v0:=by
 rcases FL k.own with⟨rfl,c⟩|⟨j,g,rfl,-,d⟩
 ·obtain rfl:v0=[]:=Aeo c;exact⟨none,0,rfl,e,λf b=>absurd b nofun⟩
 ·refine⟨_,g,rfl,e,λf b=>⟨j,0,rfl,?_⟩⟩;let ⟨h,i⟩:=Co (λa:IK=>Value.string a.name) (λa=>Value.int C a.arity) v0 f b
  rw[Aey,d _ (by omega),d _ (by omega)];exact⟨h,i,c _ (Ac8 b)⟩
theorem QL.at{w:Q}{q:Nat}{j:X}{b:Es}(h:QL w q j b)(i:short b.length)(o:∀c∈b,short c.1.alts.length):Eh w j (b.map (·.1)):=by
 rcases FL h.own with⟨rfl,p⟩|⟨g,k,rfl,-,e⟩
 ·obtain rfl:b=[]:=Aeo p;exact⟨none,0,rfl,i,λf d=>absurd d nofun⟩
 ·refine⟨some ⟨g,0,none⟩,k,by simp,by simpa using i,λf d=>?_⟩;rw[Adf]at d;refine⟨g,0,b[f].2,rfl,?_⟩;let ⟨l,m,n⟩:=EX (λc:Bp×X=>Value.int C c.1.op) (λc=>Value.int C c.1.a) (λc=>c.2) b f d
  rw[Aey,e _ (by omega),e _ (by omega),e _ (by omega),Aep];exact⟨l,m,n,(h.it _ (Ac8 d)).at (o _ (Ac8 d))⟩
theorem L8.at{w:Q}{v:Nat}{i:X}{b:U6}(g:L8 w v i b)(h:short b.length)(t:∀a∈b,short a.2.2.length/\a.1.name.size<=Aed/\∀x∈a.2.2,short x.1.alts.length):Fx w i (b.map (·.1)):=by
 rcases FL g.own with⟨rfl,u⟩|⟨f,m,rfl,-,d⟩
 ·obtain rfl:b=[]:=Aeo u;exact⟨none,0,rfl,h,λe c=>absurd c nofun⟩
 ·refine⟨some ⟨f,0,none⟩,m,by simp,by simpa using h,λe c=>?_⟩;rw[Adf]at c;refine⟨f,0,b[e].2.1,rfl,?_⟩;let ⟨n,o,p,q⟩:=C7 (λa:CH×X×Es=>Value.string a.1.name) (λa=>Value.int C a.1.arity) (λa=>Value.bool a.1.exp) (λa=>a.2.1) b e c
  let ⟨r,s⟩:=g.it _ (Ac8 c)
  let ⟨j,k,l⟩:=t _ (Ac8 c)
  rw[Aey,d _ (by omega),d _ (by omega),d _ (by omega),d _ (by omega),Aep];refine⟨n,o,p,q,?_,k⟩;rw[<-s];exact r.at j l
structure AF (X:List Nat) (a b:Q):Prop where
 os:b.os=a.os
 tape:b.tape=a.tape
 output:b.output=a.output
 size:a.heap.size<=b.heap.size
 block:∀k,k<a.heap.size->k∉X->b.heap[k]?=a.heap[k]?
theorem AF.cI{X:List Nat}(a:Below n.heap.size n p):AF X n p:=⟨a.os,a.tape,a.output,a.size,λc b _=>a.block c b⟩
theorem AF.refl{b:List Nat}{a:Q}:AF b a a:=.cI (Acv _ _)
theorem AF.trans{d f:List Nat}{e i j:Q}(a:AF d e i)(c:AF f i j)(k:∀b∈f,b∈d\/e.heap.size<=b):AF d e j:=
 ⟨c.os.trans a.os,c.tape.trans a.tape,c.output.trans a.output,Ac5 a.size c.size,λb h g=>(c.block b (Ac2 h a.size) λl=>(k b l).elim g (by omega)).trans (a.block b h g)⟩
theorem AF.then{X:List Nat}(b:AF X n p)(a:Below p.heap.size p h):AF X n h:=b.trans (AF.cI (X:=[]) a) λ_ a=>by cases a
theorem AF.mono(a:AF t n p)(g:∀c∈t,c∈wg):AF wg n p:=⟨a.os,a.tape,a.output,a.size,λb e d=>a.block b e λf=>d (g b f)⟩
theorem AF.set{b j:Nat}(a:AF t n p)(g:b∈t\/n.heap.size<=b)(u:X):AF t n (p.setCell ⟨b,j,none⟩ u):=
 ⟨a.os,a.tape,a.output,by simpa using a.size,λc e d=>(Ac4 _ _ _ _ (show c≠b from λf=>by grind)).trans (a.block c e d)⟩
theorem AF.low(a:AF t n p)(d:∀b∈t,w<=b)(g:w<=n.heap.size):Below w n p:=⟨a.os,a.tape,a.output,a.size,λc e=>a.block c (by omega) λf=>by grind⟩
theorem AF.cell{b:List Nat}{e f:Q}{d:X}(g:AF b e f){a:Addr}(c:e.cell? a=some d)(h:a.block∉b):f.cell? a=some d:=by
 rw[Ac1 (g.block a.block (Adt c) h)];exact c
theorem AF.drew(a:AF t n p):AF t n p.drew:=⟨a.os,a.tape,a.output,a.size,a.block⟩
def Rq(c:Q)(b:Nat):Prop:=∃a:Obj,c.heap[b]?=some a/\a.isCells=true
theorem Rq.fr{w':Q}(b:Rq n w)(a:w'.heap[w]?=n.heap[w]?):Rq w' w:=by
 let ⟨e,c,d⟩:=b
 exact⟨e,by rw[a];exact c,d⟩
theorem Rq.cS{c:Q}{n:Nat}(d:c.ownsRow 0 M w m n wb){a:Nat}(b:a∈vB m):Rq c a:=by
 rcases d.2 with⟨rfl,-⟩|⟨h,f,g,rfl,-,e,-⟩
 ·cases b
 ·obtain rfl:=Ac9.1 b;exact⟨_,e,rfl⟩
theorem Rq.ne(c:Rq n w)(g:∀b,n9=some b->∃a,n.heap[b]?=some a/\a.isCells=false):some w≠n9:=λd=>by
 let ⟨a,f,e⟩:=c
 grind
structure As where
 b:List Nat
 h:Q->Prop
 c:∀{w:Q},h w->∀{k},k∈b->Rq w k
 k:∀{w w':Q},h w->w.heap.size<=w'.heap.size->Fr b w w'->h w'
def fp(a:List As):List Nat:=a.flatMap As.b
structure Sp (c:Nat) (b:Q) (a:List As):Prop where
 z:c<=b.heap.size
 h:∀A∈a,A.h b
 nd:(fp a).Nodup
 rg:∀k∈fp a,c<=k/\k<b.heap.size
variable{wa:List As}
theorem Sp.fr{w':Q}(a:Sp w n wa)(h:n.heap.size<=w'.heap.size)(f:Fr (fp wa) n w'):Sp w w' wa:=
 ⟨by have:=a.z;omega,λb c=>b.k (a.h b c) h λd e=>f d (Ada.2 ⟨b,c,e⟩),a.nd,λk g=>by have:=a.rg k g;omega⟩
theorem Sp.cJ{d:Nat}{w:Q}(b:Sp d w wa)(c:Below w.heap.size w n):Sp d n wa:=b.fr c.size λa e=>c.block a (b.rg a e).2
theorem Sp.turn(a:Sp w n wa){i:Option Nat}(f:n.grownBy p i)(l:∀h,i=some h->∃g,n.heap[h]?=some g/\g.isCells=false):Sp w p wa:=a.fr f.size λd e=>by
 let ⟨b,j,k⟩:=Ada.1 e
 exact f.block d (a.rg d e).2 (Rq.ne (b.c (a.h b j) k) l)
variable{vu sf:As}
theorem Sp.ew{L1:List As}(f:Sp w n (L1++vu::wa))(h:AF vu.b n p)(m:sf.h p)(t:sf.b.Nodup)(o:∀a∈sf.b,(a∈vu.b\/n.heap.size<=a)/\a<p.heap.size):Sp w p (L1++sf::wa):=by
 have s:=f.z;have k:=h.size
 have i:=f.nd;have j:=f.rg
 simp only[fp,Ado,Adh,Aee,Acz]at i j;have g:∀c∈L1++wa,∀a∈c.b,a∉vu.b/\a<n.heap.size:=λc e a d=>by
  grind
 have q:∀c∈L1++wa,c.h p:=λc e=>c.k (f.h c (by grind)) k λa d=>h.block a (g c e a d).2 (g c e a d).1;have r:∀a∈sf.b,∀c∈L1++wa,a∉c.b:=λa d c e l=>by
  grind
 refine⟨by omega,λc e=>?_,?_,λa d=>?_⟩
 ·grind
 ·simp only[fp,Ado,Adh,Aee,Acz];grind
 ·simp only[fp,Ado,Adh,Acz]at d;grind
theorem Sp.same{L1 L2:List As}{A A':As}(a:Sp w n (L1++A::L2))(g:A'.b=A.b)(h:A'.h n):Sp w n (L1++A'::L2):=by
 have f:fp (L1++A'::L2)=fp (L1++A::L2):=by simp[fp,g]
 refine⟨a.z,λd e=>?_,f▸a.nd,f▸a.rg⟩;simp at e;rcases e with c|rfl|c
 ·exact a.h d (by simp[c])
 ·exact h
 ·exact a.h d (by simp[c])
theorem Sp.mem{A:As}(a:Sp w n wa)(b:A∈wa):A.h n:=a.h A b
variable{nc:List As}
theorem Zf(d:∀a∈sf.b,a∈vu.b\/x0 a):∀a∈fp (wa++sf::nc),a∈fp (wa++vu::nc)\/x0 a:=λa c=>by
 simp[fp]at c ⊢;grind
theorem F9{A:As}(a:A∈wa)(c:w∈A.b):w∈fp wa:=Ada.2 ⟨A,a,c⟩
abbrev pA(c:Ad5)(g:Nat)(b:X)(f:Nat)(i:List X):As:=⟨vB b,λh=>h.ownsRow 0 c g b f i,λa _ e=>.cS a e,λa _ d=>Az a d⟩
theorem JX(a:X):(vB a).Nodup:=by unfold vB;grind
structure Bn (f:Nat) (d:Q) (a:List As) (e:Q) (c:List As):Prop where
 af:AF (fp a) d e
 s:Sp f e c
 nb:∀b∈fp c,b∈fp a\/d.heap.size<=b
structure IY (d:Q) (e:Ad5) (g:Nat) (b:X) (c:X) (f:Nat) (h:List X) (a:Q):Prop where
 own:a.ownsRow 0 e g c f h
 af:AF (vB b) d a
 nb:∀k∈vB c,(k∈vB b\/d.heap.size<=k)/\k<a.heap.size
theorem Sp.dv(a:Sp w n wa):Bn w n wa n wa:=⟨.refl,a,λ_ a=>.inl a⟩
theorem Bn.cJ{d:Nat}{w w1 e:Q}{b L1:List As}(a:Bn d w b w1 L1)(c:Below w1.heap.size w1 e):Bn d w b e L1:=⟨a.af.then c,a.s.cJ c,a.nb⟩
theorem Bn.ew{m:Nat}{n h f:Q}{i L1 j:List As}{g c:As}(a:Bn m n i h (L1++g::j))(l:AF g.b h f)(o:c.h f)(r:c.b.Nodup)(e:∀b∈c.b,(b∈g.b\/h.heap.size<=b)/\b<f.heap.size):Bn m n i f (L1++c::j):=by
 have t:=a.af.size;refine⟨a.af.trans l λd e=>a.nb d (F9 (by simp) e),a.s.ew l o r e,λd q=>?_⟩;rcases Zf (λb p=>(e b p).1) d q with k|k
 ·exact a.nb d k
 omega
theorem Bn.same{e:Nat}{f b:Q}{c L1 L2:List As}{A A':As}(a:Bn e f c b (L1++A::L2))(d:A'.b=A.b)(h:A'.h b):Bn e f c b (L1++A'::L2):=⟨a.af,a.s.same d h,λg i=>a.nb g (by simpa[fp,d]using i)⟩
theorem Bn.set{g:Nat}{h d:Q}{e L1 L2:List As}{A A':As}(f:Bn g h e d (L1++A::L2)){b j:Nat}{u:X}(a:A.b=[b])(c:A'.b=[b])(i:A'.h (d.setCell ⟨b,j,none⟩ u)):Bn g h e (d.setCell ⟨b,j,none⟩ u) (L1++A'::L2):=
 f.ew (AF.refl.set (.inl (by simp[a])) _) i (by simp[c]) λk l=>⟨.inl (by rwa[a,<-c]),by simpa using(f.s.rg k (F9 (A:=A) (by simp) (by rwa[a,<-c]))).2⟩
theorem Bn.ek{L1:List As}{n':Nat}{xs':List X}(c:Bn w n wa p (L1++pA v b m d wb::nc))(a:IY p v b m q n' xs' h):Bn w n wa h (L1++pA v b q n' xs'::nc):=c.ew a.af a.own (JX _) a.nb
theorem Bn.frame{M:List As}(f:Bn w n wa p nc)(j:Sp w n (M++wa)):Bn w n (M++wa) p (M++nc):=by
 have q:=f.af.size;have k:=j.nd;have l:=j.rg
 simp only[fp,Ado,Aee,Acz]at k l;have i:∀c∈M,∀b∈c.b,b∉fp wa/\b<n.heap.size:=λc d b a=>⟨λh=>k.2.2 b (Ada.2 ⟨c,d,a⟩) b h rfl,(l b (.inl (Ada.2 ⟨c,d,a⟩))).2⟩;refine⟨f.af.mono λg e=>by simp only[fp,Ado,Acz];exact .inr e,⟨f.s.z,λc d=>?_,?_,λb a=>?_⟩,λg e=>?_⟩
 ·rcases Acz.1 d with d|d
  ·exact c.k (j.h c (Acw _ d)) q λb a=>f.af.block b (i c d b a).2 (i c d b a).1
  ·exact f.s.h c d
 ·simp only[fp,Ado,Aee];refine⟨k.1,f.s.nd,λm o g e h=>?_⟩;subst h;let ⟨c,d,a⟩:=Ada.1 o
  exact(f.nb m e).elim (i c d m a).1 (by grind)
 ·simp only[fp,Ado,Acz]at a;rcases a with a|a
  ·have:=l b (.inl a);omega
  ·exact f.s.rg b a
 ·simp only[fp,Ado,Acz]at e ⊢;rcases e with e|e
  ·exact .inl (.inl e)
  ·exact(f.nb g e).imp .inr id
theorem Sp.right{M:List As}(a:Sp w n (M++wa)):Sp w n wa:=
 ⟨a.z,λb c=>a.h b (Acx _ c),by have:=a.nd;simp[fp,Aee]at this;exact this.2.1,λe d=>a.rg e (by simp only[fp,Ado,Acz];exact .inr d)⟩
theorem Bn.box{A:As}(c:Bn w n wa p nc)(h:Obj)(e:A.b=[p.heap.size])(j:A.h (p.alloc h)):Bn w n wa (p.alloc h) (A::nc):=by
 have k:Below p.heap.size p (p.alloc h):=bA;have d:=c.cJ k;have l:=c.af.size;have m:=c.s.z
 refine⟨d.af,⟨d.s.z,λi f=>?_,?_,λg a=>?_⟩,λg a=>?_⟩
 ·rcases Ady.1 f with rfl|f
  ·exact j
  ·exact d.s.h i f
 ·simp only[fp,Adh,e,Acr,Ahd];exact⟨λa=>by have:=(c.s.rg _ a).2;omega,c.s.nd⟩
 ·simp only[fp,Adh,e,Acr,Ady]at a;rcases a with rfl|a
  ·simp;omega
  ·exact d.s.rg g a
 ·simp only[fp,Adh,e,Acr,Ady]at a;rcases a with rfl|a
  ·omega
  ·exact d.nb g a
theorem Bn.tail(a:Bn w n wa p (vu::nc)):Bn w n wa p nc:=⟨a.af,Sp.right (M:=[vu]) a.s,λb c=>a.nb b (by simp only[fp,Adh,Acz];exact .inr c)⟩
theorem Bn.drew{lo:Nat}{c d:Q}{a b:List As}(e:Bn lo c a d b):Bn lo c a d.drew b:=e.cJ (Acv _ _).drew
theorem Bn.trans{d:Nat}{h i j:Q}{e g:List As}{f:List As}(a:Bn d h e i g)(c:Bn d i g j f):Bn d h e j f:=⟨a.af.trans c.af a.nb,c.s,λb k=>(c.nb b k).elim (a.nb b) λl=>.inr (Ac5 a.af.size l)⟩
theorem Bn.mem{A:As}(a:Bn w n wa p nc)(b:A∈nc):A.h p:=a.s.h A b
structure ET (t d:Ad5) (a c:Nat):Prop where
 t:Acs.underlying t=some (.slice d)
 i:∃i z,Acs.info? d=some i/\i.zero=some z/\i.size=a/\i.bytes=c/\z.cells.size=a
 s:0<a
 b:c<=1000
theorem ET.of(e:Acs.underlying w=some (.slice v))(f:(Acs.info? v).map (λa=>(a.zero,a.size,a.bytes))=some (some m,b,d))(g:m.cells.size=b)(h:0<b)(i:d<=1000):ET w v b d:=by
 let ⟨a,j,c⟩:=Adb.1 f
 simp at c;exact⟨e,⟨a,m,j,c.1,c.2.1,c.2.2,g⟩,h,i⟩
theorem Vg{ty:Nat}(j:ET w v b d){h:Q}{l:X}{e:Nat}{p:List X}(K:h.ownsRow 0 v b l e p){n a c:Nat}{f:Array X}{r:Ad5}{fr:Nat×Nat}(G:h.heap[n]?=some (.cells f r fr))(ac:f.size=a*b)(u:∀Y∈f.toList,Y.oneCell'=true)(H:0<a)(I:e+a<=10000000000):
 ∃k i m,(Builtin.append_ #[w,w] ty #[l,W (some ⟨n,0,none⟩) a c]).run Acs h=.ok (W (some ⟨k,0,none⟩) (e+a) i) m/\IY h v b l (W (some ⟨k,0,none⟩) (e+a) i) (e+a) (p++f.toList) m:=by
 let ⟨L,aa,x,y,z,B,D⟩:=j.i
 have ab:=Nat.mul_le_mul I j.b;obtain⟨k,i,m,M,N,g,O,U⟩:=run_append_lies h w ty 0 v L aa b d j.t x y z B D j.s l e p K ⟨n,0,none⟩ a c f.toList (by omega) (Adu G) u H (by unfold Aed;omega) (by omega) (Ac0 _) _ rfl;refine⟨k,i,m,M,N,⟨g.os,g.tape,g.output,g.size,λq o E=>g.block q o λv=>E (Ah.2 v.symm)⟩,λq o=>?_⟩;obtain rfl:=Ac9.1 o;exact⟨O.imp Ah.2 λt=>Acb t.symm,U⟩
theorem Ql(q:ET w v b d){i:Q}{k:X}{e:Nat}{o:List X}(D:i.ownsRow 0 v b k e o){l a c:Nat}{g:Array X}{p:Ad5}{fr:Nat×Nat}(u:i.heap[l]?=some (.cells g p fr)){m n:Operand}(B:w4.op=.call {callee:=.builtin .append,args:=#[m,n],argTypes:=#[w,w]})(G:wj.eval m=k)(H:wj.eval n=W (some ⟨l,0,none⟩) a c)(x:g.size=a*b)(s:∀I∈g.toList,I.oneCell'=true)(y:0<a)(z:e+a<=10000000000)(r:∀h f j,IY i v b k (W (some ⟨h,0,none⟩) (e+a) f) (e+a) (o++g.toList) j->vv (wj.put w4.dst (W (some ⟨h,0,none⟩) (e+a) f)) j):w4.wp Acs wj i vv w6:=by
 let ⟨h,f,j,E,t⟩:=Vg (ty:=w4.type) (c:=c) q D u x s y z
 unfold Oper.wp execOp;simp only[B,resolve,invoke,builtin,Sem.run_bind,Sem.run_pure,Result.andThen_ok,Acp,Aeg,Aez,G,H,E];exact r h f j t
theorem Cy(o:ET w v b d){f:Q}{g:X}{a:Nat}{l:List X}(D:f.ownsRow 0 v b g a l){h m c:Nat}{e:Array X}{n:Ad5}{fr:Nat×Nat}(r:f.heap[h]?=some (.cells e n fr)){s x:Operand}(E:wj.eval s=g)(G:wj.eval x=W (some ⟨h,0,none⟩) m c)(t:w4.guard=none)(B:w4.op=.call {callee:=.builtin .append,args:=#[s,x],argTypes:=#[w,w]})(u:e.size=m*b)(q:∀H∈e.toList,H.oneCell'=true)(y:0<m)(z:a+m<=10000000000)(p:∀j i k,IY f v b g (W (some ⟨j,0,none⟩) (a+m) i) (a+m) (l++e.toList) k->vv (wj.put w4.dst (W (some ⟨j,0,none⟩) (a+m) i)) k):if Region.wanted w4 (yielded wc wj.tmps)=true then Oper.wp Acs w4 wj f vv w6 else vp:=by
 rw[if_pos (by simp[Region.wanted,t])];exact Ql o D r B E G u q y z p
theorem Cp(o:ET w v b d){h:Q}{j:X}{a:Nat}{l:List X}(G:h.ownsRow 0 v b j a l){k m c:Nat}{f:Array X}{n:Ad5}{fr:Nat×Nat}(u:h.heap[k]?=some (.cells f n fr)){s x:Operand}(H:wj.eval s=j)(I:wj.eval x=W (some ⟨k,0,none⟩) m c)(y:w4.guard=none)(E:w4.op=.call {callee:=.builtin .append,args:=#[s,x],argTypes:=#[w,w]})(z:f.size=m*b)(q:∀K∈f.toList,K.oneCell'=true)(B:0<m)(D:a+m<=10000000000)(p:∀g e i,IY h v b j (W (some ⟨g,0,none⟩) (a+m) e) (a+m) (l++f.toList) i->wpList Acs wc w6 sg (wj.put w4.dst (W (some ⟨g,0,none⟩) (a+m) e)) i):wpList Acs wc w6 (w4::sg) wj h:=
 wpList_plain y λ_ t=>Ql o G u E H I z q B D λg e i r=>t _ _ (p g e i r)
theorem bF(a:x3 (F (R #[])) n)(d:xs=.ret\/xs=.normal)(c:x2.results=#[])(b:wj.defers=[]):bodyPost wp x2 x3 xs wj n:=by
 rcases d with rfl|rfl
 ·exact Adc (Ac7 c _ _ _) b a
 ·exact bodyPost_end (Ac7 c _ _ _) b a
theorem OM(a:n.ownsRow w M v m b wb):n.ownsRow 0 M v m b wb:=⟨a.1,a.2.imp id λ⟨e,c,d,f,_,g⟩=>⟨e,c,d,f,Ac0 _,g⟩⟩
def D6(w:Q)(e:Ad5)(d:Nat)(f:X)(a:Nat)(xs:List X):Prop:=
 w.ownsRow 0 e d f a xs\/(∃b c g h,f=W (some ⟨b,c*d,none⟩) a g/\h.length=c*d/\xs.length=a*d/\w.ownsRow 0 e d (W (some ⟨b,0,none⟩) (c+a) (c+g)) (c+a) (h++xs))\/(∃b i,f=W (some ⟨b,i,none⟩) 0 0/\a=0/\xs=[]/\Rq w b)
theorem D6.fr{j w':Q}{g:Ad5}{i h:Nat}{f:X}{k:List X}(a:D6 j g i f h k)(e:Fr (vB f) j w'):D6 w' g i f h k:=by
 rcases a with a|⟨b,l,cap,n,rfl,c,d,a⟩|⟨b,m,rfl,c,d,a⟩
 ·exact .inl (Az a e)
 ·exact .inr (.inl ⟨b,l,cap,n,rfl,c,d,Az a e⟩)
 ·exact .inr (.inr ⟨b,m,rfl,c,d,a.fr (e b (by simp[vB,Ad6]))⟩)
theorem D6.slice{f:Q}{e:Ad5}{n:Nat}{v:X}{xs:List X}(a:D6 f e w v n xs):∃b c,v=W b n c:=by
 rcases a with a|⟨g,o,h,j,rfl,i,d,a⟩|⟨g,b,rfl,rfl,d,a⟩
 ·exact Ad a
 ·simp
 simp
theorem D6.Rq(a:D6 n M w m v wb){b:Nat}(c:b∈vB m):Rq n b:=by
 rcases a with a|⟨d,h,g,j,rfl,e,f,a⟩|⟨d,i,rfl,e,f,a⟩
 ·exact .cS a c
 ·exact .cS a (by simpa[vB,Ad6]using c)
 ·obtain rfl:b=d:=by simpa[vB,Ad6]using c
  exact a
theorem D6.at{w:Q}{e:Ad5}{i:Nat}{xs:List X}(b:D6 w e i m v xs)(k:0<v):∃a g f,m=W (some ⟨a,g,none⟩) v f/\∀c d,xs[c]?=some d->w.cell? ⟨a,g+c,none⟩=some d:=by
 rcases b with b|⟨a,l,n,p,rfl,o,j,b⟩|⟨a,g,rfl,rfl,j,b⟩
 ·obtain⟨a,f,rfl,-⟩:=b.form k;refine⟨a,0,f,rfl,λc d h=>?_⟩;have:=b.cells rfl c d h;rwa[Addr.add_lit]at this
 ·refine⟨a,_,_,rfl,λc d h=>?_⟩;have:=b.cells rfl (l*i+c) d (by grind);rwa[Addr.add_lit,Aey]at this
 ·omega
theorem Ji{P:Program}(w:Q)(o u:Ad5)(e:Ad5)(k:TypeInfo)(M:X)(b B:Nat)(z:P.underlying o=some (.slice e))(x:P.info? e=some k)(ai:k.zero=some M)(G:k.size=b)(ac:k.bytes=B)(aj:M.cells.size=b)(ag:0<b)(L:X)(a:Nat)(xs:List X)(az:D6 w e b L a xs)(p:Addr)(g r:Nat)(i:List X)(s:i.length=g*b)(y:∀h n,i[h]?=some n->w.cell? (p.add h)=some n)(O:∀n∈i,n.oneCell'=true)(ax:0<g)(ab:a+g<=Aed)(ad:(a+g)*B<=140737488355328):
 ∃c ao f l,(Builtin.append_ #[o,o] u #[L,W (some p) g r]).run P w=.ok (W (some ⟨c,ao,none⟩) (a+g) f) l/\
  D6 l e b (W (some ⟨c,ao,none⟩) (a+g) f) (a+g) (xs++i)/\w.grownBy l L.ownBlock/\(L.ownBlock=some c\/w.heap.size<=c)/\c<l.heap.size:=by
 rcases az with v|⟨c,d,f,Y,rfl,an,I,v⟩|⟨c,a5,rfl,rfl,rfl,v⟩
 ·obtain⟨c,f,l,q,m,j,t,K⟩:=run_append_lies (P:=P) w o u 0 e k M b B z x ai G ac aj ag L a xs v p g r i s y O ax ab ad (Ac0 _) _ rfl;exact⟨c,0,f,l,q,.inl m,j,t.imp id (λe=>Acb e.symm),K⟩
 ·by_cases a0:a+g<=f
  ·obtain⟨-,ah|⟨D,a9,aq,ah,-,ae,aG,aB,aC,aH⟩⟩:=id v
   ·cases ah.1
   cases ah;have aD:=(Aeq.1 ae).1;have aE:i.length<=(f-a)*b:=by rw[s];exact Aaa _ (by omega)
   have av:∀h,h<i.length->(w.cell? ⟨c,(d+a)*b+h,none⟩).isSome=true:=λh aw=>by
    rw[cell_of_row w c _ aq e (0,0) ae];have:(d+a)*b+(f-a)*b=(d+f)*b:=by rw[<-Nat.add_mul];congr 1;omega
    grind
   have am:∀h,h<i.length->w.frozen? ⟨c,(d+a)*b+h,none⟩=false:=λh aw=>by simp[World.frozen?,ae]
   have al:d*b+a*k.size=(d+a)*b:=by grind
   have aa:0+(d+a)*k.size=(d+a)*b:=by grind
   have q:=run_append_room_cells (P:=P) w o u e k z x c (d*b) a f p g r i (by grind) y O a0 (by simp_all) (by rw[al];exact am);have m:=run_append_room_cells (P:=P) w o u e k z x c 0 (d+a) (d+f) p g r i (by rw[G];exact s) y O (by omega) (by rw[aa];exact av) (by rw[aa];exact am);rw[al]at q;rw[aa]at m;have a1:=v;obtain⟨U,a6,a7,ap⟩:∃U,U=w.setCells c ((d+a)*b) i/\U.ownsRow 0 e b (W (some ⟨c,0,none⟩) (d+a+g) (d+f)) (d+a+g) (Y++xs++i)/\w.grownBy U (some c):=by
    obtain⟨l,a2,a3,a4⟩:=run_append_own_spare (P:=P) w 0 o u e k b z x G c (d+a) (d+f) (Y++xs) a1 p g r i s y O (by omega);rw[a2]at m;injection m with j t;exact⟨l,t,a3,a4⟩
   subst a6;refine⟨c,d*b,f,_,q,.inr (.inl ⟨c,d,f,Y,rfl,an,?_,?_⟩),ap,.inl rfl,?_⟩
   ·rw[Adk,I,s,Nat.add_mul]
   ·rw[<-Nat.add_assoc,<-Aem];exact a7
   ·have:=ap.size;omega
  ·have ay:∀h n,xs[h]?=some n->w.cell? ((⟨c,d*b,none⟩:Addr).add h)=some n:=λh n H=>by
    rw[Addr.add_lit];have E:0<a:=by
     rcases Ahj a with E|E
     ·rw[E,Nat.zero_mul]at I;rw[Agy.1 I]at H;cases H
     ·exact E
    obtain⟨D,aI,N,ar,au⟩:=((D6.at (w:=w) (e:=e) (xs:=xs) (.inr (.inl ⟨c,d,f,Y,rfl,an,I,v⟩)))) E;cases ar;exact au h n H
   obtain⟨a8,l,q,m,j⟩:=run_append_arg_grows (P:=P) w o u e k M b B z x ai G ac aj ag ⟨c,d*b,none⟩ a f xs I ay p g r i s y (by omega) ab ad;obtain⟨D,N,rfl,t,K⟩:=m.form (by omega);exact⟨D,0,N,l,q,.inl (OM m),⟨j.os,j.tape,j.output,j.size,λak af _=>j.block ak af (by simp)⟩,.inr t,K⟩
 ·obtain⟨a8,l,q,m,j⟩:=run_append_arg_grows (P:=P) w o u e k M b B z x ai G ac aj ag ⟨c,a5,none⟩ 0 0 [] (by simp) (λh n H=>by cases H) p g r i s y (by omega) ab ad;obtain⟨D,N,rfl,t,K⟩:=m.form (by omega);exact⟨D,0,N,l,q,.inl (OM m),⟨j.os,j.tape,j.output,j.size,λak af _=>j.block ak af (by simp)⟩,.inr t,K⟩
structure Zz (d:Q) (e:Ad5) (g:Nat) (b:X) (c:X) (f:Nat) (h:List X) (a:Q):Prop where
 own:D6 a e g c f h
 af:AF (vB b) d a
 nb:∀k∈vB c,(k∈vB b\/d.heap.size<=k)/\k<a.heap.size
abbrev oA(c:Ad5)(g:Nat)(b:X)(f:Nat)(i:List X):As:=⟨vB b,λh=>D6 h c g b f i,λa _ e=>a.Rq e,λa _ d=>a.fr d⟩
theorem Bn.gy{L1:List As}{n':Nat}{xs':List X}(c:Bn w n wa p (L1++oA v b m d wb::nc))(a:Zz p v b m q n' xs' h):Bn w n wa h (L1++oA v b q n' xs'::nc):=c.ew a.af a.own (JX _) a.nb
theorem Pn(j:ET w v b d){h:Q}{l:X}{a:Nat}{r:List X}(O:D6 h v b l a r){o m c:Nat}{e:Array X}{t:Ad5}{fr:Nat×Nat}(I:h.heap[o]?=some (.cells e t fr)){s x:Operand}(Y:wj.eval s=l)(aa:wj.eval x=W (some ⟨o,0,none⟩) m c)(K:w4.guard=none)(N:w4.op=.call {callee:=.builtin .append,args:=#[s,x],argTypes:=#[w,w]})(ai:e.size=m*b)(y:∀af∈e.toList,af.oneCell'=true)(L:0<m)(M:a+m<=10000000000)(u:∀f k i n,Zz h v b l (W (some ⟨f,k,none⟩) (a+m) i) (a+m) (r++e.toList) n->vv (wj.put w4.dst (W (some ⟨f,k,none⟩) (a+m) i)) n):if Region.wanted w4 (yielded wc wj.tmps)=true then Oper.wp Acs w4 wj h vv w6 else vp:=by
 rw[if_pos (by simp[Region.wanted,K])];let ⟨ab,ag,z,B,D,E,G⟩:=j.i
 have ah:=Nat.mul_le_mul M j.b;let ⟨f,k,i,n,U,ac,g,ad,ae⟩:=Ji h w w4.type v ab ag b d j.t z B D E G j.s l a r O ⟨o,0,none⟩ m c e.toList (by omega) (Adu I) y L (by unfold Aed;omega) (by omega)
 unfold Oper.wp execOp;simp only[N,resolve,invoke,builtin,Sem.run_bind,Sem.run_pure,Result.andThen_ok,Acp,Aeg,Aez,Y,aa,U];refine u f k i n ⟨ac,⟨g.os,g.tape,g.output,g.size,λq p H=>g.block q p λv=>H (Ah.2 v.symm)⟩,λq p=>?_⟩;obtain rfl:q=f:=by simpa[vB,Ad6]using p
 exact⟨ad.imp Ah.2 id,ae⟩
theorem WN(a:Nat)(b:a<18446744073709551616):IntKind.u64.wrap (a:Int)=(a:Int):=by
 simp only[IntKind.wrap,IntKind.signed,IntKind.bits];simp;omega
def LP(a:Int):Bool:=CV a||HG a||a==35
def CA(b:List UInt8):Bool:=b.all λa=>LP a.toNat
def nmB(a:ByteArray):Bool:=decide (0<a.size) && decide (a.size<=16) && CV (a.data.toList.headD 0).toNat && CA a.data.toList
theorem K6(b:ByteArray)(a:Nat)(c:a<b.size):b.data.toList.take (a+1)=b.data.toList.take a++[b[a]]:=by
 rw[Ade (by simpa using c)];rfl
theorem JB(b:List UInt8)(a:UInt8):CA (b++[a])=(CA b && LP a.toNat):=by
 simp[CA]
theorem JJ(a:ByteArray)(b:Nat)(c:b<a.size)(d:LP a[b].toNat=false):CA a.data.toList=false:=by
 have e:a[b]∈a.data.toList:=by
  have:a[b]=a.data.toList[b]'(by simpa using c):=rfl;grind
 simp only[CA,List.all_eq_false];grind
theorem Dl(a:w2=se):Ending.returned (A w2)=F (A se):=by rw[a]
theorem Jt(a:ByteArray)(b:a.size=0):nmB a=false:=by simp[nmB,b]
theorem MS(a:ByteArray)(b:16<a.size):nmB a=false:=by
 have:¬a.size<=16:=by omega
 simp[nmB,this]
theorem Rp(a:ByteArray)(b:0<a.size):a.data.toList.headD 0=a[0]:=by
 let ⟨⟨d⟩⟩:=a
 cases d with
 |nil=>simp[ByteArray.size]at b
 |cons c r=>rfl
theorem MA(a:ByteArray)(b:0<a.size)(c:a.size<=16):nmB a=(CV a[0].toNat && CA a.data.toList):=by
 rw[<-Rp a b];simp[nmB,b,c]
theorem Jn(a:ByteArray)(l:Q)(q:a.size<=Aed):
 Adg Acs 117 #[S a] l λc d=>c=F (A (nmB a))/\d=l:=by
 unfold Aed at q;by_cases n:a.size=0
 ·go_enter Tryz.func117,Tryz.ntmps117;go_wp2;go_ret;exact⟨Dl (Jt a n).symm,rfl⟩
 ·by_cases o:16<a.size
  ·go_enter Tryz.func117,Tryz.ntmps117;go_wp2;go_ret;exact⟨Dl (MS a o).symm,rfl⟩
  ·have r:((a.size:Int)==0)=false:=by grind
   have k:=MA a (by omega) (by omega);have f:Hid (nmB a=(CV a[0].toNat && CA a.data.toList)):=k;clear k;by_cases i:CV a[0].toNat=true
   ·go_enter Tryz.func117,Tryz.ntmps117;go_wp2_with (first|(go_at_call 166;refine(Fi _ _).mono ?_;rintro c d ⟨rfl,rfl⟩))
    go_loop [20] (λh=>∃b:Nat,b<=a.size/\h=V C b/\Hid (CA (a.data.toList.take b)=true)) (λh=>a.size-(intOf h).toNat)
    case atStart=>exact⟨0,Ac0 _,rfl,rfl⟩
    case round=>
     obtain⟨b,s,rfl,e⟩:=hrel;by_cases j:b<a.size
     ·have g:Hid (CA (a.data.toList.take (b+1))=(CA (a.data.toList.take b) && LP a[b].toNat)):=by
       rw[K6 a b j];exact JB _ _
      have m:Hid (LP a[b].toNat=false->CA a.data.toList=false):=JJ a b j;go_wp2_with (first|(go_at_call 166;refine(Fi _ _).mono ?_;rintro c d ⟨rfl,rfl⟩)|(go_at_call 167;refine(Nt _ _).mono ?_;rintro c d ⟨rfl,rfl⟩))
      case roundEnd=>exact⟨⟨b+1,by omega,rfl,by show CA _=true;rw[g.out,e.out];simp_all[LP]⟩,by simp[intOf];omega⟩
      case roundEnd=>exact⟨⟨b+1,by omega,rfl,by show CA _=true;rw[g.out,e.out];simp_all[LP]⟩,by simp[intOf];omega⟩
      case roundEnd=>exact⟨⟨b+1,by omega,rfl,by show CA _=true;rw[g.out,e.out];simp_all[LP]⟩,by simp[intOf];omega⟩
      go_ret;exact⟨Dl (by rw[f.out,m.out (by simp_all[LP])];simp),rfl⟩
     ·go_wp2;go_ret;refine⟨Dl ?_,rfl⟩;rw[f.out,i];have:=e.out;rw[Aav (by simp;omega)]at this;simp[this]
   ·have p:CV a[0].toNat=false:=by simpa using i
    go_enter Tryz.func117,Tryz.ntmps117;go_wp2_with (first|(go_at_call 166;refine(Fi _ _).mono ?_;rintro c d ⟨rfl,rfl⟩))
    go_ret;exact⟨Dl (by rw[f.out,p];rfl),rfl⟩
theorem Vi(a:ByteArray)(b:Nat)(e:b<a.size)(d:CV a[b].toNat=false)(c:(HG a[b].toNat||((a[b].toNat:Int)==35))=false\/b=0):nmB a=false:=by
 by_cases f:0<a.size
 ·by_cases g:a.size<=16
  ·rw[MA a f g];rcases c with c|rfl
   ·rw[JJ a b e (by simp only[LP,d,Bool.false_or];exact c)];simp
   ·simp[d]
  ·exact MS a (by omega)
 omega
theorem Uw(b:ByteArray)(a:Nat)(c:a<b.size)(d:CA (b.data.toList.take a)=true/\(0<a->CV (b.data.toList.headD 0).toNat=true))(e:LP b[a].toNat=true)(g:a=0->CV b[a].toNat=true):
 CA (b.data.toList.take (a+1))=true/\(0<a+1->CV (b.data.toList.headD 0).toNat=true):=by
 refine⟨by rw[K6 b a c,JB,d.1,e];rfl,λ_=>?_⟩;by_cases f:a=0
 ·subst f;rw[Rp b c];exact g rfl
 grind
theorem VR(a:ByteArray)(b:Nat)(g:¬b<a.size)(f:0<a.size)(h:b<=a.size)(d:CA (a.data.toList.take b)=true/\(0<b->CV (a.data.toList.headD 0).toNat=true)):nmB a=decide ((a.size:Int)<=16):=by
 have c:=d.1;rw[Aav (by simp;omega)]at c;have e:decide ((a.size:Int)<=16)=decide (a.size<=16):=by grind
 rw[e,nmB,c,d.2 (by omega)];simp[f]
theorem G2(a:ByteArray)(f:Q)(k:a.size<=Aed):
 Adg Acs 84 #[S a] f λg l=>g=F (A (nmB a))/\l=f:=by
 unfold Aed at k;go_enter Tryz.func84,Tryz.ntmps84;go_wp2;go_loop [3] (λd=>∃b,b<=a.size/\d=V C b/\Hid (CA (a.data.toList.take b)=true/\(0<b->CV (a.data.toList.headD 0).toNat=true))) (λd=>a.size-(intOf d).toNat)
 case atStart=>exact⟨0,Ac0 _,rfl,rfl,λh=>absurd h nofun⟩
 case round=>
  obtain⟨b,j,rfl,e⟩:=hrel;by_cases c:b<a.size
  ·go_wp2;any_goals
    go_ret;refine⟨Dl (Vi a b c ?_ ?_).symm,rfl⟩
    ·simp[CV];omega
    ·simp[HG]at*;omega
   all_goals
    refine⟨⟨b+1,by omega,by go_num,Uw a b c e.out ?_ ?_⟩,by simp[intOf];omega⟩
    ·simp[LP,CV,HG]at*;omega
    ·simp[CV]at*;omega
  ·by_cases i:0<a.size
   ·go_wp2;go_ret;exact⟨Dl (VR a b c i j e.out).symm,rfl⟩
   ·go_wp2;go_ret;exact⟨Dl (Jt a (by omega)).symm,rfl⟩
def CJ(a b:ByteArray):Int:=Lib.compareBytes a.data.toList b.data.toList
def Yi(a b:ByteArray):Bool:=!(Op.bytesLess a.toList b.toList||a.toList==b.toList)
theorem PK:∀c d:List UInt8,Lib.compareBytes c d<0↔Op.bytesLess c d=true
 |[],[]=>by simp[Lib.compareBytes,Op.bytesLess]
 |[],_::_=>by simp[Lib.compareBytes,Op.bytesLess]
 |_::_,[]=>by simp[Lib.compareBytes,Op.bytesLess]
 |a::c,b::d=>by
  have e:=PK c d;simp[Lib.compareBytes,Op.bytesLess];grind
theorem Mr:∀c d:List UInt8,Lib.compareBytes c d=0↔c=d
 |[],[]=>by simp[Lib.compareBytes]
 |[],_::_=>by simp[Lib.compareBytes]
 |_::_,[]=>by simp[Lib.compareBytes]
 |a::c,b::d=>by
  have e:=Mr c d;simp[Lib.compareBytes];grind
theorem Jf:∀c d:List UInt8,Lib.compareBytes c d=-Lib.compareBytes d c
 |[],[]=>rfl
 |[],_::_=>rfl
 |_::_,[]=>rfl
 |a::c,b::d=>by
  have e:=Jf c d;simp[Lib.compareBytes];grind
theorem Kr:∀f d e:List UInt8,Op.bytesLess f d=true->Op.bytesLess d e=true->Op.bytesLess f e=true
 |_,[],e=>by simp[Op.bytesLess]
 |[],b::d,[]=>nofun
 |[],b::d,c::e=>by simp[Op.bytesLess]
 |a::f,b::d,[]=>nofun
 |a::f,b::d,c::e=>by
  have g:=Kr f d e;simp[Op.bytesLess,Bool.or_eq_true,decide_eq_true_eq,beq_iff_eq];grind
theorem JP{a b c:ByteArray}(d:CJ a b<0)(e:CJ b c<0):CJ a c<0:=by
 unfold CJ at*;rw[PK]at*;exact Kr _ _ _ d e
theorem HC(a b:ByteArray):CJ a b=0↔a=b:=by
 unfold CJ;rw[Mr];constructor
 ·let ⟨⟨c⟩⟩:=a
  simp_all
 grind
theorem Ge(a b:ByteArray):CJ a b=-CJ b a:=Jf _ _
theorem le_eq(a b:ByteArray):(Op.bytesLess a.toList b.toList||a.toList==b.toList)=!Yi a b:=by simp[Yi]
abbrev Rd(a:Type):=Except (Nat×Nat) (a×Nat)
structure EF (E:Nat) (a b:Q):Prop where
 os:b.os=a.os
 tape:b.tape=a.tape
 output:b.output=a.output
 size:a.heap.size<=b.heap.size
 block:∀k,k<a.heap.size->k≠E->b.heap[k]?=a.heap[k]?
theorem EF.refl(b:Nat)(a:Q):EF b a a:=⟨rfl,rfl,rfl,Acu _,λ_ _ _=>rfl⟩
theorem EF.trans{d:Nat}{g h i:Q}(a:EF d g h)(c:EF d h i):EF d g i:=
 ⟨c.os.trans a.os,c.tape.trans a.tape,c.output.trans a.output,Ac5 a.size c.size,λb f e=>(c.block b (Ac2 f a.size) e).trans (a.block b f e)⟩
theorem EF.cI{E:Nat}(a:Below n.heap.size n p):EF E n p:=⟨a.os,a.tape,a.output,a.size,λc b _=>a.block c b⟩
theorem EF.set{o:Nat}(a:EF w n p)(u:X):EF w n (p.setCell ⟨w,o,none⟩ u):=
 a.trans ⟨rfl,rfl,rfl,by simp,λc _ b=>Ac4 _ _ _ _ b⟩
theorem Au(c:v≠b):(⟨w,v,none⟩:Addr)≠⟨w,b,none⟩:=λa=>c (congrArg Addr.off a)
def CF(a:Nat):Bool:=a==32||a==10
def Dp(a:Nat):Bool:=a==40||a==41
theorem Tz(a:Nat):CF a=true↔a=32\/a=10:=by simp[CF]
theorem TW(a:Nat):Dp a=true↔a=40\/a=41:=by simp[Dp]
def Bi(b:ByteArray)(a:Nat):Nat:=if h:a<b.size then (if CF b[a].toNat=true then Bi b (a+1) else a) else a
termination_by b.size-a
theorem LZ{s:ByteArray}{p:Nat}(a:p<s.size)(b:CF s[p].toNat=true):Bi s p=Bi s (p+1):=by rw[Bi,dif_pos a,if_pos b]
theorem HM{s:ByteArray}{p:Nat}(a:p<s.size)(b:CF s[p].toNat=false):Bi s p=p:=by rw[Bi,dif_pos a,if_neg (by simp[b])]
theorem IV{s:ByteArray}{p:Nat}(a:s.size<=p):Bi s p=p:=by rw[Bi,dif_neg (by omega)]
theorem FN(s:ByteArray):∀b p,s.size-p<=b->p<=Bi s p/\(p<=s.size->Bi s p<=s.size)/\(∀a:Bi s p<s.size,CF s[Bi s p].toNat=false)
 |0,p,hn=>by
  rw[IV (by omega)];grind
 |b+1,p,hn=>by
  by_cases a:p<s.size
  ·cases hg:CF s[p].toNat with
   |true=>
    have c:=LZ a hg;let ⟨d,e,f⟩:=FN s b (p+1) (by omega)
    grind
   |false=>
    have c:=HM a hg;grind
  ·have c:=IV (s:=s) (p:=p) (by omega);grind
theorem AX(b:ByteArray)(a:Nat):a<=Bi b a:=(FN b _ a .refl).1
theorem A8{s:ByteArray}{p:Nat}(a:p<=s.size):Bi s p<=s.size:=(FN s _ p .refl).2.1 a
theorem Xz(a:Bi s w<s.size):CF s[Bi s w].toNat=false:=(FN s _ w .refl).2.2 a
theorem JW(a:ByteArray)(b:Nat):Bi a (Bi a b)=Bi a b:=by
 by_cases c:Bi a b<a.size
 ·exact HM c (Xz c)
 ·exact IV (by omega)
def Gs(b:ByteArray)(a:Nat):Nat:=if h:a<b.size then (if CF b[a].toNat=true\/Dp b[a].toNat=true then a else Gs b (a+1)) else a
termination_by b.size-a
theorem DQ{s:ByteArray}{q:Nat}(a:q<s.size)(c:CF s[q].toNat=false)(b:Dp s[q].toNat=false):Gs s q=Gs s (q+1):=by rw[Gs,dif_pos a,if_neg (by simp[c,b])]
theorem Df(a:w<s.size)(b:CF s[w].toNat=true\/Dp s[w].toNat=true):Gs s w=w:=by rw[Gs,dif_pos a,if_pos b]
theorem CP(a:s.size<=w):Gs s w=w:=by rw[Gs,dif_neg (by omega)]
theorem JT(b:ByteArray):∀c a,b.size-a<=c->a<=Gs b a/\(a<=b.size->Gs b a<=b.size)
 |0,a,hn=>by rw[CP (by omega)];omega
 |c+1,a,hn=>by
  by_cases d:a<b.size
  ·by_cases e:CF b[a].toNat=true\/Dp b[a].toNat=true
   ·rw[Df d e];omega
   ·rw[DQ d (by grind) (by grind)];let ⟨f,g⟩:=JT b c (a+1) (by omega)
    omega
  ·rw[CP (by omega)];omega
theorem MN(b:ByteArray)(a:Nat):a<=Gs b a:=(JT b _ a .refl).1
theorem Yx(a:w<=s.size):Gs s w<=s.size:=(JT s _ w .refl).2 a
def Eu(b:ByteArray)(a:Nat):Nat:=if Gs b a=a/\a<b.size then a+1 else Gs b a
theorem WA(b:ByteArray)(a:Nat):a<=Eu b a:=by unfold Eu;split;omega;exact MN b a
theorem Mg{s:ByteArray}{q:Nat}(a:q<=s.size):Eu s q<=s.size:=by unfold Eu;split;omega;exact Yx a
theorem Mh{s:ByteArray}{q:Nat}(a:q<s.size):q<Eu s q:=by
 unfold Eu;split
 ·omega
 ·have:=MN s q;omega
def Am(b:ByteArray)(a:Nat):Nat:=Bi b a
def AC(a:ByteArray)(b:Nat):Nat:=Eu a (Bi a b)
def Ag(a:ByteArray)(b:Nat):ByteArray:=a.extract (Am a b) (AC a b)
theorem DI(a:ByteArray)(b:Nat):Am a (Bi a b)=Am a b:=JW a b
theorem DZ(a:ByteArray)(b:Nat):AC a (Bi a b)=AC a b:=by unfold AC;rw[JW]
theorem Di(a:ByteArray)(b:Nat):Ag a (Bi a b)=Ag a b:=by unfold Ag;rw[DI,DZ]
theorem AK(a:w<=s.size):AC s w<=s.size:=Mg (A8 a)
theorem WW(a:w<=s.size):Am s w<=s.size:=A8 a
theorem GR(b:ByteArray)(a:Nat):Am b a<=AC b a:=WA _ _
theorem Cb{s:ByteArray}(a:w<=s.size):(Ag s w).size=AC s w-Am s w:=by
 unfold Ag;rw[Aac];have:=AK a;omega
theorem Qb(a:Am s w<s.size):w<AC s w:=by
 have b:=AX s w;have c:=Mh (q:=Bi s w) a;unfold AC;omega
abbrev Pr(a:Type):=Except (Nat×Nat) (a×Nat)
def pb{b c:Type}(f:Pr b)(d:b->Nat->Pr c):Pr c:=match f with|P e=>P e|.ok (a,q)=>d a q
theorem Ai(a:wd)(c:Nat)(b:wd->Nat->Pr ve):pb (.ok (a,c)) b=b a c:=rfl
theorem AG(a:Nat×Nat)(b:wd->Nat->Pr ve):pb (P a:Pr wd) b=P a:=rfl
def Al(b c:ByteArray)(a:Nat):Pr Unit:=if Ag b a=c then .ok ((),AC b a) else P (2,Am b a)
structure TX (b:Q) (a:Nat) (l:ByteArray) (i g d k:Nat) (h e c:X):Prop where
 c0:b.cell? ⟨a,0,none⟩=some (S l)
 c1:b.cell? ⟨a,1,none⟩=some (V C (i:Int))
 c2:b.cell? ⟨a,2,none⟩=some (V C (g:Int))
 c3:b.cell? ⟨a,3,none⟩=some (V C (d:Int))
 c4:b.cell? ⟨a,4,none⟩=some (V C (k:Int))
 c5:b.cell? ⟨a,5,none⟩=some h
 c6:b.cell? ⟨a,6,none⟩=some e
 c7:b.cell? ⟨a,7,none⟩=some c
 f:∀j,j<8->b.frozen? ⟨a,j,none⟩=false
theorem TX.lt(a:TX n w s v b d x m q j):w<n.heap.size:=Adt a.c0
theorem TX.cK(c:TX n w s v b d x m q j)(h:p.heap[w]?=n.heap[w]?):TX p w s v b d x m q j:=by
 have e:=λg=>Ac1 (a:=⟨w,g,none⟩) h;refine⟨?_,?_,?_,?_,?_,?_,?_,?_,λg i=>?_⟩
 ·rw[e];exact c.c0
 ·rw[e];exact c.c1
 ·rw[e];exact c.c2
 ·rw[e];exact c.c3
 ·rw[e];exact c.c4
 ·rw[e];exact c.c5
 ·rw[e];exact c.c6
 ·rw[e];exact c.c7
 ·rw[Adm h];exact c.f g i
theorem TX.cJ{w:Q}{a:Nat}{pl:Nat}{nm:X}(c:TX w a s v b d pl nm m q)(e:Below w.heap.size w n):TX n a s v b d pl nm m q:=c.cK (e.block a c.lt)
theorem TX.at{w:Q}{e:Nat}(a:TX w e s v b d x m q j)(i:Nat):TX (w.setCell ⟨e,1,none⟩ (V C (i:Int))) e s i b d x m q j:=by
 have c:∀g,g≠1->(w.setCell ⟨e,1,none⟩ (V C i)).cell? ⟨e,g,none⟩=w.cell? ⟨e,g,none⟩:=λg h=>Acy _ _ _ _ (Au (Aa7 h));refine⟨?_,Ac6 _ _ _ a.c1,?_,?_,?_,?_,?_,?_,λg h=>by rw[Ac3];exact a.f g h⟩
 ·rw[c _ (by omega)];exact a.c0
 ·rw[c _ (by omega)];exact a.c2
 ·rw[c _ (by omega)];exact a.c3
 ·rw[c _ (by omega)];exact a.c4
 ·rw[c _ (by omega)];exact a.c5
 ·rw[c _ (by omega)];exact a.c6
 ·rw[c _ (by omega)];exact a.c7
theorem TX.dC(a:TX n w s v b d x m q j)(h:Nat):TX (n.setCell ⟨w,2,none⟩ (V C (h:Int))) w s v h d x m q j:=by
 have c:∀e,e≠2->(n.setCell ⟨w,2,none⟩ (V C h)).cell? ⟨w,e,none⟩=n.cell? ⟨w,e,none⟩:=λe g=>Acy _ _ _ _ (Au (Aa7 g));refine⟨?_,?_,Ac6 _ _ _ a.c2,?_,?_,?_,?_,?_,λe g=>by rw[Ac3];exact a.f e g⟩
 ·rw[c _ (by omega)];exact a.c0
 ·rw[c _ (by omega)];exact a.c1
 ·rw[c _ (by omega)];exact a.c3
 ·rw[c _ (by omega)];exact a.c4
 ·rw[c _ (by omega)];exact a.c5
 ·rw[c _ (by omega)];exact a.c6
 ·rw[c _ (by omega)];exact a.c7
theorem TX.e7(a:TX n w s v b d x m q j)(h:Nat):TX (n.setCell ⟨w,3,none⟩ (V C (h:Int))) w s v b h x m q j:=by
 have c:∀e,e≠3->(n.setCell ⟨w,3,none⟩ (V C h)).cell? ⟨w,e,none⟩=n.cell? ⟨w,e,none⟩:=λe g=>Acy _ _ _ _ (Au (Aa7 g));refine⟨?_,?_,?_,Ac6 _ _ _ a.c3,?_,?_,?_,?_,λe g=>by rw[Ac3];exact a.f e g⟩
 ·rw[c _ (by omega)];exact a.c0
 ·rw[c _ (by omega)];exact a.c1
 ·rw[c _ (by omega)];exact a.c2
 ·rw[c _ (by omega)];exact a.c4
 ·rw[c _ (by omega)];exact a.c5
 ·rw[c _ (by omega)];exact a.c6
 ·rw[c _ (by omega)];exact a.c7
theorem TX.place(a:TX n w s v b d x m q j)(h:Nat):TX (n.setCell ⟨w,4,none⟩ (V C (h:Int))) w s v b d h m q j:=by
 have c:∀e,e≠4->(n.setCell ⟨w,4,none⟩ (V C h)).cell? ⟨w,e,none⟩=n.cell? ⟨w,e,none⟩:=λe g=>Acy _ _ _ _ (Au (Aa7 g));refine⟨?_,?_,?_,?_,Ac6 _ _ _ a.c4,?_,?_,?_,λe g=>by rw[Ac3];exact a.f e g⟩
 ·rw[c _ (by omega)];exact a.c0
 ·rw[c _ (by omega)];exact a.c1
 ·rw[c _ (by omega)];exact a.c2
 ·rw[c _ (by omega)];exact a.c3
 ·rw[c _ (by omega)];exact a.c5
 ·rw[c _ (by omega)];exact a.c6
 ·rw[c _ (by omega)];exact a.c7
theorem O4{s:ByteArray}{p:Nat}(h:TX n w s p b d x m q j)(ae:s.size<=2000)(E:p<=s.size):
 Adg Acs 80 #[J (some ⟨w,0,none⟩)] n λz f=>z=F (R #[])/\TX f w s (Bi s p) b d x m q j/\EF w n f:=by
 have y:=hid h;clear h;go_enter Tryz.func80,Tryz.ntmps80;go_wp2;go_loopw [] (λwr=>∃a:Nat,a<=s.size/\Hid (TX wr w s a b d x m q j/\EF w n wr/\Bi s a=Bi s p)) (λwr=>s.size-(match wr.cell? ⟨w,1,none⟩ with|some v=>(intOf v).toNat|none=>0))
 case atStart=>exact⟨p,E,y.out,EF.refl _ _,rfl⟩
 case round=>
  obtain⟨a,ad,e⟩:=hrel;rename Q=>wr
  obtain⟨I,l,K,L,M,N,O,U,r⟩:=id e.out.1;have Y:=r 1 (by omega);clear r;by_cases t:a<s.size
  ·have aa:(0:Int)<=(a:Int):=by omega
   have ab:(a:Int)<(s.size:Int):=by omega
   have o:s[a].toNat<256:=s[a].toNat_lt;have k:=hid (λi=>LZ (s:=s) (p:=a) t i);have u:=hid (λi=>HM (s:=s) (p:=a) t i);have g:Hid (∀f,Below wr.heap.size wr f->TX (f.setCell ⟨w,1,none⟩ (V C ((a:Int)+1))) w s (a+1) b d x m q j):=by
    intro f o;have h:=(e.out.1.cJ o).at (a+1);grind
   by_cases B:s[a].toNat=32
   ·have G:((s[a].toNat:Int)==32)=true:=by grind
    go_wp2;go_quiet (fail);go_wp2;have c:=Aeu (Acv wr.heap.size wr) nq;refine⟨⟨a+1,by omega,g.out _ c,(e.out.2.1.trans (EF.cI c)).set _,by rw[<-k.out (by simp[CF, *])];exact e.out.2.2⟩,?_⟩;rw[(g.out _ c).c1,l];simp[intOf];omega
   ·have af:((s[a].toNat:Int)==32)=false:=by grind
    by_cases D:s[a].toNat=10
    ·have H:((s[a].toNat:Int)==10)=true:=by grind
     go_wp2;go_quiet (fail);go_wp2;have c:=Aeu (Acv wr.heap.size wr) nq;refine⟨⟨a+1,by omega,g.out _ c,(e.out.2.1.trans (EF.cI c)).set _,by rw[<-k.out (by simp[CF, *])];exact e.out.2.2⟩,?_⟩;rw[(g.out _ c).c1,l];simp[intOf];omega
    ·have ag:((s[a].toNat:Int)==10)=false:=by grind
     go_wp2;go_quiet (fail);go_wp2;have c:=Aeu (Acv wr.heap.size wr) nq;refine bE ?_;refine⟨rfl,?_,e.out.2.1.trans (EF.cI c)⟩;rw[<-e.out.2.2,u.out (by simp[CF,B,D])];exact e.out.1.cJ c
  ·have ac:¬(a:Int)<(s.size:Int):=by omega
   go_wp2;go_quiet (fail);go_wp2;have c:=Aeu (Acv wr.heap.size wr) nq;refine bE ?_;refine⟨rfl,?_,e.out.2.1.trans (EF.cI c)⟩;rw[<-e.out.2.2,IV (by omega)];exact e.out.1.cJ c
theorem TX.ef{a:Nat}{w:Q}(c:TX w v s b d x K m q j)(e:EF a w n)(f:v≠a):TX n v s b d x K m q j:=c.cK (e.block v c.lt f)
def BO(b:Nat)(a:ByteArray)(c l i g k:Nat)(j h e:X)(m:Q)(f:Ending)(d:Q):Prop:=
 f=F (R #[S (Ag a c),V C (Am a c:Int)])/\TX d b a l i g k j h e/\EF b m d
theorem CQ(l:TX n w s v b d x m q j)(ah:s.size<=2000)(ad:v<=s.size):
 Adg Acs 40 #[J (some ⟨w,0,none⟩)] n λB ai=>BO w s v (Bi s v) b d x m q j n B ai:=by
 have H:=hid (O4 l ah ad);have ab:=A8 ad;obtain⟨e,I⟩:∃e,Bi s v=e:=⟨_,rfl⟩;have c:=hid I;rw[I]at H ab;clear l I;go_enter Tryz.func40,Tryz.ntmps40;go_wp2_with (first
  |(go_at_call 80;refine H.out.mono ?_;rintro B o ⟨rfl,aa,Y⟩;have t:=hid aa;have u:=hid Y;obtain⟨aj,ak,-,-,-,-,-,-,-⟩:=aa;clear Y H))
 go_loopw [4] (λL wr=>∃a:Nat,e<=a/\a<=s.size/\L=V C (a:Int)/\Hid (Gs s a=Gs s e/\Below o.heap.size o wr)) (λL _=>s.size-(intOf L).toNat)
 case atStart=>exact⟨e,Acu _,ab,rfl,rfl,Acv _ _⟩
 case round=>
  obtain⟨a,aq,aw,rfl,h⟩:=hrel;rename Q=>wr
  obtain⟨al,am,-,-,-,-,-,-,-⟩:=t.out.cJ h.out.2;have an:(0:Int)<=(a:Int):=by omega
  have ap:(0:Int)<=(e:Int):=by omega
  have ar:(e:Int)<=(a:Int):=by omega
  have ax:(a:Int)<=(s.size:Int):=by omega
  by_cases ac:a<s.size
  ·have ag:(a:Int)<(s.size:Int):=by omega
   have au:s[a].toNat<256:=s[a].toNat_lt;have z:Hid (CF s[a].toNat=true\/Dp s[a].toNat=true->Gs s e=a):=λl=>by rw[<-h.out.1];exact Df ac l
   by_cases N:s[a].toNat=32
   ·have g:=hid (z.out (by simp[CF,Dp,N]));have E:((s[a].toNat:Int)==32)=true:=by grind
    have D:((s[a].toNat:Int)==10)=false:=by grind
    have G:((s[a].toNat:Int)==40)=false:=by grind
    have y:((s[a].toNat:Int)==41)=false:=by grind
    have K:(a:Int)+1<=(s.size:Int):=by omega
    have r:Hid (a=e->AC s v=e+1):=λi=>by unfold AC Eu;rw[c.out,if_pos ⟨by rw[g.out,i],by omega⟩]
    have p:Hid (¬a=e->AC s v=a):=λi=>by unfold AC Eu;rw[c.out,if_neg (λl=>i (by rw[<-g.out];omega))];exact g.out
    have k:Hid (∀f,Below o.heap.size o (wr.drewN f)):=λf=>h.out.2.trans ((Aeu (Acv wr.heap.size wr) f).mono h.out.2.size);go_wp2;all_goals(go_quiet (fail))
    all_goals(try go_wp2)
    all_goals(go_ret2;refine⟨?_,by rw[c.out];exact t.out.cJ (k.out _),u.out.trans (EF.cI (k.out _))⟩;unfold Ag Am;first|(rw[r.out (by omega),c.out];rfl)|(rw[p.out (by omega),c.out];rfl)|(rw[p.out (by intro l;simp_all;done),c.out];rfl))
   ·have az:=N;by_cases M:s[a].toNat=10
    ·have g:=hid (z.out (by simp[CF,Dp,M]));have E:((s[a].toNat:Int)==32)=false:=by grind
     have D:((s[a].toNat:Int)==10)=true:=by grind
     have G:((s[a].toNat:Int)==40)=false:=by grind
     have y:((s[a].toNat:Int)==41)=false:=by grind
     have K:(a:Int)+1<=(s.size:Int):=by omega
     have r:Hid (a=e->AC s v=e+1):=λi=>by unfold AC Eu;rw[c.out,if_pos ⟨by rw[g.out,i],by omega⟩]
     have p:Hid (¬a=e->AC s v=a):=λi=>by unfold AC Eu;rw[c.out,if_neg (λl=>i (by rw[<-g.out];omega))];exact g.out
     have k:Hid (∀f,Below o.heap.size o (wr.drewN f)):=λf=>h.out.2.trans ((Aeu (Acv wr.heap.size wr) f).mono h.out.2.size);go_wp2;all_goals(go_quiet (fail))
     all_goals(try go_wp2)
     all_goals(go_ret2;refine⟨?_,by rw[c.out];exact t.out.cJ (k.out _),u.out.trans (EF.cI (k.out _))⟩;unfold Ag Am;first|(rw[r.out (by omega),c.out];rfl)|(rw[p.out (by omega),c.out];rfl)|(rw[p.out (by intro l;simp_all;done),c.out];rfl))
    ·have ay:=M;by_cases O:s[a].toNat=40
     ·have g:=hid (z.out (by simp[CF,Dp,O]));have E:((s[a].toNat:Int)==32)=false:=by grind
      have D:((s[a].toNat:Int)==10)=false:=by grind
      have G:((s[a].toNat:Int)==40)=true:=by grind
      have y:((s[a].toNat:Int)==41)=false:=by grind
      have K:(a:Int)+1<=(s.size:Int):=by omega
      have r:Hid (a=e->AC s v=e+1):=λi=>by unfold AC Eu;rw[c.out,if_pos ⟨by rw[g.out,i],by omega⟩]
      have p:Hid (¬a=e->AC s v=a):=λi=>by unfold AC Eu;rw[c.out,if_neg (λl=>i (by rw[<-g.out];omega))];exact g.out
      have k:Hid (∀f,Below o.heap.size o (wr.drewN f)):=λf=>h.out.2.trans ((Aeu (Acv wr.heap.size wr) f).mono h.out.2.size);go_wp2;all_goals(go_quiet (fail))
      all_goals(try go_wp2)
      all_goals(go_ret2;refine⟨?_,by rw[c.out];exact t.out.cJ (k.out _),u.out.trans (EF.cI (k.out _))⟩;unfold Ag Am;first|(rw[r.out (by omega),c.out];rfl)|(rw[p.out (by omega),c.out];rfl)|(rw[p.out (by intro l;simp_all;done),c.out];rfl))
     ·have a0:=O;by_cases U:s[a].toNat=41
      ·have g:=hid (z.out (by simp[CF,Dp,U]));have E:((s[a].toNat:Int)==32)=false:=by grind
       have D:((s[a].toNat:Int)==10)=false:=by grind
       have G:((s[a].toNat:Int)==40)=false:=by grind
       have y:((s[a].toNat:Int)==41)=true:=by grind
       have K:(a:Int)+1<=(s.size:Int):=by omega
       have r:Hid (a=e->AC s v=e+1):=λi=>by unfold AC Eu;rw[c.out,if_pos ⟨by rw[g.out,i],by omega⟩]
       have p:Hid (¬a=e->AC s v=a):=λi=>by unfold AC Eu;rw[c.out,if_neg (λl=>i (by rw[<-g.out];omega))];exact g.out
       have k:Hid (∀f,Below o.heap.size o (wr.drewN f)):=λf=>h.out.2.trans ((Aeu (Acv wr.heap.size wr) f).mono h.out.2.size);go_wp2;all_goals(go_quiet (fail))
       all_goals(try go_wp2)
       all_goals(go_ret2;refine⟨?_,by rw[c.out];exact t.out.cJ (k.out _),u.out.trans (EF.cI (k.out _))⟩;unfold Ag Am;first|(rw[r.out (by omega),c.out];rfl)|(rw[p.out (by omega),c.out];rfl)|(rw[p.out (by intro l;simp_all;done),c.out];rfl))
      ·have a1:=U;have E:((s[a].toNat:Int)==32)=false:=by grind
       have D:((s[a].toNat:Int)==10)=false:=by grind
       have G:((s[a].toNat:Int)==40)=false:=by grind
       have y:((s[a].toNat:Int)==41)=false:=by grind
       have af:Hid (Gs s (a+1)=Gs s e):=by show _=_;rw[<-DQ ac (by simp[CF];omega) (by simp[Dp];omega)];exact h.out.1
       go_wp2;all_goals first
        |(exfalso;omega)
        |exact⟨⟨a+1,by omega,by omega,rfl,af.out,h.out.2⟩,by simp[intOf];omega⟩
        |(exfalso;simp[y]at*;done)
        |(exfalso;simp_all;done)
  ·have g:Hid (Gs s e=a):=by show _=_;rw[<-h.out.1];exact CP (by omega)
   have av:¬(a:Int)<(s.size:Int):=by omega
   have ae:Hid (AC s v=a):=by
    show _=_;unfold AC Eu;rw[c.out,if_neg (λl=>by have ag:=l.1;have ao:=g.out;omega)];exact g.out
   have k:Hid (∀f,Below o.heap.size o (wr.drewN f)):=λf=>h.out.2.trans ((Aeu (Acv wr.heap.size wr) f).mono h.out.2.size);go_wp2;all_goals(go_quiet (fail))
   all_goals(try go_wp2)
   all_goals(go_ret2;refine⟨?_,by rw[c.out];exact t.out.cJ (k.out _),u.out.trans (EF.cI (k.out _))⟩;unfold Ag Am;rw[ae.out,c.out])
   all_goals first
    |rfl
    |(have B:a=e:=by omega
      rw[B];simp)
theorem Bl(a:s.toList=wn.toList):s=wn:=by
 rw[Adw,Adw]at a;exact Go.WideShapes.bytes_inj a
theorem BL(g:TX n w s v b d x m q j)(o:s.size<=2000)(c:v<=s.size):
 Adg Acs 39 #[J (some ⟨w,0,none⟩)] n λe p=>BO w s v (AC s v) b d x m q j n e p:=by
 have i:=hid (CQ g o c);have z:=AK c;have y:=GR s v;have B:=Cb c;go_enter Tryz.func39,Tryz.ntmps39;go_wp2_with (first
  |(refine i.out.mono ?_;rintro e D ⟨rfl,a,l⟩;have k:=hid a;have h:=hid l;have u:=a.f 1 (by omega);obtain⟨r,t,-,-,-,-,-,-,-⟩:=a))
 go_ret2
 refine⟨rfl,?_,h.out.set _⟩;have g:=k.out.at (AC s v);grind
def Q5(a:Nat)(k:ByteArray)(i g e j:Nat)(h f c:X)(l:Q)(d:Ending)(b:Q):Prop:=
 d=F (R #[])/\TX b a k i g e j h f c/\EF a l b
theorem AR{c q:Nat}{e:X}(a:TX n w s v b 0 d m e j):
 Adg Acs 41 #[J (some ⟨w,0,none⟩),V C (c:Int),V C (q:Int)] n λh i=>Q5 w s v b c q m e j n h i:=by
 have g:=hid a;have t:=a.f 3 (by omega);have u:=a.f 4 (by omega);obtain⟨k,l,o,p,r,-,-,-,-⟩:=a;go_wp2;refine bE ?_;exact⟨rfl,(g.out.e7 c).place q,((EF.refl w n).set _).set _⟩
theorem Fk{c q:Int}{e:X}(a:TX n w s v b d x m e j)(r:d≠0):
 Adg Acs 41 #[J (some ⟨w,0,none⟩),V C c,V C q] n λg h=>Q5 w s v b d x m e j n g h:=by
 have f:=hid a;have t:(d==0)=false:=by grind
 obtain⟨i,k,l,o,p,-,-,-,-⟩:=a;go_wp2;all_goals first
  |(omega)
  |(refine bE ?_
    exact⟨rfl,f.out,EF.refl w n⟩)
def I6(e:Nat)(d:ByteArray)(l:Pr Unit)(i k:Nat)(j h g:X)(m:Q)(f:Q):Prop:=
 EF e m f/\match l with
  |.ok (_,b)=>TX f e d b i 0 k j h g/\b<=d.size
  |P (c,a)=>∃b,TX f e d b i c a j h g/\b<=d.size
theorem A6{t:ByteArray}{h:X}(a:TX n w s v b 0 d m h j)(H:s.size<=2000)(o:v<=s.size):
 Adg Acs 37 #[J (some ⟨w,0,none⟩),S t] n λf I=>f=F (R #[])/\I6 w s (Al s t v) b d m h j n I:=by
 have e:=hid (BL a H o);have k:=hid (AK o);clear a;obtain⟨p,g⟩:∃p,Ag s v=p:=⟨_,rfl⟩;have y:=hid g;unfold BO at e;rw[g]at e;clear g;go_enter Tryz.func37,Tryz.ntmps37;go_wp2_with (first
  |(refine e.out.mono ?_;rintro f r ⟨rfl,D,z⟩;have l:=hid D;have i:=hid z)
  |(refine((hid (λr (a:TX r w s (AC s v) b 0 d m h j)=>AR (c:=2) (q:=Am s v) a)).out _ l.out).mono ?_;rintro f K ⟨rfl,E,B⟩;have x:=hid E;have u:=hid B))
 all_goals refine bE ?_
 all_goals refine⟨rfl,?_⟩
 all_goals unfold I6 Al
 all_goals rw[y.out]
 ·rw[if_neg (by grind)];exact⟨i.out.trans u.out,_,x.out,k.out⟩
 ·rename_i G
  rw[if_pos (Bl (by simpa using G))];exact⟨i.out,l.out,k.out⟩
def Fu(a:Nat):Bool:=decide (97<=a) && decide (a<=122)
def BR(a:Nat):Bool:=decide (48<=a) && decide (a<=57)
def Kn(b:ByteArray)(a:Nat):Bool:=if h:a<b.size then (Fu b[a].toNat||(decide (a≠0) && BR b[a].toNat)) && Kn b (a+1) else true
termination_by b.size-a
theorem FU{s:ByteArray}{i:Nat}(a:i<s.size):Kn s i=((Fu s[i].toNat||(decide (i≠0) && BR s[i].toNat)) && Kn s (i+1)):=by rw[Kn,dif_pos a]
theorem Mf(a:s.size<=w):Kn s w=true:=by rw[Kn,dif_neg (by omega)]
def Px:List ByteArray:=[⟨#[109,111,100,117,108,101]⟩,⟨#[105,109,112,111,114,116]⟩,⟨#[100,101,102]⟩,⟨#[108,101,116]⟩,⟨#[108,101,116,114,101,99]⟩,⟨#[99,111,110]⟩,⟨#[99,97,115,101]⟩]
def DW(c:ByteArray)(a:Nat):Bool:=(Px.drop a).any λb=>decide (c=b)
theorem Qa(b:ByteArray){a:Nat}(c:a<7):DW b a=(decide (b=Px[a]'c)||DW b (a+1)):=by
 unfold DW;rw[Adv (show a<Px.length from c),Aha];rfl
theorem Sc(a:ByteArray):DW a 7=false:=rfl
def AM(a:ByteArray):Bool:=Kn a 0 && !DW a 0 && decide (0<a.size) && decide (a.size<=10)
theorem Ow(s:ByteArray)(e:Q)(ah:s.size<=2000):Adg Acs 79 #[S s] e λo N=>o=F (A (AM s))/\Below e.heap.size e N:=by
 have z:Hid (AM s=(Kn s 0 && !DW s 0 && decide (0<s.size) && decide (s.size<=10))):=rfl;go_enter Tryz.func79,Tryz.ntmps79;go_wp2;go_loopw [3] (λv wr=>∃i:Nat,i<=s.size/\v=V C (i:Int)/\wr=e/\Hid (Kn s 0=Kn s i)) (λv _=>s.size-(intOf v).toNat)
 case atStart=>exact⟨0,Ac0 _,rfl,rfl,rfl⟩
 case round=>
  obtain⟨i,ag,rfl,g,f⟩:=hrel;replace g:=g.symm
  subst g;by_cases l:i<s.size
  ·have I:(0:Int)<=(i:Int):=by omega
   have K:(i:Int)<(s.size:Int):=by omega
   have ae:s[i].toNat<256:=s[i].toNat_lt;have d:=hid (FU (s:=s) (i:=i) l);by_cases U:s[i].toNat<97
   ·by_cases H:i=0
    ·have x:((i:Int)==0)=true:=by grind
     have h:¬97<=(s[i].toNat:Int):=by omega
     have k:(s[i].toNat:Int)<97:=by omega
     have b:Hid (AM s=false):=by
      have c:Kn s 0=false:=by rw[f.out,d.out];simp[Fu,BR];omega
      simp_all
     go_wp2;all_goals first
      |(exfalso;simp_all;done)
      |(exfalso;simp_all;omega)
      |(go_ret
        exact⟨by rw[b.out];rfl,Acv _ _⟩)
    ·have x:((i:Int)==0)=false:=by grind
     by_cases Y:s[i].toNat<48
     ·have h:¬97<=(s[i].toNat:Int):=by omega
      have ad:¬97<=(s[i].toNat:Int):=h;have k:(s[i].toNat:Int)<97:=by omega
      have p:(s[i].toNat:Int)<48:=by omega
      have q:¬48<=(s[i].toNat:Int):=by omega
      have b:Hid (AM s=false):=by
       have c:Kn s 0=false:=by rw[f.out,d.out];simp[Fu,BR];omega
       simp_all
      go_wp2;all_goals first
       |(exfalso;simp_all;done)
       |(exfalso;simp_all;omega)
       |(go_ret
         exact⟨by rw[b.out];rfl,Acv _ _⟩)
     ·by_cases aa:s[i].toNat<=57
      ·have r:¬97<=(s[i].toNat:Int):=by omega
       have h:(s[i].toNat:Int)<97:=by omega
       have k:¬(s[i].toNat:Int)<48:=by omega
       have p:48<=(s[i].toNat:Int):=by omega
       have q:(s[i].toNat:Int)<=57:=by omega
       have B:¬57<(s[i].toNat:Int):=by omega
       have b:Hid (Kn s 0=Kn s (i+1)):=by
        have c:(Fu s[i].toNat||(decide (i≠0) && BR s[i].toNat))=true:=by simp[Fu,BR];omega
        show _=_;rw[f.out,d.out,c];rfl
       go_wp2;all_goals first
        |exact⟨⟨i+1,by omega,by go_num,by simp,b.out⟩,by simp[intOf];omega⟩
        |(exfalso;simp_all;done)
        |(exfalso;simp_all;omega)
      ·have r:¬97<=(s[i].toNat:Int):=by omega
       have h:(s[i].toNat:Int)<97:=by omega
       have k:¬(s[i].toNat:Int)<48:=by omega
       have p:48<=(s[i].toNat:Int):=by omega
       have q:¬(s[i].toNat:Int)<=57:=by omega
       have B:57<(s[i].toNat:Int):=by omega
       have b:Hid (AM s=false):=by
        have c:Kn s 0=false:=by rw[f.out,d.out];simp[Fu,BR];omega
        simp_all
       go_wp2;all_goals first
        |(exfalso;simp_all;done)
        |(exfalso;simp_all;omega)
        |(go_ret
          exact⟨by rw[b.out];rfl,Acv _ _⟩)
   ·by_cases ab:s[i].toNat<=122
    ·have r:97<=(s[i].toNat:Int):=by omega
     have h:(s[i].toNat:Int)<=122:=by omega
     have k:¬122<(s[i].toNat:Int):=by omega
     have b:Hid (Kn s 0=Kn s (i+1)):=by
      have c:(Fu s[i].toNat||(decide (i≠0) && BR s[i].toNat))=true:=by simp[Fu,BR];omega
      show _=_;rw[f.out,d.out,c];rfl
     go_wp2;all_goals first
      |exact⟨⟨i+1,by omega,by go_num,by simp,b.out⟩,by simp[intOf];omega⟩
      |(exfalso;simp_all;done)
      |(exfalso;simp_all;omega)
    ·have r:97<=(s[i].toNat:Int):=by omega
     have h:¬(s[i].toNat:Int)<=122:=by omega
     have k:122<(s[i].toNat:Int):=by omega
     have p:¬(s[i].toNat:Int)<48:=by omega
     have q:48<=(s[i].toNat:Int):=by omega
     have B:57<(s[i].toNat:Int):=by omega
     have ac:¬(s[i].toNat:Int)<=57:=by omega
     by_cases H:i=0
     ·have x:((i:Int)==0)=true:=by grind
      have b:Hid (AM s=false):=by
       have c:Kn s 0=false:=by rw[f.out,d.out];simp[Fu,BR];omega
       simp_all
      go_wp2;all_goals first
       |(exfalso;simp_all;done)
       |(exfalso;simp_all;omega)
       |(go_ret
         exact⟨by rw[b.out];rfl,Acv _ _⟩)
     ·have x:((i:Int)==0)=false:=by grind
      have b:Hid (AM s=false):=by
       have c:Kn s 0=false:=by rw[f.out,d.out];simp[Fu,BR];omega
       simp_all
      go_wp2;all_goals first
       |(exfalso;simp_all;done)
       |(exfalso;simp_all;omega)
       |(go_ret
         exact⟨by rw[b.out];rfl,Acv _ _⟩)
  ·have af:¬(i:Int)<(s.size:Int):=by omega
   obtain rfl:i=s.size:=by omega
   have E:Hid (Kn s 0=true):=by show _=_;rw[f.out];exact Mf (Acu _)
   go_wp2;have D:Hid (∀a (t:a<7),(e.alloc (Adi #[S ⟨#[109,111,100,117,108,101]⟩,S ⟨#[105,109,112,111,114,116]⟩,S ⟨#[100,101,102]⟩,S ⟨#[108,101,116]⟩,S ⟨#[108,101,116,114,101,99]⟩,S ⟨#[99,111,110]⟩,S ⟨#[99,97,115,101]⟩] 9)).cell? ⟨e.heap.size,a,none⟩=some (S (Px[a]'t))):=by
    intro a t;rcases(show a=0\/a=1\/a=2\/a=3\/a=4\/a=5\/a=6 by omega) with rfl|rfl|rfl|rfl|rfl|rfl|rfl<;>simp[Px]
   have m:Hid (Below e.heap.size e (e.alloc (Adi #[S ⟨#[109,111,100,117,108,101]⟩,S ⟨#[105,109,112,111,114,116]⟩,S ⟨#[100,101,102]⟩,S ⟨#[108,101,116]⟩,S ⟨#[108,101,116,114,101,99]⟩,S ⟨#[99,111,110]⟩,S ⟨#[99,97,115,101]⟩] 9))):=bA;generalize e.alloc (Adi #[S ⟨#[109,111,100,117,108,101]⟩,S ⟨#[105,109,112,111,114,116]⟩,S ⟨#[100,101,102]⟩,S ⟨#[108,101,116]⟩,S ⟨#[108,101,116,114,101,99]⟩,S ⟨#[99,111,110]⟩,S ⟨#[99,97,115,101]⟩] 9)=W at*;go_loopw [6] (λw wr=>∃a:Nat,a<=7/\w=V C (a:Int)/\wr=W/\Hid (DW s 0=DW s a)) (λw _=>7-(intOf w).toNat)
   case atStart=>exact⟨0,by omega,rfl,rfl,rfl⟩
   case round=>
    obtain⟨a,t,rfl,g,n⟩:=hrel;replace g:=g.symm
    subst g;by_cases l:a<7
    ·have I:(0:Int)<=(a:Int):=by omega
     have K:(a:Int)<7:=by omega
     have G:=D.out a l;have d:=hid (Qa s l);obtain⟨rk,u⟩:∃M,Px[a]'l=M:=⟨_,rfl⟩;have O:=hid u;rw[u]at G d;clear u;go_wp2
     ·rename_i j
      have o:=Bl (by simpa using j);go_ret;refine⟨?_,m.out⟩;have c:DW s 0=true:=by rw[n.out,d.out,o];simp
      rw[z.out,c];simp
     ·rename_i j
      have L:¬s=rk:=λc=>by grind
      have c:DW s 0=DW s (a+1):=by rw[n.out,d.out];simp[L]
      exact⟨⟨a+1,by omega,by go_num,by simp,c⟩,by simp[intOf];omega⟩
    ·obtain rfl:a=7:=by omega
     have y:Hid (AM s=(decide (0<s.size) && decide (s.size<=10))):=by show _=_;rw[z.out,E.out,n.out,Sc];rfl
     go_wp2
     ·rename_i j
      go_ret;refine⟨?_,m.out⟩;rw[y.out];simp[j];omega
     ·rename_i j
      go_ret;refine⟨?_,m.out⟩;rw[y.out];simp[j]
def Im{m:Type}(e:Nat)(d:ByteArray)(l:Pr m)(h k:Nat)(i g f:X)(j:Q):Prop:=match l with
 |.ok (_,b)=>TX j e d b h 0 k i g f/\b<=d.size
 |P (c,a)=>∃b,TX j e d b h c a i g f/\b<=d.size
def AV(b:ByteArray)(a:Nat):Pr (ByteArray×Nat):=if AM (Ag b a)=true then .ok ((Ag b a,Am b a),AC b a) else P (2,Am b a)
theorem Fw{z:X}(p:TX n w s v b 0 d m z j)(N:s.size<=2000)(x:v<=s.size):
 Adg Acs 38 #[J (some ⟨w,0,none⟩)] n λf I=>f=F (R #[S (Ag s v),V C (Am s v:Int)])/\EF w n I/\Im w s (AV s v) b d m z j I:=by
 have a:=hid (BL p N x);have t:=hid (AK x);have D:=hid (Cb x);have e:=hid (λl=>Ow (Ag s v) l (by have Y:=D.out;have aa:=t.out;omega));have o:Hid (AV s v=if AM (Ag s v)=true then .ok ((Ag s v,Am s v),AC s v) else P (2,Am s v)):=rfl;obtain⟨B,y⟩:∃B,Ag s v=B:=⟨_,rfl⟩;unfold BO at a;rw[y]at a e o;rw[y];clear y p D;obtain⟨U,H⟩:∃M,AM B=M:=⟨_,rfl⟩;rw[H]at e o;clear H;cases U
 ·go_enter Tryz.func38,Tryz.ntmps38;go_wp2_with (first
   |(go_at_call 39;refine a.out.mono ?_;rintro f l ⟨rfl,i,h⟩;have u:=hid i;have r:=hid h;clear i h a)
   |(go_at_call 79;refine(e.out _).mono ?_;rintro f O ⟨rfl,k⟩;have g:=hid k;clear k e)
   |(go_at_call 41;refine((hid (λl (p:TX l w s (AC s v) b 0 d m z j)=>AR (c:=2) (q:=Am s v) p)).out _ (u.out.cJ g.out)).mono ?_;rintro f ab ⟨rfl,G,E⟩;have L:=hid G;have K:=hid E;clear G E))
  go_ret2
  refine⟨rfl,(r.out.trans (EF.cI g.out)).trans K.out,?_⟩;rw[o.out];exact⟨_,L.out,t.out⟩
 ·go_enter Tryz.func38,Tryz.ntmps38;go_wp2_with (first
   |(go_at_call 39;refine a.out.mono ?_;rintro f l ⟨rfl,i,h⟩;have u:=hid i;have r:=hid h;clear i h a)
   |(go_at_call 79;refine(e.out _).mono ?_;rintro f O ⟨rfl,k⟩;have g:=hid k;clear k e))
  go_ret2
  refine⟨rfl,r.out.trans (EF.cI g.out),?_⟩;rw[o.out];exact⟨u.out.cJ g.out,t.out⟩
def JG(a:ByteArray)(b c:Nat):Option Nat:=if h:b<a.size then (if BR a[b].toNat=true then JG a (b+1) (10*c+(a[b].toNat-48)) else none) else some c
termination_by a.size-b
theorem HF{d:ByteArray}{i n:Nat}(a:i<d.size)(b:BR d[i].toNat=true):JG d i n=JG d (i+1) (10*n+(d[i].toNat-48)):=by rw[JG,dif_pos a,if_pos b]
theorem IW(a:w<s.size)(b:BR s[w].toNat=false):JG s w v=none:=by rw[JG,dif_pos a,if_neg (by simp[b])]
theorem Hu(a:s.size<=w):JG s w v=some v:=by rw[JG,dif_neg (by omega)]
def En(a:ByteArray):Bool:=match a[0]? with|some b=>decide (b.toNat=45)|none=>false
def Bw(a:ByteArray):Bool:=match a[0]? with|some b=>decide (b.toNat=48)|none=>false
def Bb(a:ByteArray):ByteArray:=if En a=true then a.extract 1 a.size else a
def Aw(a:ByteArray):Option Int:=
 if (Bb a).size=0\/(Bw (Bb a)=true/\¬a=⟨#[48]⟩)\/19<(Bb a).size then none else
  match JG (Bb a) 0 0 with
  |none=>none
  |some b=>if En a=true then (if b<=9223372036854775808 then some (-(b:Int)) else none) else (if b<9223372036854775808 then some (b:Int) else none)
def Iy(b:Option Int)(d:Q)(e:Ending)(f:Q):Prop:=Below d.heap.size d f/\∃a:Int,e=F (R #[V C a,A b.isSome])/\∀c,b=some c->a=c
theorem Abq(a:Nat)(d:a<=9223372036854775808):Aer (Aer (-Aer (IntKind.u64.wrap ((a:Int)-1)))-1)=-(a:Int):=by
 by_cases b:a=0
 ·subst b;kernel_rfl
 ·have c:IntKind.u64.wrap (a-1)=((a-1:Nat)):=by rw[show((a:Int)-1)=((a-1:Nat):Int) by omega];exact WN _ (by omega)
  unfold Aer;omega
theorem Sz(a:ByteArray)(o:Q)(k:0<a.size)(h:En a=false)(ad:¬a[0].toNat=48)(I:a.size<=19):Adg Acs 81 #[S a] o λv B=>Iy (Aw a) o v B:=by
 have t:=hid h;have p:Hid (Bb a=a):=by show _=_;unfold Bb;rw[h];rfl
 have w:∀b:0<a.size,a[0]?=some (a[0]'b):=λb=>getElem?_pos a 0 b;have q:Hid (¬(a.size=0\/(Bw a=true/\¬a=⟨#[48]⟩)\/19<a.size)):=by
  intro b;have ae:Bw a=false:=by unfold Bw;grind
  grind
 have N:a[0].toNat≠45:=by
  have b:=h;unfold En at b;grind
 have ai:((a[0].toNat:Int)==45)=false:=by grind
 have aj:((a[0].toNat:Int)==48)=false:=by grind
 have ak:(0:Int)<(a.size:Int):=by omega
 have al:¬19<(a.size:Int):=by omega
 have am:(a.size:Int)<=19:=by omega
 have U:¬a.toList=[]:=λb=>by
  rw[Adw]at b;have H:a.data.toList.length=a.size:=rfl;grind
 have Y:a.toList.isEmpty=false:=by grind
 clear w h;go_enter Tryz.func81,Tryz.ntmps81;go_wp2;go_loopw [6,7] (λz m wr=>∃(i n:Nat),i<=a.size/\m=V C (i:Int)/\z=V .u64 (n:Int)/\n<10 ^ i/\wr=o/\Hid (JG a 0 0=JG a i n)) (λ_ m _=>a.size-(intOf m).toNat)
 case atStart=>exact⟨0,0,Ac0 _,rfl,rfl,.refl,rfl,rfl⟩
 case round=>
  obtain⟨i,n,M,rfl,rfl,O,l,j⟩:=hrel;replace l:=l.symm
  subst l;by_cases k:i<a.size
  ·have E:(0:Int)<=(i:Int):=by omega
   have G:(i:Int)<(a.size:Int):=by omega
   have K:a[i].toNat<256:=a[i].toNat_lt;by_cases g:BR a[i].toNat=true
   ·have x:48<=a[i].toNat/\a[i].toNat<=57:=by simpa[BR]using g
    have r:¬(a[i].toNat:Int)<48:=by omega
    have af:¬57<(a[i].toNat:Int):=by omega
    have ag:(a[i].toNat:Int)<=57:=by omega
    have ah:48<=(a[i].toNat:Int):=by omega
    have aa:10 ^ i<=1000000000000000000:=Ac5 (Abf (by omega) (show i<=18 by omega)) .refl;have y:10*n+(a[i].toNat-48)<10 ^ (i+1):=by omega
    have u:=hid (HF (d:=a) (i:=i) (n:=n) k g);go_wp2;all_goals first
     |exact⟨⟨i+1,10*n+(a[i].toNat-48),by omega,rfl,by congr 1;omega,y,by simp,j.out.trans u.out⟩,by simp[intOf];omega⟩
     |(exfalso;omega)
   ·have x:a[i].toNat<48\/57<a[i].toNat:=by simp[BR]at g;omega
    have f:Hid (Aw a=none):=by
     have b:JG a 0 0=none:=by rw[j.out];exact IW k (by simpa using g)
     show _=_;unfold Aw;rw[p.out,if_neg q.out,b]
    go_wp2;all_goals first
     |(exfalso;omega)
     |(go_ret2;exact⟨Acv _ _,0,by rw[f.out];rfl,λs c=>by rw[f.out]at c;cases c⟩)
  ·obtain rfl:i=a.size:=by omega
   have L:¬((a.size:Nat):Int)<(a.size:Int):=by omega
   have f:Hid (JG a 0 0=some n):=by show _=_;rw[j.out];exact Hu (Acu _)
   have D:Hid (Aw a=if n<9223372036854775808 then some (n:Int) else none):=by
    show _=_;unfold Aw;rw[p.out,if_neg q.out,f.out,t.out];rfl
   have ab:10 ^ a.size<=10000000000000000000:=Ac5 (Abf (by omega) (show a.size<=19 by omega)) .refl;by_cases ac:n<9223372036854775808
   ·have r:(n:Int)<9223372036854775808:=by omega
    have e:Hid (Aw a=some (n:Int)):=by grind
    go_wp2;all_goals first
     |(go_ret2;exact⟨Acv _ _,n,by rw[e.out];simp,λs c=>by rw[e.out]at c;cases c;rfl⟩)
   ·have r:¬(n:Int)<9223372036854775808:=by omega
    have e:Hid (Aw a=none):=by grind
    go_wp2;all_goals first
     |(go_ret2;refine⟨Acv _ _,_,by rw[e.out];simp;rfl,λs c=>by rw[e.out]at c;cases c⟩)
theorem PZ(a:ByteArray)(o:Q)(e:a=⟨#[48]⟩):Adg Acs 81 #[S a] o λv D=>Iy (Aw a) o v D:=by
 have E:=hid e;have x:a.size=1:=by rw[e];rfl
 have j:0<a.size:=by omega
 have ab:a[0].toNat=48:=by subst e;rfl
 have k:En a=false:=by rw[e];rfl
 have t:=hid k;have p:Hid (Bb a=a):=by show _=_;unfold Bb;rw[k];rfl
 have q:Hid (¬(a.size=0\/(Bw a=true/\¬a=⟨#[48]⟩)\/19<a.size)):=by
  simp_all
 have af:((a[0].toNat:Int)==45)=false:=by grind
 have ag:((a[0].toNat:Int)==48)=true:=by grind
 have ah:(0:Int)<(a.size:Int):=by omega
 have ai:¬19<(a.size:Int):=by omega
 have aj:(a.size:Int)<=19:=by omega
 have aa:a.toList=[48]:=by simp_all
 clear k e x;go_enter Tryz.func81,Tryz.ntmps81;go_wp2;go_loopw [6,7] (λB m wr=>∃(i n:Nat),i<=a.size/\m=V C (i:Int)/\B=V .u64 (n:Int)/\n<10 ^ i/\wr=o/\Hid (JG a 0 0=JG a i n)) (λ_ m _=>a.size-(intOf m).toNat)
 case atStart=>exact⟨0,0,Ac0 _,rfl,rfl,.refl,rfl,rfl⟩
 case round=>
  obtain⟨i,n,M,rfl,rfl,N,l,h⟩:=hrel;replace l:=l.symm
  subst l;by_cases j:i<a.size
  ·have H:(0:Int)<=(i:Int):=by omega
   have I:(i:Int)<(a.size:Int):=by omega
   have K:a[i].toNat<256:=a[i].toNat_lt;by_cases g:BR a[i].toNat=true
   ·have y:48<=a[i].toNat/\a[i].toNat<=57:=by simpa[BR]using g
    have r:¬(a[i].toNat:Int)<48:=by omega
    have ac:¬57<(a[i].toNat:Int):=by omega
    have ad:(a[i].toNat:Int)<=57:=by omega
    have ae:48<=(a[i].toNat:Int):=by omega
    have O:10 ^ i<=1000000000000000000:=Ac5 (Abf (by omega) (show i<=18 by omega)) .refl;have z:10*n+(a[i].toNat-48)<10 ^ (i+1):=by omega
    have u:=hid (HF (d:=a) (i:=i) (n:=n) j g);go_wp2;all_goals first
     |exact⟨⟨i+1,10*n+(a[i].toNat-48),by omega,rfl,by congr 1;omega,z,by simp,h.out.trans u.out⟩,by simp[intOf];omega⟩
     |(exfalso;omega)
   ·have y:a[i].toNat<48\/57<a[i].toNat:=by simp[BR]at g;omega
    have f:Hid (Aw a=none):=by
     have w:JG a 0 0=none:=by rw[h.out];exact IW j (by simpa using g)
     show _=_;unfold Aw;rw[p.out,if_neg q.out,w]
    go_wp2;all_goals first
     |(exfalso;omega)
     |(go_ret2;exact⟨Acv _ _,0,by rw[f.out];rfl,λs b=>by rw[f.out]at b;cases b⟩)
  ·obtain rfl:i=a.size:=by omega
   have L:¬((a.size:Nat):Int)<(a.size:Int):=by omega
   have f:Hid (JG a 0 0=some n):=by show _=_;rw[h.out];exact Hu (Acu _)
   have G:Hid (Aw a=if n<9223372036854775808 then some (n:Int) else none):=by
    show _=_;unfold Aw;rw[p.out,if_neg q.out,f.out,t.out];rfl
   have U:10 ^ a.size<=10000000000000000000:=Ac5 (Abf (by omega) (show a.size<=19 by omega)) .refl;by_cases Y:n<9223372036854775808
   ·have r:(n:Int)<9223372036854775808:=by omega
    have c:Hid (Aw a=some (n:Int)):=by grind
    go_wp2;all_goals first
     |(go_ret2;exact⟨Acv _ _,n,by rw[c.out];simp,λs b=>by rw[c.out]at b;cases b;rfl⟩)
   ·have r:¬(n:Int)<9223372036854775808:=by omega
    have c:Hid (Aw a=none):=by grind
    go_wp2;all_goals first
     |(go_ret2;refine⟨Acv _ _,_,by rw[c.out];simp;rfl,λs b=>by rw[c.out]at b;cases b⟩)
theorem R8(b a:ByteArray)(q:Q)(ai:b.size<=2000)(m:En b=true)(k:b.extract 1 b.size=a)(D:0<a.size)(aj:¬a[0].toNat=48)(U:a.size<=19):Adg Acs 81 #[S b] q λy K=>Iy (Aw b) q y K:=by
 have w:=hid m;have r:Hid (Bb b=a):=by show _=_;unfold Bb;grind
 have l:1<b.size:=by rw[<-k,Aac]at D;omega
 have z:a.size=b.size-1:=by rw[<-k,Aac];omega
 have H:(b.extract 1 b.size).size=a.size:=by rw[k]
 have s:Hid (¬(a.size=0\/(Bw a=true/\¬b=⟨#[48]⟩)\/19<a.size)):=by
  intro e;have ak:Bw a=false:=by unfold Bw;grind
  grind
 have ac:b[0].toNat=45:=by
  have e:=m;unfold En at e;grind
 have an:((b[0].toNat:Int)==45)=true:=by grind
 have ao:((a[0].toNat:Int)==48)=false:=by grind
 have ap:(0:Int)<(b.size:Int):=by omega
 have au:(1:Int)<=(b.size:Int):=by omega
 have aq:¬19<(a.size:Int):=by omega
 have ar:(a.size:Int)<=19:=by omega
 have av:(0:Int)<(a.size:Int):=by omega
 have ae:¬a.toList=[]:=λe=>by
  rw[Adw]at e;have O:a.data.toList.length=a.size:=rfl;grind
 have af:a.toList.isEmpty=false:=by grind
 clear m H z;go_enter Tryz.func81,Tryz.ntmps81;go_wp2;go_loopw [6,7] (λI p wr=>∃(i n:Nat),i<=a.size/\p=V C (i:Int)/\I=V .u64 (n:Int)/\n<10 ^ i/\wr=q/\Hid (JG a 0 0=JG a i n)) (λ_ p _=>a.size-(intOf p).toNat)
 case atStart=>exact⟨0,0,Ac0 _,rfl,rfl,.refl,rfl,rfl⟩
 case round=>
  obtain⟨i,n,ab,rfl,rfl,ad,o,j⟩:=hrel;replace o:=o.symm
  subst o;by_cases l:i<a.size
  ·have M:(0:Int)<=(i:Int):=by omega
   have N:(i:Int)<(a.size:Int):=by omega
   have Y:a[i].toNat<256:=a[i].toNat_lt;by_cases h:BR a[i].toNat=true
   ·have B:48<=a[i].toNat/\a[i].toNat<=57:=by simpa[BR]using h
    have t:¬(a[i].toNat:Int)<48:=by omega
    have u:¬57<(a[i].toNat:Int):=by omega
    have al:(a[i].toNat:Int)<=57:=by omega
    have am:48<=(a[i].toNat:Int):=by omega
    have ag:10 ^ i<=1000000000000000000:=Ac5 (Abf (by omega) (show i<=18 by omega)) .refl;have E:10*n+(a[i].toNat-48)<10 ^ (i+1):=by omega
    have x:=hid (HF (d:=a) (i:=i) (n:=n) l h);go_wp2;all_goals first
     |exact⟨⟨i+1,10*n+(a[i].toNat-48),by omega,rfl,by congr 1;omega,E,by simp,j.out.trans x.out⟩,by simp[intOf];omega⟩
     |(exfalso;omega)
   ·have B:a[i].toNat<48\/57<a[i].toNat:=by simp[BR]at h;omega
    have g:Hid (Aw b=none):=by
     have e:JG a 0 0=none:=by rw[j.out];exact IW l (by simpa using h)
     show _=_;unfold Aw;rw[r.out,if_neg s.out,e]
    go_wp2;all_goals first
     |(exfalso;omega)
     |(go_ret2;exact⟨Acv _ _,0,by rw[g.out];rfl,λv c=>by rw[g.out]at c;cases c⟩)
  ·obtain rfl:i=a.size:=by omega
   have aa:¬((a.size:Nat):Int)<(a.size:Int):=by omega
   have g:Hid (JG a 0 0=some n):=by show _=_;rw[j.out];exact Hu (Acu _)
   have L:Hid (Aw b=if n<=9223372036854775808 then some (-(n:Int)) else none):=by
    show _=_;unfold Aw;rw[r.out,if_neg s.out,g.out,w.out];rfl
   have ah:10 ^ a.size<=10000000000000000000:=Ac5 (Abf (by omega) (show a.size<=19 by omega)) .refl;by_cases G:n<=9223372036854775808
   ·have t:(n:Int)<=9223372036854775808:=by omega
    have u:¬9223372036854775808<(n:Int):=by omega
    have f:Hid (Aw b=some (-(n:Int))):=by grind
    go_wp2;go_ret2
    exact⟨Acv _ _,_,by rw[f.out];rfl,λv c=>by rw[f.out]at c;cases c;exact Abq n G⟩
   ·have t:¬(n:Int)<=9223372036854775808:=by omega
    have u:9223372036854775808<(n:Int):=by omega
    have f:Hid (Aw b=none):=by grind
    go_wp2;all_goals first
     |(go_ret2;refine⟨Acv _ _,_,by rw[f.out];simp;rfl,λv c=>by rw[f.out]at c;cases c⟩)
theorem JE(a:ByteArray)(b:(Bb a).size=0\/(Bw (Bb a)=true/\¬a=⟨#[48]⟩)\/19<(Bb a).size):Aw a=none:=by unfold Aw;rw[if_pos b]
theorem L4(a:ByteArray)(h:Q)(e:En a=false)(d:a.size=0\/(Bw a=true/\¬a=⟨#[48]⟩)\/19<a.size):Adg Acs 81 #[S a] h λj n=>Iy (Aw a) h j n:=by
 have i:Hid (Bb a=a):=by unfold Bb;rw[e];rfl
 have f:Hid (Aw a=none):=JE a (by rw[i.out];exact d);by_cases o:a.size=0
 ·have l:a=⟨#[]⟩:=by
   apply Abx;simp_all
  subst l;clear d e;go_enter Tryz.func81,Tryz.ntmps81;go_wp2;go_ret2
  exact⟨Acv _ _,0,rfl,λm c=>by rw[f.out]at c;cases c⟩
 ·have q:0<a.size:=by omega
  have r:a[0].toNat≠45:=by
   have b:=e;unfold En at b;grind
  have s:((a[0].toNat:Int)==45)=false:=by grind
  have t:(0:Int)<(a.size:Int):=by omega
  have g:Hid ((a[0].toNat=48/\¬a.toList=[48])\/19<a.size):=by
   rcases d with b|b|b
   ·omega
   ·left
    refine⟨?_,λp=>b.2 (Bl (by simp_all))⟩;have k:=b.1;unfold Bw at k;grind
   ·exact Ad7 b
  clear d e;go_enter Tryz.func81,Tryz.ntmps81;go_wp2;all_goals first
   |(go_ret2;exact⟨Acv _ _,0,by rw[f.out];rfl,λm c=>by rw[f.out]at c;cases c⟩)
   |(exfalso;have b:=g.out;simp_all;done)
   |(exfalso;have b:=g.out;simp_all;omega)
theorem Mb(a c:ByteArray)(j:Q)(w:a.size<=2000)(f:En a=true)(s:a.extract 1 a.size=c)(g:c.size=0\/Bw c=true\/19<c.size):Adg Acs 81 #[S a] j λl p=>Iy (Aw a) j l p:=by
 have k:Hid (Bb a=c):=by show _=_;unfold Bb;grind
 have u:0<a.size:=by
  rcases Ahj a.size with b|b
  ·have m:=f;unfold En at m;grind
  omega
 have v:a[0].toNat=45:=by
  have b:=f;unfold En at b;grind
 have h:¬a=⟨#[48]⟩:=λb=>by
  have r:a[0].toNat=48:=by subst b;rfl
  omega
 have e:Hid (Aw a=none):=JE a (by
  rw[k.out];grind)
 have y:((a[0].toNat:Int)==45)=true:=by grind
 have z:(0:Int)<(a.size:Int):=by omega
 have B:(1:Int)<=(a.size:Int):=by omega
 have x:¬a.toList=[48]:=λb=>h (Bl (by simp_all));by_cases q:c.size=0
 ·have n:c=⟨#[]⟩:=by
   apply Abx;simp_all
  subst n;clear g f h;go_enter Tryz.func81,Tryz.ntmps81;go_wp2;all_goals first
   |(go_ret2;exact⟨Acv _ _,0,by rw[e.out];rfl,λo d=>by rw[e.out]at d;cases d⟩)
   |(exfalso;simp_all;done)
 ·have t:0<c.size:=by omega
  have D:(0:Int)<(c.size:Int):=by omega
  have i:Hid (c[0].toNat=48\/19<c.size):=by
   rcases g with b|b|b
   ·omega
   ·left
    unfold Bw at b;grind
   ·exact Ad7 b
  clear g f h;go_enter Tryz.func81,Tryz.ntmps81;go_wp2;all_goals first
   |(go_ret2;exact⟨Acv _ _,0,by rw[e.out];rfl,λo d=>by rw[e.out]at d;cases d⟩)
   |(exfalso;have b:=i.out;omega)
   |(exfalso;have b:=i.out;omega)
theorem K8(a:ByteArray)(b:Q)(h:a.size<=2000):Adg Acs 81 #[S a] b λj k=>Iy (Aw a) b j k:=by
 have i:∀f c,(Bw f=true↔f[0].toNat=48):=λf c=>by unfold Bw;grind
 cases hn:En a
 ·by_cases d:a.size=0\/(Bw a=true/\¬a=⟨#[48]⟩)\/19<a.size
  ·exact L4 a b hn d
  ·have e:0<a.size:=by omega
   by_cases g:a=⟨#[48]⟩
   ·exact PZ a b g
   ·exact Sz a b e hn (λc=>d (Ad7 (Ads ⟨(i a e).2 c,g⟩))) (by omega)
 ·by_cases d:(a.extract 1 a.size).size=0\/Bw (a.extract 1 a.size)=true\/19<(a.extract 1 a.size).size
  ·exact Mb a _ b h hn rfl d
  ·have e:0<(a.extract 1 a.size).size:=by omega
   exact R8 a _ b h hn rfl e (λc=>d (Ad7 (Ads ((i _ e).2 c)))) (by omega)
def Bt(b:ByteArray)(c:Nat)(a:Nat):Pr (Nat×Nat):=match Aw (Ag b a) with
 |some v=>if 0<=v/\v<=(c:Int) then .ok ((v.toNat,Am b a),AC b a) else P (2,Am b a)
 |none=>P (2,Am b a)
theorem ES{s:ByteArray}{a most:Nat}{O:X}(B:TX n w s a b 0 d m O j)(ah:s.size<=2000)(N:a<=s.size):
 Adg Acs 43 #[J (some ⟨w,0,none⟩),V C (most:Int)] n λf ae=>EF w n ae/\Im w s (Bt s most a) b d m O j ae/\∃t:Int,f=F (R #[V C t,V C (Am s a:Int)])/\∀x q,Bt s most a=.ok (x,q)->t=(x.1:Int)/\x.1<=most:=by
 have i:=hid (BL B ah N);have H:=hid (AK N);have ab:=hid (Cb (s:=s) N);have aa:=hid (λu (B:TX u w s (AC s a) b 0 d m O j)=>AR (c:=2) (q:=Am s a) B);have e:=hid (λu=>K8 (Ag s a) u (by have aj:=ab.out;have ak:=H.out;omega));have r:Hid (Bt s most a=match Aw (Ag s a) with
  |some v=>if 0<=v/\v<=(most:Int) then .ok ((v.toNat,Am s a),AC s a) else P (2,Am s a)
  |none=>P (2,Am s a)):=rfl
 obtain⟨Y,ad⟩:∃Y,Ag s a=Y:=⟨_,rfl⟩;unfold BO at i;rw[ad]at i e r;clear ad B ab;unfold Iy at e;obtain⟨U,ac⟩:∃U,Aw Y=U:=⟨_,rfl⟩;rw[ac]at e r;clear ac;cases U with
 |none=>
  have h:Hid (Bt s most a=P (2,Am s a)):=r.out;clear r;go_enter Tryz.func43,Tryz.ntmps43;go_wp2_with (first
   |(go_at_call 39;refine i.out.mono ?_;rintro f u ⟨rfl,l,k⟩;have z:=hid l;have y:=hid k;clear l k i)
   |(go_at_call 81;refine(e.out _).mono ?_;rintro f af ⟨o,t,rfl,-⟩;have g:=hid o;clear o e)
   |(go_at_call 41;refine(aa.out _ (z.out.cJ g.out)).mono ?_;rintro f ai ⟨rfl,E,D⟩;have L:=hid E;have K:=hid D;clear E D))
  go_ret2
  refine⟨(y.out.trans (EF.cI g.out)).trans K.out,by rw[h.out];exact⟨_,L.out,H.out⟩,t,rfl,λx q p=>by rw[h.out]at p;cases p⟩
 |some v=>
  by_cases I:0<=v/\v<=(most:Int)
  ·have h:Hid (Bt s most a=.ok ((v.toNat,Am s a),AC s a)):=by grind
   clear r;have al:¬v<0:=by omega
   have am:¬(most:Int)<v:=by omega
   have an:=I.2;have ao:=I.1;go_enter Tryz.func43,Tryz.ntmps43;go_wp2_with (first
    |(go_at_call 39;refine i.out.mono ?_;rintro f u ⟨rfl,l,k⟩;have z:=hid l;have y:=hid k;clear l k i)
    |(go_at_call 81;refine(e.out _).mono ?_;rintro f af ⟨o,t,rfl,G⟩;have M:=G v rfl;subst M;have g:=hid o;clear o e G))
   go_ret2
   refine⟨y.out.trans (EF.cI g.out),by rw[h.out];exact⟨z.out.cJ g.out,H.out⟩,_,rfl,λx q p=>?_⟩;rw[h.out]at p;grind
  ·have h:Hid (Bt s most a=P (2,Am s a)):=by grind
   clear r;have ag:=hid I;clear I;go_enter Tryz.func43,Tryz.ntmps43;go_wp2_with (first
    |(go_at_call 39;refine i.out.mono ?_;rintro f u ⟨rfl,l,k⟩;have z:=hid l;have y:=hid k;clear l k i)
    |(go_at_call 81;refine(e.out _).mono ?_;rintro f af ⟨o,t,rfl,G⟩;have M:=G v rfl;subst M;have g:=hid o;clear o e G)
    |(go_at_call 41;refine(aa.out _ (z.out.cJ g.out)).mono ?_;rintro f ai ⟨rfl,E,D⟩;have L:=hid E;have K:=hid D;clear E D))
   all_goals first
    |(go_ret2
      exact⟨(y.out.trans (EF.cI g.out)).trans K.out,by rw[h.out];exact⟨_,L.out,H.out⟩,_,rfl,λx q p=>by rw[h.out]at p;cases p⟩)
    |(exfalso;have B:=ag.out;omega)
structure FB (d:Q) (b:X) (a:List ByteArray):Prop where
 it:∃p c,b=W p a.length c/\∀i (hi:i<a.length),∃g o,p=some ⟨g,o,none⟩/\d.cell? ⟨g,o+i,none⟩=some (.string a[i])
theorem FB.cS(d:n.ownsRow 0 9 1 m y.length (y.map .string)):FB n m y:=by
 rcases FL d with⟨rfl,e⟩|⟨c,b,rfl,-,g⟩
 ·obtain rfl:y=[]:=Aeo e;exact⟨none,0,rfl,λf a=>absurd a nofun⟩
 ·refine⟨_,b,rfl,λf a=>⟨c,0,rfl,?_⟩⟩;grind
def A3(d:ByteArray)(b:List ByteArray)(a:Nat):Bool:=(b.drop a).any λc=>decide (c=d)
theorem JY(c:ByteArray)(b:List ByteArray){a:Nat}(d:a<b.length):A3 c b a=(decide (b[a]=c)||A3 c b (a+1)):=by
 unfold A3;rw[Adv d,Aha]
theorem Mn(b:ByteArray)(a:List ByteArray):A3 b a a.length=false:=by unfold A3;simp
theorem Fv(c:ByteArray)(a:List ByteArray)(n:X)(d:Q)(h:FB d n a)(B:a.length<=100000):Adg Acs 45 #[S c,n] d λg t=>g=F (A (A3 c a 0))/\t=d:=by
 obtain⟨E,u,rfl,j⟩:=h.it;have o:=hid j;clear h j;go_wp2;go_loopw [5] (λi wr=>∃b,b<=a.length/\i=V C b/\wr=d/\Hid (A3 c a 0=A3 c a b)) (λi _=>a.length-(intOf i).toNat)
 case atStart=>exact⟨0,Ac0 _,rfl,rfl,rfl⟩
 case round=>
  obtain⟨b,z,rfl,r,e⟩:=hrel;subst r;by_cases l:b<a.length
  ·have w:0<=b:=by omega
   have x:b<a.length:=by omega
   obtain⟨v,D,rfl,p⟩:=o.out b l;have f:=hid (JY c a l);obtain⟨rk,m⟩:∃s,a[b]=s:=⟨_,rfl⟩;rw[m]at p f;clear m;go_wp2
   ·rename_i k
    have g:=Bl (by simpa using k);go_ret;rw[e.out,f.out,g];simp
   ·rename_i k
    have q:¬rk=c:=λh=>by grind
    exact⟨⟨b+1,by omega,rfl,by simp,by show _=_;rw[e.out,f.out];simp[q]⟩,by simp[intOf];omega⟩
  ·obtain rfl:b=a.length:=by omega
   have y:¬a.length<a.length:=by omega
   go_wp2;go_ret;refine⟨?_,rfl⟩;rw[e.out,Mn];rfl
theorem Tryz.fe:(Acs.info? 9).map (λa=>(a.zero,a.size,a.bytes))=some (some (S ⟨#[]⟩),1,16):=by kernel_rfl
theorem Tryz.fG:(Acs.info? 3).map (λa=>(a.zero,a.size,a.bytes))=some (some (V C 0),1,8):=by kernel_rfl
abbrev Av:=List (ByteArray×Nat)
structure Bc (e:Q) (c:Nat) (b d:X) (a:Av):Prop where
 l:e.ownsRow c 9 1 b a.length (a.map λx=>S x.1)
 p:e.ownsRow c 3 1 d a.length (a.map λx=>V C (x.2:Int))
 ne:b.ownBlock=none\/b.ownBlock≠d.ownBlock
theorem Fp(a:n.ownsRow v M b m d wb)(f:EF w n p)(g:w<v):p.ownsRow v M b m d wb:=
 Az a λc e=>f.block c (a.lt c (Ah.1 e)).2 (λM=>by have:=(a.lt c (Ah.1 e)).1;omega)
theorem Bc.ef{b:Nat}{w:Q}{c:Av}(a:Bc w v m q c)(d:EF b w n)(e:b<v):Bc n v m q c:=⟨Fp a.l d e,Fp a.p d e,a.ne⟩
theorem Bc.str{a:Av}(f:Bc n w m q a):FB n m (a.map (·.1)):=by
 refine FB.cS ?_;have b:=f.l;rw[Adf,Ae4];exact⟨b.1,b.2.imp id λ⟨e,c,d,g,i,h⟩=>⟨e,c,d,g,Ac0 _,h⟩⟩
variable{l:Av}
theorem Bc.gY(a:Bc n w m q l):q.ownBlock=none\/q.ownBlock≠m.ownBlock:=by
 rcases a.ne with b|b
 ·grind
 grind
theorem Bc.FF{c:Q}(a:Bc n w m q l)(b:Obj)(d:(n.alloc b).grownBy c m.ownBlock):c.ownsRow w 3 1 q l.length (l.map λe=>V C (e.2:Int)):=
 Ag0 (Adr a.p b) d a.gY
theorem Bc.push{c:Q}{a:Av}{u:Nat}{x:ByteArray×Nat}(o:Bc n w m q a)(H:w<=n.heap.size)(r k:Obj)(i:(n.alloc r).grownBy c m.ownBlock)(B:m.ownBlock=some v\/v=n.heap.size+1)(s:c.ownsRow w 9 1 (W (some ⟨v,0,none⟩) (a.length+1) b) (a.length+1) ((a.map λx=>S x.1)++[S x.1]))(g:(c.alloc k).grownBy h q.ownBlock)(G:q.ownBlock=some d\/d=c.heap.size+1)(M:h.ownsRow w 3 1 (W (some ⟨d,0,none⟩) (a.length+1) u) (a.length+1) ((a.map λx=>V C (x.2:Int))++[V C (x.2:Int)])):
 Bc h w (W (some ⟨v,0,none⟩) (a.length+1) b) (W (some ⟨d,0,none⟩) (a.length+1) u) (a++[x])/\Below w n h:=by
 have O:(n.alloc r).heap.size=n.heap.size+1:=by simp
 have U:(c.alloc k).heap.size=c.heap.size+1:=by simp
 have Y:=i.size;have aa:=g.size;have K:=λe j=>o.l.lt e j;have N:=λe j=>o.p.lt e j;have L:=(s.lt v rfl).2;have E:∀e,q.ownBlock=some e->e≠v:=λe j f=>by
  subst f;rcases B with y|y
  ·rcases o.gY with z|z
   ·grind
   grind
  grind
 have D:v≠d:=λf=>by
  grind
 refine⟨⟨?_,?_,Ad7 ?_⟩,?_⟩
 ·rw[Adk,Adq];refine Ag0 (Adr s k) g (Ad7 λf=>?_);exact E v f.symm rfl
 ·grind
 ·show some v≠some d;simpa using D
 ·refine⟨?_,?_,?_,by omega,λt I=>?_⟩
  ·rw[g.os];show c.os=_;rw[i.os];rfl
  ·rw[g.tape];show c.tape=_;rw[i.tape];rfl
  ·rw[g.output];show c.output=_;rw[i.output];rfl
  ·rw[g.block t (by omega) (λf=>by grind),Ad3 c k (by omega),i.block t (by omega) (λf=>by grind),Ad3 n r (by omega)]
def AU(a:ByteArray):Nat->Av->Nat->Pr Av
 |0,_,p=>P (2,p)
 |f+1,got,p=>if Ag a p=⟨#[41]⟩ then .ok (got,AC a p) else pb (AV a p) λb c=>if A3 b.1 (got.map (·.1)) 0=true then P (5,b.2) else AU a f (got++[b]) c
def Be(a:ByteArray)(b:Nat):Pr Av:=pb (Al a ⟨#[40]⟩ b) λ_ c=>AU a (a.size+1) [] c
theorem R2(a:ByteArray)(b:Nat):AV a (Bi a b)=AV a b:=by unfold AV;rw[Di,DI,DZ]
theorem DG:AM ⟨#[]⟩=false:=by unfold AM;rw[show(decide (0<(⟨#[]⟩:ByteArray).size))=false from rfl];simp
theorem EU(b:w<=s.size)(a:AV s w=.ok (nh,v)):w<v/\v<=s.size/\nh=(Ag s w,Am s w)/\v=AC s w:=by
 unfold AV at a;split at a
 ·rename_i d
  simp[Except.ok.injEq]at a;obtain⟨rfl,rfl⟩:=a;refine⟨?_,AK b,rfl,rfl⟩;refine Qb ?_;rcases Abo (Am s w) s.size with c|c
  ·exact c
  ·have e:Ag s w=⟨#[]⟩:=by
    apply Abx;apply Abh;have f:=Cb b;have g:=AK b;show(Ag s w).size=0;omega
   rw[e,DG]at d;cases d
 ·cases a
theorem Hy(a:EF w n p)(b:Below n.heap.size p h):EF w n h:=
 ⟨b.os.trans a.os,b.tape.trans a.tape,b.output.trans a.output,Ac5 a.size b.size,λd c e=>(b.block d c).trans (a.block d c e)⟩
structure ZQ (d:Nat) (b:ByteArray) (i o:Nat) (j g e:X) (m:Q) (l:Pr Av) (wr:Q) (h k:X):Prop where
 ef:EF d m wr
 it:(∃got q f,b.size+1<=f+q/\q<=b.size/\got.length<=q/\TX wr d b q i 0 o j g e/\Bc wr m.heap.size h k got/\l=AU b f got q)\/
  (∃c a q,c≠0/\q<=b.size/\TX wr d b q i c a j g e/\l=P (c,a))
 one:(∃a n c,h=W a n c)/\∃a n c,k=W a n c
def Vs(h:Nat)(r:ByteArray)(i:Pr Av)(n p:Nat)(o m k:X)(j:Q)(l:Ending)(g:Q):Prop:=
 EF h j g/\Im h r i n p o m k g/\∃d f,l=F (R #[d,f])/\((∃a e b,d=W a e b)/\∃a e b,f=W a e b)/\∀c q,i=.ok (c,q)->Bc g j.heap.size d f c/\c.length<=2000
theorem DM{ag:X}(e:TX n w s v b 0 d m ag j)(aM:s.size<=2000)(bE:v<=s.size):
 Adg Acs 82 #[J (some ⟨w,0,none⟩)] n λi bK=>Vs w s (Be s v) b d m ag j n i bK:=by
 have bq:=hid (A6 (t:=⟨#[40]⟩) e aM bE);obtain⟨aS,be⟩:∃bj,Be s v=bj:=⟨_,rfl⟩;have b0:=hid be;rw[be];have r:w<n.heap.size:=e.lt;clear e be;go_enter Tryz.func82,Tryz.ntmps82;go_wp2_with (first
  |(go_at_call 37;refine bq.out.mono ?_;rintro i h ⟨rfl,bs⟩;have bp:=hid bs;clear bs bq))
 have b1:Hid (ZQ w s b d m ag j n aS h (W none 0 0) (W none 0 0)):=by
  refine⟨bp.out.1,?_,⟨_,_,_,rfl⟩,⟨_,_,_,rfl⟩⟩;have az:=bp.out.2;have a0:=b0.out;unfold Be at a0;match hw:Al s ⟨#[40]⟩ v,az,a0 with
  |.ok (_,q),az,a0=>
   exact Ads ⟨[],q,s.size+1,by omega,az.2,Ac0 _,az.1,⟨Ad1 _ _ _ _,Ad1 _ _ _ _,Ads rfl⟩,a0.symm⟩
  |P (c,aG),az,a0=>
   obtain⟨q,b8,b9⟩:=az;refine Ad7 ⟨c,aG,q,?_,b9,b8,a0.symm⟩;unfold Al at hw;split at hw
   ·cases hw
   ·cases hw;decide
 obtain⟨aT,aQ,bv⟩:=Adb.1 Tryz.fe;simp only[Aeb]at bv;obtain⟨aN,aO,aP⟩:=bv;obtain⟨aR,aL,bt⟩:=Adb.1 Tryz.fG;simp only[Aeb]at bt;obtain⟨aI,aJ,aK⟩:=bt;go_loopw [4,5] (λbH bI wr=>Hid (ZQ w s b d m ag j n aS wr bH bI)) (λ_ _ wr=>match wr.cell? ⟨w,3,none⟩,wr.cell? ⟨w,1,none⟩ with|some (V _ i),some (V _ q)=>if i=0 then s.size+1-q.toNat else 0|_,_=>0)
 case atStart=>exact b1.out
 case round=>
  rename Q=>wr
  have H:=hid hrel.out;clear hrel;rcases H.out.it with⟨a,q,ay,bO,a1,bP,a7,br,aB⟩|⟨c,aG,q,bL,a1,a7,aB⟩
  ·have aW:=hid a7;have a3:=hid br;have bo:=hid aB;obtain⟨b4,a4,b5,a5,b6,-,-,-,-⟩:=a7;clear br aB;have K:=hid (CQ aW.out aM a1);obtain⟨p,bf⟩:∃t,Ag s q=t:=⟨_,rfl⟩;have aE:=hid bf;unfold BO at K;rw[bf]at K;clear bf;have bu:=A8 a1;by_cases aH:p=⟨#[41]⟩
   ·have bn:Hid (aS=.ok (a,AC s q)):=by
     obtain⟨a6,rfl⟩:∃a6,ay=a6+1:=⟨ay-1,by omega⟩;show _=_;rw[bo.out,AU,aE.out,if_pos aH]
    have b2:=hid (λh (e:TX h w s (Bi s q) b 0 d m ag j)=>BL e aM bu);subst aH;go_wp2_with (first
     |(go_at_call 40;refine K.out.mono ?_;rintro i aU ⟨rfl,E,D⟩;have ad:=hid E;have o:=hid D;clear E D K)
     |(go_at_call 39;refine(b2.out _ ad.out).mono ?_;rintro i M ⟨rfl,G,g⟩;have ae:=hid G;have ac:=hid g;clear G g))
    go_ret2
    have bB:=(H.out.ef.trans o.out).trans ac.out;refine⟨bB,?_,_,_,rfl,H.out.one,λb7 bJ aC=>?_⟩
    ·rw[bn.out];have e:=ae.out;rw[DZ]at e;exact⟨e,AK a1⟩
    ·rw[bn.out]at aC;cases aC;exact⟨(a3.out.ef o.out r).ef ac.out r,by omega⟩
   ·have I:=hid (λh (e:TX h w s (Bi s q) b 0 d m ag j)=>Fw e aM bu);rw[Di,DI,R2,aE.out]at I;have bD:¬p.toList=[41]:=λe=>aH (Bl (by rw[e,Adw]));have bM:(p.toList==[41])=false:=by rw[beq_eq_false_iff_ne];exact bD
    obtain⟨bx,a9⟩:∃b3,A3 p (a.map (·.1)) 0=b3:=⟨_,rfl⟩;obtain⟨bz,bc⟩:∃bj,AV s q=bj:=⟨_,rfl⟩;have ax:=hid bc;have bm:=hid a9;rw[bc]at I;clear bc;have ap:Hid (aS=pb bz λx q=>if A3 x.1 (a.map (·.1)) 0=true then P (5,x.2) else AU s (ay-1) (a++[x]) q):=by
     obtain⟨a6,rfl⟩:∃a6,ay=a6+1:=⟨ay-1,by omega⟩;show _=_;rw[bo.out,AU,aE.out,if_neg aH,ax.out];rfl
    match bz,I,ax,ap with
    |P (c,aG),I,ax,ap=>
     have bC:c=2/\aG=Am s q:=by
      have e:=ax.out;unfold AV at e;split at e
      ·cases e
      ·cases e;exact⟨rfl,rfl⟩
     obtain⟨rfl,rfl⟩:=bC;cases bx
     ·
      have u:=hid (λh (e:FB h u4 (a.map (·.1)))=>Fv p (a.map (·.1)) u4 h e (by simp;omega));rw[a9]at u;go_wp2_with (first
       |(go_at_call 40;refine K.out.mono ?_;rintro i aU ⟨rfl,E,D⟩;have ad:=hid E;have o:=hid D;clear E D K)
       |(go_at_call 38;refine(I.out _ ad.out).mono ?_;rintro i M ⟨rfl,g,aD,G,aq⟩;have ae:=hid G;have ac:=hid g;have y:=hid ((a3.out.ef o.out r).ef g r);have ar:n.heap.size<=M.heap.size:=Ac5 (Ac5 H.out.ef.size o.out.size) g.size;clear G g I)
       |(go_at_call 45;refine(u.out _ y.out.str).mono ?_;rintro i bk ⟨rfl,B⟩;replace B:=B.symm;subst B;clear u)
       |(at_builtin;refine Adl _ rfl _ _ _ rfl n.heap.size 9 aT _ 1 16 Ae0 aQ aN aO aP rfl (by omega) u4 a.length (a.map λx=>S x.1) rfl (Adr y.out.l _) ⟨M.heap.size,0,none⟩ 1 1 [S p] rfl rfl (AL _ _ _ _ rfl) (by intro av f;simp at f;subst f;rfl) (by omega) (by unfold Aed;omega) (by omega) (by simp;omega) (M.heap.size+1) (by simp) ?_;intro aY bh ab Y k N ba;have al:=hid (y.out.FF _ k);have am:=hid Y;have aj:=hid k;have ah:=hid N;have au:=k.size;simp at au;clear Y k N)
       |(at_builtin;refine Adl _ rfl _ _ _ rfl n.heap.size 3 aR _ 1 8 Tryz.underlying85 aL aI aJ aK rfl (by omega) u5 a.length (a.map λx=>V C (x.2:Int)) rfl (Adr al.out _) ⟨ab.heap.size,0,none⟩ 1 1 [V C (Am s q:Int)] rfl rfl (AL _ _ _ _ rfl) (by intro av f;simp at f;subst f;rfl) (by omega) (by unfold Aed;omega) (by omega) (by simp;omega) (ab.heap.size+1) (by simp) ?_;intro aZ bi bl aa U O bb;have an:=hid aa;have ak:=hid U;have ai:=hid O;clear aa U O))
      ·have L:=hid (y.out.push (x:=(p,Am s q)) ar _ _ aj.out ah.out am.out ak.out ai.out an.out);have z:=ae.out.cK (L.out.2.block w r);refine⟨⟨Hy ((H.out.ef.trans o.out).trans ac.out) L.out.2,Ad7 ⟨2,Am s q,aD,by omega,aq,z,by rw[ap.out];rfl⟩,⟨_,_,_,rfl⟩,⟨_,_,_,rfl⟩⟩,?_⟩;rw[z.c3,z.c1,a5,a4];simp;omega
     ·
      have u:=hid (λh (e:FB h u4 (a.map (·.1)))=>Fv p (a.map (·.1)) u4 h e (by simp;omega));rw[a9]at u;have a2:=hid (λh aD (e:TX h w s aD b 2 (Am s q) m ag j)=>Fk (c:=5) (q:=(Am s q:Int)) e (by omega));go_wp2_with (first
       |(go_at_call 40;refine K.out.mono ?_;rintro i aU ⟨rfl,E,D⟩;have ad:=hid E;have o:=hid D;clear E D K)
       |(go_at_call 38;refine(I.out _ ad.out).mono ?_;rintro i M ⟨rfl,g,aD,G,aq⟩;have ae:=hid G;have ac:=hid g;have y:=hid ((a3.out.ef o.out r).ef g r);have ar:n.heap.size<=M.heap.size:=Ac5 (Ac5 H.out.ef.size o.out.size) g.size;clear G g I)
       |(go_at_call 45;refine(u.out _ y.out.str).mono ?_;rintro i bk ⟨rfl,B⟩;replace B:=B.symm;subst B;clear u)
       |(go_at_call 41;refine(a2.out _ _ ae.out).mono ?_;rintro i aw ⟨rfl,a8,af⟩;have aX:=hid a8;have aV:=hid af;have ao:=hid (y.out.ef af r);have bg:n.heap.size<=aw.heap.size:=Ac5 ar af.size;clear a8 af a2)
       |(at_builtin;refine Adl _ rfl _ _ _ rfl n.heap.size 9 aT _ 1 16 Ae0 aQ aN aO aP rfl (by omega) u4 a.length (a.map λx=>S x.1) rfl (Adr ao.out.l _) ⟨aw.heap.size,0,none⟩ 1 1 [S p] rfl rfl (AL _ _ _ _ rfl) (by intro av f;simp at f;subst f;rfl) (by omega) (by unfold Aed;omega) (by omega) (by simp;omega) (aw.heap.size+1) (by simp) ?_;intro aY bh ab Y k N ba;have al:=hid (ao.out.FF _ k);have am:=hid Y;have aj:=hid k;have ah:=hid N;have au:=k.size;simp at au;clear Y k N)
       |(at_builtin;refine Adl _ rfl _ _ _ rfl n.heap.size 3 aR _ 1 8 Tryz.underlying85 aL aI aJ aK rfl (by omega) u5 a.length (a.map λx=>V C (x.2:Int)) rfl (Adr al.out _) ⟨ab.heap.size,0,none⟩ 1 1 [V C (Am s q:Int)] rfl rfl (AL _ _ _ _ rfl) (by intro av f;simp at f;subst f;rfl) (by omega) (by unfold Aed;omega) (by omega) (by simp;omega) (ab.heap.size+1) (by simp) ?_;intro aZ bi bl aa U O bb;have an:=hid aa;have ak:=hid U;have ai:=hid O;clear aa U O))
      ·have L:=hid (ao.out.push (x:=(p,Am s q)) bg _ _ aj.out ah.out am.out ak.out ai.out an.out);have z:=aX.out.cK (L.out.2.block w r);refine⟨⟨Hy (((H.out.ef.trans o.out).trans ac.out).trans aV.out) L.out.2,Ad7 ⟨2,Am s q,aD,by omega,aq,z,by rw[ap.out];rfl⟩,⟨_,_,_,rfl⟩,⟨_,_,_,rfl⟩⟩,?_⟩;rw[z.c3,z.c1,a5,a4];simp;omega
    |.ok (x,q1),I,ax,ap=>
     obtain⟨bQ,bR,bw,bG⟩:=EU a1 ax.out;rw[aE.out]at bw;subst bw bG;cases bx
     ·
      have u:=hid (λh (e:FB h u4 (a.map (·.1)))=>Fv p (a.map (·.1)) u4 h e (by simp;omega));rw[a9]at u;go_wp2_with (first
       |(go_at_call 40;refine K.out.mono ?_;rintro i aU ⟨rfl,E,D⟩;have ad:=hid E;have o:=hid D;clear E D K)
       |(go_at_call 38;refine(I.out _ ad.out).mono ?_;rintro i M ⟨rfl,g,G,aq⟩;have ae:=hid G;have ac:=hid g;have y:=hid ((a3.out.ef o.out r).ef g r);have ar:n.heap.size<=M.heap.size:=Ac5 (Ac5 H.out.ef.size o.out.size) g.size;clear G g I)
       |(go_at_call 45;refine(u.out _ y.out.str).mono ?_;rintro i bk ⟨rfl,B⟩;replace B:=B.symm;subst B;clear u)
       |(at_builtin;refine Adl _ rfl _ _ _ rfl n.heap.size 9 aT _ 1 16 Ae0 aQ aN aO aP rfl (by omega) u4 a.length (a.map λx=>S x.1) rfl (Adr y.out.l _) ⟨M.heap.size,0,none⟩ 1 1 [S p] rfl rfl (AL _ _ _ _ rfl) (by intro av f;simp at f;subst f;rfl) (by omega) (by unfold Aed;omega) (by omega) (by simp;omega) (M.heap.size+1) (by simp) ?_;intro aY bh ab Y k N ba;have al:=hid (y.out.FF _ k);have am:=hid Y;have aj:=hid k;have ah:=hid N;have au:=k.size;simp at au;clear Y k N)
       |(at_builtin;refine Adl _ rfl _ _ _ rfl n.heap.size 3 aR _ 1 8 Tryz.underlying85 aL aI aJ aK rfl (by omega) u5 a.length (a.map λx=>V C (x.2:Int)) rfl (Adr al.out _) ⟨ab.heap.size,0,none⟩ 1 1 [V C (Am s q:Int)] rfl rfl (AL _ _ _ _ rfl) (by intro av f;simp at f;subst f;rfl) (by omega) (by unfold Aed;omega) (by omega) (by simp;omega) (ab.heap.size+1) (by simp) ?_;intro aZ bi bl aa U O bb;have an:=hid aa;have ak:=hid U;have ai:=hid O;clear aa U O))
      ·have L:=hid (y.out.push (x:=(p,Am s q)) ar _ _ aj.out ah.out am.out ak.out ai.out an.out);have z:=ae.out.cK (L.out.2.block w r);refine⟨⟨Hy ((H.out.ef.trans o.out).trans ac.out) L.out.2,Ads ⟨a++[(p,Am s q)],AC s q,ay-1,by omega,aq,by rw[Adk,Aa6];omega,z,L.out.1,by rw[ap.out,Ai,if_neg (by rw[bm.out];decide)]⟩,⟨_,_,_,rfl⟩,⟨_,_,_,rfl⟩⟩,?_⟩;rw[z.c3,z.c1,a5,a4];simp;omega
     ·
      have u:=hid (λh (e:FB h u4 (a.map (·.1)))=>Fv p (a.map (·.1)) u4 h e (by simp;omega));rw[a9]at u;have a2:=hid (λh (e:TX h w s (AC s q) b 0 d m ag j)=>AR (c:=5) (q:=Am s q) e);go_wp2_with (first
       |(go_at_call 40;refine K.out.mono ?_;rintro i aU ⟨rfl,E,D⟩;have ad:=hid E;have o:=hid D;clear E D K)
       |(go_at_call 38;refine(I.out _ ad.out).mono ?_;rintro i M ⟨rfl,g,G,aq⟩;have ae:=hid G;have ac:=hid g;have y:=hid ((a3.out.ef o.out r).ef g r);have ar:n.heap.size<=M.heap.size:=Ac5 (Ac5 H.out.ef.size o.out.size) g.size;clear G g I)
       |(go_at_call 45;refine(u.out _ y.out.str).mono ?_;rintro i bk ⟨rfl,B⟩;replace B:=B.symm;subst B;clear u)
       |(go_at_call 41;refine(a2.out _ ae.out).mono ?_;rintro i aw ⟨rfl,a8,af⟩;have aX:=hid a8;have aV:=hid af;have ao:=hid (y.out.ef af r);have bg:n.heap.size<=aw.heap.size:=Ac5 ar af.size;clear a8 af a2)
       |(at_builtin;refine Adl _ rfl _ _ _ rfl n.heap.size 9 aT _ 1 16 Ae0 aQ aN aO aP rfl (by omega) u4 a.length (a.map λx=>S x.1) rfl (Adr ao.out.l _) ⟨aw.heap.size,0,none⟩ 1 1 [S p] rfl rfl (AL _ _ _ _ rfl) (by intro av f;simp at f;subst f;rfl) (by omega) (by unfold Aed;omega) (by omega) (by simp;omega) (aw.heap.size+1) (by simp) ?_;intro aY bh ab Y k N ba;have al:=hid (ao.out.FF _ k);have am:=hid Y;have aj:=hid k;have ah:=hid N;have au:=k.size;simp at au;clear Y k N)
       |(at_builtin;refine Adl _ rfl _ _ _ rfl n.heap.size 3 aR _ 1 8 Tryz.underlying85 aL aI aJ aK rfl (by omega) u5 a.length (a.map λx=>V C (x.2:Int)) rfl (Adr al.out _) ⟨ab.heap.size,0,none⟩ 1 1 [V C (Am s q:Int)] rfl rfl (AL _ _ _ _ rfl) (by intro av f;simp at f;subst f;rfl) (by omega) (by unfold Aed;omega) (by omega) (by simp;omega) (ab.heap.size+1) (by simp) ?_;intro aZ bi bl aa U O bb;have an:=hid aa;have ak:=hid U;have ai:=hid O;clear aa U O))
      ·have L:=hid (ao.out.push (x:=(p,Am s q)) bg _ _ aj.out ah.out am.out ak.out ai.out an.out);have z:=aX.out.cK (L.out.2.block w r);refine⟨⟨Hy (((H.out.ef.trans o.out).trans ac.out).trans aV.out) L.out.2,Ad7 ⟨5,Am s q,AC s q,by omega,aq,z,by rw[ap.out,Ai,if_pos bm.out]⟩,⟨_,_,_,rfl⟩,⟨_,_,_,rfl⟩⟩,?_⟩;rw[z.c3,z.c1,a5,a4];simp;omega
  ·have aW:=hid a7;have bN:((c:Int)==0)=false:=by rw[beq_eq_false_iff_ne];omega
   obtain⟨b4,a4,b5,a5,b6,-,-,-,-⟩:=a7;go_wp2;all_goals first
    |(exfalso;omega)
    |(go_ret2
      refine⟨H.out.ef,?_,_,_,rfl,H.out.one,λb7 bJ aC=>?_⟩
      ·rw[aB];exact⟨q,aW.out,a1⟩
      ·rw[aB]at aC;cases aC)
inductive Ex where
 |num (n:Int)
 |name (g:Bool) (t:ByteArray) (pl:Nat)
 |call (parts:List Ex)
 |lets (r:Bool) (ns:Av) (es:List Ex) (body:Ex)
 |Fs (tag:Nat) (fs:List Ex)
 |case (e:Ex) (brs:List (Nat×Av×Ex))
 |op (k:Nat) (l r:Ex)
def Ax:ByteArray:=⟨#[40]⟩
def Ae:ByteArray:=⟨#[41]⟩
def G3:ByteArray:=⟨#[108,101,116]⟩
def BZ:ByteArray:=⟨#[108,101,116,114,101,99]⟩
def KG:ByteArray:=⟨#[99,111,110]⟩
def He:ByteArray:=⟨#[99,97,115,101]⟩
def E0:List ByteArray:=[⟨#[43]⟩,⟨#[45]⟩,⟨#[42]⟩,⟨#[47]⟩,⟨#[61]⟩,⟨#[60]⟩]
def CC(b:ByteArray):Option Nat:=E0.findIdx? λa=>decide (b=a)
def BB(b:ByteArray)(a:Nat):Pr Ex:=
 if AM (Ag b a)=true then .ok (.name false (Ag b a) (Am b a),AC b a) else
  match Aw (Ag b a) with
  |some v=>.ok (.num v,AC b a)
  |none=>P (2,Am b a)
section
variable (s:ByteArray) (E:Nat->Pr Ex)
def BS:Nat->List Ex->Nat->Pr (List Ex)
 |0,_,p=>P (2,p)
 |f+1,got,p=>if Ag s p=Ae then .ok (got,Bi s p) else pb (E p) λa b=>BS f (got++[a]) b
def A2:Nat->List Ex->Nat->Pr (List Ex)
 |0,_,p=>P (2,p)
 |f+1,got,p=>if Ag s p=Ae then .ok (got,Bi s p) else if got.length=20 then P (3,Am s p) else pb (E p) λa b=>A2 f (got++[a]) b
def Ba:Nat->Av->List Ex->Nat->Pr (Av×List Ex)
 |0,_,_,p=>P (2,p)
 |f+1,ns,es,p=>pb (Al s Ax p) λ_ d=>pb (AV s d) λa e=>if A3 a.1 (ns.map (·.1)) 0=true then P (5,a.2) else
  pb (E e) λc g=>pb (Al s Ae g) λ_ b=>if Ag s b=Ae then .ok ((ns++[a],es++[c]),Bi s b) else Ba f (ns++[a]) (es++[c]) b
def C4:Nat->List (Nat×Av×Ex)->Nat->Pr (List (Nat×Av×Ex))
 |0,_,p=>P (2,p)
 |f+1,got,p=>pb (Al s Ax p) λ_ g=>pb (Bt s 255 g) λa h=>if got.any (λe=>decide (e.1=a.1))=true then P (5,a.2) else
  pb (Be s h) λd i=>pb (E i) λc j=>pb (Al s Ae j) λ_ b=>if Ag s b=Ae then .ok (got++[(a.1,d,c)],Bi s b) else C4 f (got++[(a.1,d,c)]) b
def BE(h:Bool)(c:Nat):Pr Ex:=pb (Al s Ax c) λ_ d=>pb (Ba s E (s.size+1) [] [] d) λa e=>pb (Al s Ae e) λ_ f=>pb (E f) λb g=>.ok (.lets h a.1 a.2 b,g)
def E5(b:Nat):Pr Ex:=pb (Bt s 255 b) λe c=>pb (A2 s E (s.size+1) [] c) λa d=>.ok (.Fs e.1 a,d)
def Da(c:Nat):Pr Ex:=pb (E c) λa d=>pb (C4 s E (s.size+1) [] d) λb e=>.ok (.case a b,e)
def Dc(b:Nat):Pr Ex:=pb (E b) λf c=>pb (E c) λg d=>pb (BS s E (s.size+1) [f,g] d) λa e=>.ok (.call a,e)
def AY(a:Nat):Pr Ex:=
 match CC (Ag s a) with
 |some k=>pb (E (AC s a)) λb c=>pb (E c) λe d=>.ok (.op k b e,d)
 |none=>
  if Ag s a=G3 then BE s E false (AC s a)
  else if Ag s a=BZ then BE s E true (AC s a)
  else if Ag s a=KG then E5 s E (AC s a)
  else if Ag s a=He then Da s E (AC s a)
  else Dc s E a
end
def pE(a:ByteArray):Nat->Nat->Pr Ex
 |0,p=>if Ag a p=Ax then P (3,Am a p) else BB a p
 |d+1,p=>if Ag a p=Ax then pb (AY a (pE a d) (AC a p)) λb c=>pb (Al a Ae c) λ_ e=>.ok (b,e) else BB a p
theorem Ac{d:Pr wd}{g:wd->Nat->Pr ve}{f:ve}(a:pb d g=.ok (f,w)):∃b c,d=.ok (b,c)/\g b c=.ok (f,w):=by
 match d,a with
 |.ok (b,c),a=>exact⟨b,c,rfl,a⟩
 |P e,a=>cases a
def IB{g:Type}(c:ByteArray)(f:Nat->Pr g)(e:Nat):Prop:=∀a,a<=c.size->∀d b,f a=.ok (d,b)->a+e<=b/\b<=c.size
theorem Dw(a:w<=s.size)(c:Ag s w≠⟨#[]⟩):w+1<=AC s w/\AC s w<=s.size:=by
 refine⟨?_,AK a⟩;refine Qb ?_;rcases Abo (Am s w) s.size with b|b
 ·exact b
 ·exfalso;apply c;apply Abx;apply Abh;have d:=Cb a;have e:=AK a;show(Ag s w).size=0;omega
theorem Aj{s t:ByteArray}(d:t≠⟨#[]⟩):IB s (Al s t) 1:=by
 intro f c e g a;unfold Al at a;split at a
 ·rename_i b
  cases a;exact Dw c (by rw[b];exact d)
 ·cases a
theorem BH:IB s (AV s) 1:=λe b g f a=>by
 obtain⟨c,d,-⟩:=EU b a;omega
theorem D3:Aw ⟨#[]⟩=none:=rfl
theorem B7:IB s (Bt s w) 1:=by
 intro e d g f a;have c:Ag s e≠⟨#[]⟩:=λb=>by
  unfold Bt at a;rw[b,D3]at a;cases a
 unfold Bt at a;split at a
 ·split at a
  ·cases a;exact Dw d c
  ·cases a
 ·cases a
theorem Nf:IB s (BB s) 1:=by
 intro e c g f a;have b:Ag s e≠⟨#[]⟩:=λd=>by
  unfold BB at a;rw[d,D3,DG]at a;simp at a
 unfold BB at a;split at a
 ·cases a;exact Dw c b
 ·split at a
  ·cases a;exact Dw c b
  ·cases a
theorem GX{j:ByteArray}:∀b e,IB j (AU j b e) 1
 |0,_=>λg _ d h a=>by cases a
 |b+1,e=>λg f d h a=>by
  rw[AU]at a;split at a
  ·rename_i l
   cases a;exact Dw f (by rw[l];decide)
  ·let ⟨n,i,k,c⟩:=Ac a
   have m:=BH g f n i k;split at c
   ·cases c
   ·have o:=GX b _ i m.2 d h c;omega
theorem BU:IB s (Be s) 2:=by
 intro h f b i c;let ⟨j,a,d,e⟩:=Ac c
 have g:=Aj (by decide) h f j a d;have k:=GX _ _ a g.2 b i e;omega
section
variable {s:ByteArray} {E:Nat->Pr Ex} (hE:IB s E 1)
include hE
theorem HO:∀b e,IB s (BS s E b e) 0
 |0,_=>λc _ d g a=>by cases a
 |b+1,e=>λc f d g a=>by
  rw[BS]at a;split at a
  ·cases a;exact⟨AX s c,A8 f⟩
  ·let ⟨l,h,i,j⟩:=Ac a
   have k:=hE c f l h i;have m:=HO b _ h k.2 d g j;omega
theorem E7:∀b e,IB s (A2 s E b e) 0
 |0,_=>λc _ d g a=>by cases a
 |b+1,e=>λc f d g a=>by
  rw[A2]at a;split at a
  ·cases a;exact⟨AX s c,A8 f⟩
  ·split at a
   ·cases a
   ·let ⟨l,h,i,j⟩:=Ac a
    have k:=hE c f l h i;have m:=E7 b _ h k.2 d g j;omega
theorem Eg:∀b g e,IB s (Ba s E b g e) 4
 |0,_,_=>λh _ d i a=>by cases a
 |b+1,g,e=>λh q d i a=>by
  let ⟨v,j,m,a⟩:=Ac a
  have r:=Aj (by decide) h q v j m;let ⟨w,k,n,a⟩:=Ac a
  have t:=BH j r.2 w k n;split at a
  ·cases a
  ·let ⟨x,l,o,a⟩:=Ac a
   have u:=hE k t.2 x l o;let ⟨y,c,p,a⟩:=Ac a
   have f:=Aj (by decide) l u.2 y c p;split at a
   ·cases a;have B:=AX s c;have D:=A8 f.2;omega
   ·have z:=Eg b _ _ c f.2 d i a;omega
theorem I4:∀b e,IB s (C4 s E b e) 5
 |0,_=>λg _ d h a=>by cases a
 |b+1,e=>λg r d h a=>by
  let ⟨x,i,m,a⟩:=Ac a
  have t:=Aj (by decide) g r x i m;let ⟨y,j,n,a⟩:=Ac a
  have u:=B7 i t.2 y j n;split at a
  ·cases a
  ·let ⟨z,k,o,a⟩:=Ac a
   have v:=BU j u.2 z k o;let ⟨B,l,p,a⟩:=Ac a
   have w:=hE k v.2 B l p;let ⟨D,c,q,a⟩:=Ac a
   have f:=Aj (by decide) l w.2 D c q;split at a
   ·cases a;have H:=AX s c;have I:=A8 f.2;omega
   ·have G:=I4 b _ c f.2 d h a;omega
theorem JV(o:Bool):IB s (BE s E o) 1:=by
 intro m i u w a;let ⟨p,b,e,a⟩:=Ac a
 have j:=Aj (by decide) m i p b e;let ⟨q,c,f,a⟩:=Ac a
 have k:=Eg hE _ _ _ b j.2 q c f;let ⟨r,d,g,a⟩:=Ac a
 have l:=Aj (by decide) c k.2 r d g;let ⟨t,n,h,a⟩:=Ac a
 have v:=hE d l.2 t n h;cases a;omega
theorem Xl:IB s (E5 s E) 1:=by
 intro g e k m a;let ⟨i,b,c,a⟩:=Ac a
 have f:=B7 g e i b c;let ⟨j,h,d,a⟩:=Ac a
 have l:=E7 hE _ _ b f.2 j h d;cases a;omega
theorem Va:IB s (Da s E) 1:=by
 intro g e k m a;let ⟨i,b,c,a⟩:=Ac a
 have f:=hE g e i b c;let ⟨j,h,d,a⟩:=Ac a
 have l:=I4 hE _ _ b f.2 j h d;cases a;omega
theorem UU:IB s (Dc s E) 1:=by
 intro j g o q a;let ⟨l,b,d,a⟩:=Ac a
 have h:=hE j g l b d;let ⟨m,c,e,a⟩:=Ac a
 have i:=hE b h.2 m c e;let ⟨n,k,f,a⟩:=Ac a
 have p:=HO hE _ _ c i.2 n k f;cases a;omega
theorem NS:IB s (AY s E) 1:=by
 intro f g b d a;have c:=AK g;have o:=Ac5 (AX s f) (GR s f);unfold AY at a;split at a
 ·let ⟨m,h,i,a⟩:=Ac a
  have k:=hE _ c m h i;let ⟨n,l,j,a⟩:=Ac a
  have p:=hE h k.2 n l j;cases a;omega
 ·split at a
  ·have e:=JV hE _ _ c b d a;omega
  ·split at a
   ·have e:=JV hE _ _ c b d a;omega
   ·split at a
    ·have e:=Xl hE _ c b d a;omega
    ·split at a
     ·have e:=Va hE _ c b d a;omega
     ·exact UU hE f g b d a
end
theorem Dq(g:ByteArray):∀d,IB g (pE g d) 1
 |0=>λe b c f a=>by
  rw[pE]at a;split at a
  ·cases a
  ·exact Nf e b c f a
 |d+1=>λe b c f a=>by
  rw[pE]at a;split at a
  ·rename_i k
   have k0:=Dw b (by rw[k];decide);let ⟨n,h,i,a⟩:=Ac a
   have l:=NS (Dq g d) _ k0.2 n h i;let ⟨o,m,j,a⟩:=Ac a
   have p:=Aj (by decide) h l.2 o m j;cases a;omega
  ·exact Nf e b c f a
abbrev Dd:=ByteArray×List ByteArray×Ex
structure KS where
 code:List Bp
 AB:Int
 loc:List (ByteArray×Int)
 kn:List ByteArray
 td:List Dd
 z:Nat
def AE(c:Nat)(b:Int)(a:KS):KS:={a with code:=a.code++[⟨(c:Int),b,[]⟩],AB:=TI c b a.AB,z:=a.z+1}
def E3(b:Nat)(a:Int):Nat->KS->KS
 |0,c=>c
 |n+1,c=>AE b a (E3 b a n c)
def Et(c:ByteArray)(b:List ByteArray):Int:=match b.findIdx? (λd=>decide (d=c)) with|some a=>(a:Int)|none=>-1
def Jm(b:ByteArray)(a:List (ByteArray×Int)):Option Int:=(a.reverse.find? λc=>decide (c.1=b)).map (·.2)
def Bu(b:ByteArray)(a:KS):KS:=match Jm b a.loc with
 |some p=>AE 2 (Aer (Aer (a.AB-1)-p)) a
 |none=>AE 1 (Et b a.kn) a
def EV(b:Int)(a:KS):KS:=AE 5 (Aer (Aer (a.AB-2)-b)) a
def Jk(a:Int):Nat->List ByteArray->List (ByteArray×Int)
 |_,[]=>[]
 |b,t::r=>(t,Aer (a+(b:Int)))::Jk a (b+1) r
def BI(c:Int)(b:Av)(a:KS):KS:={a with loc:=a.loc++Jk c 0 (b.map (·.1)),z:=a.z+b.length}
def AW(b:Nat)(a:KS):KS:=
 let c:={a with loc:=a.loc.take (a.loc.length-b)}
 if 0<b then AE 4 (b:Int) c else c
def DU(b:Dd)(a:KS):KS:={a with kn:=a.kn++[b.1],td:=a.td++[b],z:=a.z+1}
def DS(b:List ByteArray)(a:KS):KS:=b.foldl (λa c=>Bu c a) a
theorem CG(a:Nat)(b:Q):Adg Acs 89 #[V .u8 (a:Int)] b λc d=>c=F (A (Dp a))/\d=b:=by
 go_wp2;all_goals
  go_ret;have e:((a:Int)==40)=(a==40):=by rw[Ahg,beq_iff_eq,beq_iff_eq];omega
  have f:((a:Int)==41)=(a==41):=by rw[Ahg,beq_iff_eq,beq_iff_eq];omega
  unfold Dp;try simp_all
theorem Lr(a:Nat)(b:Q):Adg Acs 90 #[V .u8 (a:Int)] b λc d=>c=F (A (CF a))/\d=b:=by
 go_wp2;all_goals
  go_ret;have e:((a:Int)==32)=(a==32):=by rw[Ahg,beq_iff_eq,beq_iff_eq];omega
  have f:((a:Int)==10)=(a==10):=by rw[Ahg,beq_iff_eq,beq_iff_eq];omega
  unfold CF;try simp_all
def J7(a:ByteArray):Nat:=match a[0]? with|some b=>if Dp b.toNat=true then 1 else Gs a 0|none=>0
theorem OR(a:0<s.size)(b:Dp s[0].toNat=true):J7 s=1:=by unfold J7;grind
theorem H7(a:0<s.size)(b:Dp s[0].toNat=false):J7 s=Gs s 0:=by unfold J7;grind
theorem JF(a:ByteArray)(k:Q)(i:0<a.size)(p:a.size<=2000):Adg Acs 54 #[S a] k λc d=>c=F (V C (J7 a:Int))/\d=k:=by
 cases hb:Dp a[0].toNat with
 |true=>
  have e:=hid (OR i hb);go_enter Tryz.func54,Tryz.ntmps54;go_wp2_with (first|(go_at_call 89;refine(CG _ _).mono ?_;rintro c d ⟨rfl,rfl⟩))
  go_ret;exact⟨by rw[e.out];rfl,rfl⟩
 |false=>
  have e:=hid (H7 i hb);go_enter Tryz.func54,Tryz.ntmps54;go_wp2_with (first|(go_at_call 89;refine(CG _ _).mono ?_;rintro c d ⟨rfl,rfl⟩))
  go_loop [3] (λg=>∃b,b<=a.size/\g=V C b/\Hid (Gs a b=Gs a 0)) (λg=>a.size-(intOf g).toNat)
  case atStart=>exact⟨0,Ac0 _,rfl,rfl⟩
  case round=>
   obtain⟨b,o,rfl,f⟩:=hrel;by_cases j:b<a.size
   ·have l:(0:Int)<=(b:Int):=by omega
    have m:(b:Int)<(a.size:Int):=by omega
    have h:=hid (Df j);cases hb1:Dp a[b].toNat with
    |true=>
     go_wp2_with (first|(go_at_call 89;refine(CG _ _).mono ?_;rintro c d ⟨rfl,rfl⟩))
     go_ret;exact⟨by rw[e.out,<-f.out,h.out (Ad7 hb1)];rfl,rfl⟩
    |false=>
     cases hg1:CF a[b].toNat with
     |true=>
      go_wp2_with (first|(go_at_call 89;refine(CG _ _).mono ?_;rintro c d ⟨rfl,rfl⟩)|(go_at_call 90;refine(Lr _ _).mono ?_;rintro c d ⟨rfl,rfl⟩))
      go_ret;exact⟨by rw[e.out,<-f.out,h.out (Ads hg1)];rfl,rfl⟩
     |false=>
      go_wp2_with (first|(go_at_call 89;refine(CG _ _).mono ?_;rintro c d ⟨rfl,rfl⟩)|(go_at_call 90;refine(Lr _ _).mono ?_;rintro c d ⟨rfl,rfl⟩))
      exact⟨⟨b+1,by omega,by go_num,by show _=_;rw[<-(hid (DQ (s:=a) (q:=b) j)).out hg1 hb1,f.out]⟩,by simp[intOf];omega⟩
   ·have n:¬(b:Int)<(a.size:Int):=by omega
    go_wp2;go_ret;exact⟨by rw[e.out,<-f.out,CP (by omega)];rfl,rfl⟩
end Go.Proofs.YtnghccjoicmabaaGreatDoor
