import Derived.WalkSpells
import Derived.WalkLawsBesides
import Derived.Deep.QuietTactic
import Derived.BigQuiet
import Derived.Lib.QuietBelow
import Derived.Deep.AppendLies
import Derived.OneCell
import Derived.Deep.RegionLaw
import Derived.RangeFuncNested
import Derived.ArgAppend
import Derived.Deep.DeepAppendRoom
import Derived.Test.YtcacpmkdfnmhaaaGreatDoorXtaJ
import Derived.Deep.DeepCutAuto
import Derived.Laws.Bits64
import Derived.Lib.Bytealg
import Derived.Lib.ParseIntB
import Derived.Lib.Strings
import Derived.Test.YtcacpmkdfnmhaaaGreatDoorShIJ
import Derived.Lib.SmallJoins
import Derived.Deep.RegionHeldLaw
set_option linter.unusedSimpArgs false
set_option maxRecDepth 100000
set_option maxHeartbeats 4000000
open Except renaming error->P
open Go renaming Calls->Av,TypeId->AX,Value->X,World->Q
open Go.ByteArray renaming toList_eq->Aq0
open Go.Ending renaming returned->F
open Go.IntKind renaming i64->C
open Go.Obj renaming cells->AO
open Go.Proofs.Tryz renaming prog->Aa
open Go.RowKit renaming wrap64->Bc
open Go.Value renaming agg->T,bool->A,iface->Z,int->V,ownBlock->Bi,pointer->J,slice->W,string->S,tuple->R
open Go.World renaming news_of_block->A1
open List renaming length->L
open Option renaming none->N,some->I
open Or renaming inl->Ba,inr->Aq5
namespace Go.Proofs.YtcacpmkdfnmhaaaGreatDoor
open Go.RowKit Go.Sort
variable{w s m j D nd:Nat}{n p H:World}{b i r:Value}{w3 v1:Bool}{wj:TypeId}{wi:List Value}{y nk:List Nat}{vy:Option Nat}{vi:Nat->Prop}{w6:Oper}{wn:Act}{vk:Act->World->Prop}{w4:Exit->Act->World->Prop}{wg:Array Oper}{np:Prop}{xj:List Oper}{wx:Program}{xk:Func}{ym:Ending->World->Prop}{x6:Exit}{v nl:ByteArray}{xl:IntKind}{o wm:Int}{wl vq:Type}{nn:ByteArray×Nat}{vv:List (ByteArray×Nat)}{G:Option Addr}{vg:Obj}{f:Nat->Addr}{h:List ByteArray}{K:List UInt8}{xf:Nat->World->Prop}{nh:Ending}{xg:Unit}
def ID(a:Int):Bool:=decide (97<=a) && decide (a<=122)
def Ly(a:Int):Bool:=decide (48<=a) && decide (a<=57)
theorem SJ(a:Int)(b:Q):Av Aa 128 #[V .u8 a] b λc d=>c=F (A (ID a))/\d=b:=by
 go_wp2;all_goals go_ret
 all_goals simp_all[ID]
 omega
theorem Akc(a:Int)(b:Q):Av Aa 129 #[V .u8 a] b λc d=>c=F (A (Ly a))/\d=b:=by
 go_wp2;all_goals go_ret
 all_goals simp_all[Ly]
 omega
def Jl(a:Int):Bool:=decide (0<=a) && decide (a<=20)
theorem SC(a:Int)(b:Q):Av Aa 130 #[V C a] b λc d=>c=F (A (Jl a))/\d=b:=by
 go_wp2;all_goals go_ret
 all_goals simp_all[Jl]
 omega
theorem U0(a:Int)(b:Q):Av Aa 243 #[V C a] b λc d=>c=F (A (decide (0<=a) && decide (a<21)))/\d=b:=by
 go_wp2;all_goals go_ret
 all_goals simp_all
 omega
def K6(a:Int):Bool:=a==17||a==18||a==19||a==20
theorem Am0(a:Int)(b:Q):Av Aa 141 #[V C a] b λc d=>c=F (A (K6 a))/\d=b:=by
 go_wp2;all_goals go_ret
 all_goals simp_all[K6]
theorem JP(a:Nat)(c:Int)(b:Q)(f:a<21)(g:b.cell? ⟨21,a*7,N⟩=I (V C c)):Av Aa 207 #[V C a] b λd e=>d=F (V C c)/\e=b:=by
 go_wp2;all_goals go_ret
 simp
theorem UA(a:Nat)(c d:Int)(b:Q)(h:a<21)(i:b.cell? ⟨21,a*7+1,N⟩=I (V C c))(j:b.cell? ⟨21,a*7+2,N⟩=I (V C d)):
 Av Aa 244 #[V C a] b λe g=>e=F (R #[V C c,V C d])/\∃f,g=b.drewN f:=by
 go_wp2;go_quiet (fail);go_wp2;all_goals go_ret2
 all_goals refine⟨?_,_,rfl⟩
 rfl
def Gj(b a:Int):Int:=if b=15 then a.tmod 256 else a
theorem NQ(c b:Int)(d:X)(a:Q):
 Av Aa 210 #[T #[V C c,V C b,d]] a λe f=>e=F (V C (Gj c b))/\Below a.heap.size a f:=by
 go_wp2;all_goals go_ret
 all_goals refine⟨?_,bA⟩
 all_goals simp_all[Gj]
structure B0 where
 tag:Int
 tgt:Int
structure Bx where
 op:Int
 a:Int
 alts:List B0
structure Dd where
 name:ByteArray
 arity:Int
structure Bt where
 name:ByteArray
 arity:Int
 exp:Bool
 code:List Bx
structure BA where
 name:ByteArray
 Bu:List Dd
 Bs:List Bt
def short(a:Nat):Prop:=a<140737488355328
theorem short.le(a:short w):w<140737488355328:=a
def Ez(f:Q)(h:X)(b:List B0):Prop:=
 ∃e g,h=W e (L b) g/\short (L b)/\∀a (i:a<L b),∃c d,e=I ⟨c,d,N⟩/\f.cell? ⟨c,d+a*2,N⟩=I (.int C b[a].tag)/\f.cell? ⟨c,d+a*2+1,N⟩=I (.int C b[a].tgt)
def D9(f:Q)(j:X)(c:List Bx):Prop:=
 ∃h i,j=W h (L c) i/\short (L c)/\∀b (k:b<L c),∃d e g,h=I ⟨d,e,N⟩/\f.cell? ⟨d,e+b*3,N⟩=I (.int C c[b].op)/\f.cell? ⟨d,e+b*3+1,N⟩=I (.int C c[b].a)/\f.cell? ⟨d,e+b*3+2,N⟩=I g/\Ez f g c[b].alts
def En(f:Q)(h:X)(b:List Dd):Prop:=
 ∃e g,h=W e (L b) g/\short (L b)/\∀a (i:a<L b),∃c d,e=I ⟨c,d,N⟩/\f.cell? ⟨c,d+a*2,N⟩=I (.string b[a].name)/\f.cell? ⟨c,d+a*2+1,N⟩=I (.int C b[a].arity)/\b[a].name.size<=maxLen
def HD(e:Q)(i:X)(b:List Bt):Prop:=
 ∃g h,i=W g (L b) h/\short (L b)/\∀a (j:a<L b),∃c d f,g=I ⟨c,d,N⟩/\e.cell? ⟨c,d+a*4,N⟩=I (.string b[a].name)/\e.cell? ⟨c,d+a*4+1,N⟩=I (.int C b[a].arity)/\e.cell? ⟨c,d+a*4+2,N⟩=I (.bool b[a].exp)/\e.cell? ⟨c,d+a*4+3,N⟩=I f/\D9 e f b[a].code/\b[a].name.size<=maxLen
def EK(d:Q)(e:X)(a:BA):Prop:=
 ∃c b,e=T #[S a.name,c,b]/\a.name.size<=maxLen/\En d c a.Bu/\HD d b a.Bs
theorem Bn(hb:Below n.heap.size n p){a:Addr}{c:X}(b:n.cell? a=I c):p.cell? a=I c:=by
 rw[hb.cell (AG b)];exact b
theorem Ea{d:Q}(hb:Below n.heap.size n d):(∀a b,a<n.heap.size->d.cell? ⟨a,b,N⟩=n.cell? ⟨a,b,N⟩)/\(∀a b,a<n.heap.size->d.frozen? ⟨a,b,N⟩=n.frozen? ⟨a,b,N⟩):=
 ⟨λa b c=>hb.cell (p:=⟨a,b,N⟩) c,λa b c=>hb.frozen (p:=⟨a,b,N⟩) c⟩
theorem Ez.bE{w:Q}(hb:Below w.heap.size w n){b:X}{a:List B0}(g:Ez w b a):Ez n b a:=by
 let ⟨p,d,e,m,k⟩:=g
 refine⟨p,d,e,m,λi l=>?_⟩;let ⟨c,o,f,h,j⟩:=k i l
 exact⟨c,o,f,Bn hb h,Bn hb j⟩
theorem D9.bE{w c:Q}(hb:Below w.heap.size w c){b:X}{a:List Bx}(j:D9 w b a):D9 c b a:=by
 let ⟨s,f,g,r,p⟩:=j
 refine⟨s,f,g,r,λi q=>?_⟩;let ⟨e,o,d,h,k,l,m,n⟩:=p i q
 exact⟨e,o,d,h,Bn hb k,Bn hb l,Bn hb m,n.bE hb⟩
theorem En.bE{w:Q}(hb:Below w.heap.size w n){b:X}{a:List Dd}(g:En w b a):En n b a:=by
 let ⟨q,d,e,p,l⟩:=g
 refine⟨q,d,e,p,λi m=>?_⟩;let ⟨c,o,f,h,j,k⟩:=l i m
 exact⟨c,o,f,Bn hb h,Bn hb j,k⟩
theorem HD.bE{w c:Q}(hb:Below w.heap.size w c){b:X}{a:List Bt}(j:HD w b a):HD c b a:=by
 let ⟨u,e,g,t,r⟩:=j
 refine⟨u,e,g,t,λi s=>?_⟩;let ⟨d,o,f,h,k,l,m,n,p,q⟩:=r i s
 exact⟨d,o,f,h,Bn hb k,Bn hb l,Bn hb m,Bn hb n,p.bE hb,q⟩
theorem EK.bE{w c:Q}(hb:Below w.heap.size w c){b:X}{a:BA}(f:EK w b a):EK c b a:=by
 let ⟨j,e,d,i,h,g⟩:=f
 exact⟨j,e,d,i,h.bE hb,g.bE hb⟩
def Mn(e:Q)(f:Option Addr)(c:List B0):Prop:=
 ∀a (g:a<L c),∃b d,f=I ⟨b,d,N⟩/\e.cell? ⟨b,d+a*2,N⟩=I (.int C c[a].tag)/\e.cell? ⟨b,d+a*2+1,N⟩=I (.int C c[a].tgt)
def LZ(f:Q)(j:Option Addr)(d:List Bx):Prop:=
 ∀b (k:b<L d),∃c e i h g,j=I ⟨c,e,N⟩/\f.cell? ⟨c,e+b*3,N⟩=I (.int C d[b].op)/\f.cell? ⟨c,e+b*3+1,N⟩=I (.int C d[b].a)/\f.cell? ⟨c,e+b*3+2,N⟩=I (W i h g)/\Ez f (W i h g) d[b].alts
def NG(e:Q)(f:Option Addr)(b:List Dd):Prop:=
 ∀a (g:a<L b),∃c d,f=I ⟨c,d,N⟩/\e.cell? ⟨c,d+a*2,N⟩=I (.string b[a].name)/\e.cell? ⟨c,d+a*2+1,N⟩=I (.int C b[a].arity)/\b[a].name.size<=maxLen
def OQ(e:Q)(h:Option Addr)(b:List Bt):Prop:=
 ∀a (i:a<L b),∃c d g f cc,h=I ⟨c,d,N⟩/\e.cell? ⟨c,d+a*4,N⟩=I (.string b[a].name)/\e.cell? ⟨c,d+a*4+1,N⟩=I (.int C b[a].arity)/\e.cell? ⟨c,d+a*4+2,N⟩=I (.bool b[a].exp)/\e.cell? ⟨c,d+a*4+3,N⟩=I (W g f cc)/\D9 e (W g f cc) b[a].code/\b[a].name.size<=maxLen
variable{wz:List B0}
theorem Ez.open(h:Ez n b wz):∃a c,b=W a (L wz) c/\L wz<140737488355328/\∀d,Below n.heap.size n d->Mn d a wz:=by
 let ⟨a,c,f,m,k⟩:=h
 refine⟨a,c,f,m.le,λd hb o l=>?_⟩;let ⟨e,p,g,i,j⟩:=k o l
 exact⟨e,p,g,Bn hb i,Bn hb j⟩
variable{wh:List Bx}
theorem D9.open(k:D9 n b wh):∃a c,b=W a (L wh) c/\L wh<140737488355328/\∀d,Below n.heap.size n d->LZ d a wh:=by
 let ⟨a,c,i,r,p⟩:=k
 refine⟨a,c,i,r.le,λd hb s q=>?_⟩;let ⟨h,t,u,j,l,m,o,e⟩:=p s q
 obtain⟨g,f,rfl,-,-⟩:=id e;exact⟨h,t,g,_,f,j,Bn hb l,Bn hb m,Bn hb o,e.bE hb⟩
variable{n1:List Dd}
theorem En.open(h:En n b n1):∃a c,b=W a (L n1) c/\L n1<140737488355328/\∀d,Below n.heap.size n d->NG d a n1:=by
 let ⟨a,c,f,o,l⟩:=h
 refine⟨a,c,f,o.le,λd hb p m=>?_⟩;let ⟨e,q,g,i,j,k⟩:=l p m
 exact⟨e,q,g,Bn hb i,Bn hb j,k⟩
variable{d:List Bt}
theorem HD.open(k:HD n b d):∃a c,b=W a (L d) c/\L d<140737488355328/\∀e,Below n.heap.size n e->OQ e a d:=by
 let ⟨a,c,i,t,r⟩:=k
 refine⟨a,c,i,t.le,λe hb u s=>?_⟩;let ⟨g,v,w,j,l,m,o,p,f,q⟩:=r u s
 obtain⟨h,cc,rfl,-,-⟩:=id f;exact⟨g,v,h,_,cc,j,Bn hb l,Bn hb m,Bn hb o,Bn hb p,f.bE hb,q⟩
theorem QD(a:w3=v1):Ending.returned (A w3)=F (A v1):=by rw[a]
theorem Cb(d:Q)(b:Array X)(f:AX)(a:Nat)(c:X)(e:b[a]?=I c):(d.alloc (.cells b f)).cell? ⟨d.heap.size,a,N⟩=I c:=by
 simp[e]
theorem alloc_old(f:Q)(d:Obj)(a c:Nat)(e:X)(b:f.cell? ⟨a,c,N⟩=I e):(f.alloc d).cell? ⟨a,c,N⟩=I e:=by
 rw[((Ae _ _).alloc .refl d).cell (AG b)];exact b
theorem Adz(a:Nat)(c e:Int)(d:X)(f g:Int)(b:Q)(s:a<21)(j:b.cell? ⟨21,a*7+5,N⟩=I (V C f))(k:b.cell? ⟨21,a*7+6,N⟩=I (V C g)):
 Av Aa 185 #[T #[V C a,V C c,d],V C e] b λi m=>i=F (V C (IntKind.i64.wrap (IntKind.i64.wrap (e+f)+IntKind.i64.wrap (g*Gj a c))))/\Below b.heap.size b m:=by
 have n:=cell_regrown (Cb b #[V C a,V C c,d] 138 0 _ rfl);have o:=cell_regrown (Cb b #[V C a,V C c,d] 138 1 _ rfl);have p:=cell_regrown (Cb b #[V C a,V C c,d] 138 2 _ rfl);have q:=cell_regrown (alloc_old b (.cells #[V C a,V C c,d] 138) _ _ _ j);have r:=cell_regrown (alloc_old b (.cells #[V C a,V C c,d] 138) _ _ _ k);have t:(0:Int)<=(a:Int):=O1;have u:(a:Int)<21:=O1;go_enter Tryz.func185,Tryz.ntmps185;go_wp2;refine wp_region_quiet_below rfl O3 ?_;repeat (quiet_step (first|(go_at_call 210;exact Calls.regrown_of (NQ _ _ _ _))))
 refine wpQuiet_nil ?_;intro _ hw';let ⟨⟨h,l⟩,hw''⟩:=hw'
 subst hw'';go_wp2;go_ret;exact⟨rfl,bA.trans ((below_regrown _ h l).mono O2)⟩
def F5:List Int:=[1,0,0,0,0,1,0,
 2,0,65535,0,0,1,0,
 2,0,1000,1,1,1,0,
 0,0,0,2,0,-1,0,
 2,0,1000,1,1,0,-1,
 2,0,1000,2,1,-1,0,
 2,0,1000,0,1,0,-1,
 2,1,1000,0,0,0,1,
 0,0,0,1,0,0,0,
 0,0,0,2,0,-1,0,
 0,0,0,2,0,-1,0,
 0,0,0,2,0,-1,0,
 0,0,0,2,0,-1,0,
 0,0,0,2,0,-1,0,
 0,0,0,2,0,-1,0,
 2,0,65535,0,1,1,-1,
 2,0,255,1,0,-1,1,
 3,0,0,1,0,0,0,
 2,0,65535,0,0,0,0,
 0,0,0,1,0,0,0,
 0,0,0,0,0,0,0]
def BC(b a:Nat):Int:=F5.getD (b*7+a) 0
def Cu(b:Q):Prop:=∀a,a<147->b.cell? ⟨21,a,N⟩=I (V C (F5.getD a 0))
theorem Cu.bE{w:Q}(hb:Below w.heap.size w n)(a:Cu w):Cu n:=λi b=>Bn hb (a i b)
theorem Cu.row(c:Cu n)(b a:Nat)(e:b<21)(d:a<7):n.cell? ⟨21,b*7+a,N⟩=I (V C (BC b a)):=c _ O1
def Hv(a:Nat)(b c:Int):Int:=Bc (Bc (c+BC a 5)+Bc (BC a 6*Gj a b))
def ND(a:Nat)(b:Int):Int:=Bc (BC a 3+Bc (BC a 4*Gj a b))
def Kf(b:Nat)(c a:Int):Bool:=if b=19 then a==BC 19 3 else decide (ND b c<=a) && decide (Hv b c a<=1000)
theorem LW(a:Nat)(c d:Int)(f:X)(b:Q)(e:a<21)(h:Cu b):
 Av Aa 185 #[T #[V C a,V C c,f],V C d] b λg i=>g=F (V C (Hv a c d))/\Below b.heap.size b i:=
 (Adz a c d f _ _ b e (h.row a 5 e O1) (h.row a 6 e .refl)).mono λg i ⟨j,hb⟩=>⟨by rw[j];simp[IntWalk.i64_left,Hv],hb⟩
theorem Pn(a:Nat)(b d:Int)(g:Option Addr)(f e:Nat)(c:Q)(i:a<21)(h:Cu c):
 Av Aa 144 #[T #[V C a,V C b,W g f e],V C d] c λs t=>s=F (A (Kf a b d))/\Below c.heap.size c t:=by
 have q:O9 (Cu c):=h;by_cases m:a=19
 ·subst m;have r:=h.row 19 3 i O1;have z:=alloc_old c (.cells #[V C 19,V C b,W g f e] 138) _ _ _ r;have j:O9 (Kf 19 b d=(d==BC 19 3)):=rfl;generalize BC 19 3=r3 at*;clear h r;go_enter Tryz.func144,Tryz.ntmps144;go_wp2;go_ret;exact⟨QD j.o.symm,bA⟩
 ·have j:O9 (Kf a b d=(decide (ND a b<=d) && decide (Hv a b d<=1000))):=by show _=_;simp[Kf,m]
  have B:((a:Int)==19)=false:=by grind
  have u:=cell_regrown (Cb c #[V C a,V C b,W g f e] 138 0 _ rfl);have v:=cell_regrown (Cb c #[V C a,V C b,W g f e] 138 1 _ rfl);have w:=cell_regrown (Cb c #[V C a,V C b,W g f e] 138 2 _ rfl);have x:=cell_regrown (alloc_old c (.cells #[V C a,V C b,W g f e] 138) _ _ _ (h.row a 3 i O1));have y:=cell_regrown (alloc_old c (.cells #[V C a,V C b,W g f e] 138) _ _ _ (h.row a 4 i O1));have D:(0:Int)<=(a:Int):=O1;have E:(a:Int)<21:=O1;have p:O9 (ND a b=Bc (BC a 3+Bc (BC a 4*Gj a b))):=rfl;clear m h;generalize BC a 3=r3 at*;generalize BC a 4=r4 at*;cases hg:decide (Bc (r3+Bc (r4*Gj a b))<=d)
  ·have k:O9 (decide (Bc (r3+Bc (r4*Gj a b))<=d)=false):=hg;go_enter Tryz.func144,Tryz.ntmps144;go_wp2;refine wp_region_quiet_below rfl O3 ?_;repeat (first|go_big_quiet_step (first|(go_at_call 210;exact Calls.regrown_of (NQ _ _ _ _)))|quiet_step (first|(go_at_call 210;exact Calls.regrown_of (NQ _ _ _ _))))
   refine wpQuiet_nil ?_;intro _ hw';obtain⟨⟨l,n⟩,hw''⟩:=hw';subst hw'';go_wp2;go_ret;exact⟨QD (by rw[j.o,p.o,k.o];rfl),bA.trans ((below_regrown _ l n).mono O2)⟩
  ·have k:O9 (decide (Bc (r3+Bc (r4*Gj a b))<=d)=true):=hg;go_enter Tryz.func144,Tryz.ntmps144;go_wp2;refine wp_region_quiet_below rfl O3 ?_;repeat (first|go_big_quiet_step (first|(go_at_call 210;exact Calls.regrown_of (NQ _ _ _ _))|(go_at_call 185;exact Calls.regrown_of (LW a _ _ _ _ i (q.o.bE (bA.trans ((below_regrown _ _ _).mono O2))))))|quiet_step (first|(go_at_call 210;exact Calls.regrown_of (NQ _ _ _ _))|(go_at_call 185;exact Calls.regrown_of (LW a _ _ _ _ i (q.o.bE (bA.trans ((below_regrown _ _ _).mono O2)))))))
   refine wpQuiet_nil ?_;intro _ hw';obtain⟨⟨l,n⟩,hw''⟩:=hw';subst hw'';go_wp2;go_ret;exact⟨QD (by rw[j.o,p.o,k.o];rfl),bA.trans ((below_regrown _ l n).mono O2)⟩
theorem Tryz.el:(Aa.info? 3).map (λa=>(a.zero,a.size,a.bytes))=I (I (V C 0),1,8):=O3
theorem OB{f:Type}(b c:f->X):∀d:List f,(d.flatMap λe=>[b e,c e]).length=L d*2
 |[]=>rfl
 |a::r=>by simp only[AC,Ay,AM,Bb,OB b c r];omega
theorem Ju{f:Type}(c d:f->X):∀(e:List f) i h,(e.flatMap λb=>[c b,d b])[i*2]?=I (c e[i])/\(e.flatMap λb=>[c b,d b])[i*2+1]?=I (d e[i])
 |a::r,0,_=>O2
 |a::r,i+1,h=>by
  have:=Ju c d r i (by simpa using h);grind
theorem Nf{g:Type}(d e f:g->X):∀(c:List g) i h,(c.flatMap λb=>[d b,e b,f b])[i*3]?=I (d c[i])/\(c.flatMap λb=>[d b,e b,f b])[i*3+1]?=I (e c[i])/\(c.flatMap λb=>[d b,e b,f b])[i*3+2]?=I (f c[i])
 |a::r,0,_=>O2
 |a::r,i+1,h=>by
  have:=Nf d e f r i (by simpa using h);grind
theorem SV{j:Type}(d e f g:j->X):∀(c:List j) i h,(c.flatMap λb=>[d b,e b,f b,g b])[i*4]?=I (d c[i])/\(c.flatMap λb=>[d b,e b,f b,g b])[i*4+1]?=I (e c[i])/\(c.flatMap λb=>[d b,e b,f b,g b])[i*4+2]?=I (f c[i])/\(c.flatMap λb=>[d b,e b,f b,g b])[i*4+3]?=I (g c[i])
 |a::r,0,_=>O2
 |a::r,i+1,h=>by
  have:=SV d e f g r i (by simpa using h);grind
theorem Pk(a c b:Nat):(⟨a,c,N⟩:Addr).add b=⟨a,c+b,N⟩:=by
 unfold Addr.add;simp
theorem YN(a:n.ownsRow w wj s (W (I ⟨m,0,N⟩) j D) j wi):m<n.heap.size/\w<=m/\j<=D:=by
 rcases a.2 with⟨b,-⟩|⟨e,c,d,h,hb,f,g,-⟩
 ·cases b
 grind
theorem Rb(a:Q)(c:Array X)(d:AX)(b:Nat):(a.alloc (.cells c d)).frozen? ⟨a.heap.size,b,N⟩=false:=O2
theorem BW(c:n.ownsRow w wj s b m wi):∃d a,b=W d m a:=by
 rcases c.2 with⟨rfl,rfl⟩|⟨g,e,f,rfl,-⟩<;>exact⟨_,_,rfl⟩
def Fr(b:List Nat)(c d:Q):Prop:=∀a∈b,d.heap[a]?=c.heap[a]?
theorem Fr.refl(b:List Nat)(a:Q):Fr b a a:=λ_ _=>rfl
theorem Fr.trans{a:List Nat}{c d e:Q}(f:Fr a c d)(g:Fr a d e):Fr a c e:=λb hb=>(g b hb).trans (f b hb)
theorem Fr.sub(b:Fr y n p)(c:∀a∈nk,a∈y):Fr nk n p:=λa hb=>b a (c a hb)
def vB(a:X):List Nat:=a.ownBlock.toList
theorem BM:w∈vB b↔b.ownBlock=I w:=by
 unfold vB;simp
theorem DV(a c b:Nat):vB (W (I ⟨a,0,N⟩) c b)=[a]:=rfl
theorem Jw(b a:Nat):vB (W N b a)=[]:=rfl
theorem FC(c:n.ownsRow w wj s b m wi)(f:Fr (vB b) n p):p.ownsRow w wj s b m wi:=by
 refine⟨c.1,?_⟩;rcases c.2 with g|⟨a,d,e,rfl,hb,i,h⟩
 ·exact .inl g
 ·refine .inr ⟨a,d,e,rfl,hb,?_,h⟩;rw[f a (by simp[vB,Bi])];omega
section
variable {α:Type} (cells:α->List Value) (sub:α->List Nat) (ok:World->α->Prop) (e:TypeId) (size:Nat)
def CR(a:X)(b:List α):List Nat:=vB a++b.flatMap sub
structure BU (d:Q) (f:Nat) (c:X) (a:List α):Prop where
 own:d.ownsRow 0 e size c (L a) (a.flatMap cells)
 it:∀x∈a,ok d x
 nd:(CR sub c a).Nodup
 rg:∀b∈CR sub c a,f<=b/\b<d.heap.size
variable {cells:α->List Value} {sub:α->List Nat} {ok:World->α->Prop} {e:TypeId} {size:Nat}
def F8(sub:α->List Nat)(ok:Q->α->Prop):Prop:=∀a b c,ok a c->a.heap.size<=b.heap.size->Fr (sub c) a b->ok b c
theorem BU.nil(c:Q)(b:Nat):BU cells sub ok e size c b (W N 0 0) ([]:List α):=
 ⟨Aq7 _ _ _ _,(λ_ a=>absurd a nofun),(by simp[CR,Jw]),(λd a=>absurd a nofun)⟩
theorem BU.fr(l:F8 sub ok){b c:Q}{k:Nat}{f:X}{h:List α}(a:BU cells sub ok e size b k f h)(m:b.heap.size<=c.heap.size)(i:Fr (CR sub f h) b c):BU cells sub ok e size c k f h:=by
 refine⟨FC a.own (i.sub λd hb=>Ad _ hb),λg j=>l b c g (a.it g j) m (i.sub λd hb=>Ah _ (AP.2 ⟨g,j,hb⟩)),a.nd,λd hb=>?_⟩;have:=a.rg d hb;omega
theorem BU.bE(i:F8 sub ok){w f:Q}{c:Nat}{d:X}{g:List α}(b:BU cells sub ok e size w c d g)(hb:Below w.heap.size w f):BU cells sub ok e size f c d g:=
 b.fr i hb.size λa h=>hb.block a (b.rg a h).2
theorem BU.low{c:List α}(a:BU cells sub ok e size n w b c)(f:s<=w):BU cells sub ok e size n s b c:=
 ⟨a.own,a.it,a.nd,λd hb=>by have:=a.rg d hb;omega⟩
theorem BU.slice{v:X}{a:List α}(c:BU cells sub ok e size n w v a):∃d b,v=W d (L a) b:=BW c.own
theorem BU.push(v:F8 sub ok){c w1 j:Q}{n:Nat}{i:X}{d:List α}(f:BU cells sub ok e size c n i d)(O:n<=c.heap.size)(z:Fr (CR sub i d) c w1)(K:c.heap.size<=w1.heap.size){x:α}(M:ok w1 x)(l:∀a∈sub x,c.heap.size<=a/\a<w1.heap.size)(G:(sub x).Nodup)(k:w1.grownBy j i.ownBlock){b o s:Nat}(E:o=L d+1)(q:i.ownBlock=I b\/b=w1.heap.size)(U:b<j.heap.size)(H:j.ownsRow 0 e size (W (I ⟨b,0,N⟩) o s) o (d.flatMap cells++cells x)):BU cells sub ok e size j n (W (I ⟨b,0,N⟩) o s) (d++[x]):=by
 subst E;have m:∀a∈d.flatMap sub,n<=a/\a<c.heap.size/\i.ownBlock≠I a:=by
  intro a hb;have g:=f.rg a (Ah _ hb);refine⟨g.1,g.2,λe=>?_⟩;exact(A8.1 f.nd).2.2 a (BM.2 e) a hb rfl
 have u:∀a∈sub x,i.ownBlock≠I a:=λa hb e=>by
  have g:=f.rg a (Ad _ (BM.2 e));have w:=l a hb;omega
 have D:b∉sub x:=λhb=>by
  rcases q with e|e
  ·exact u b hb e
  ·have:=l b hb;omega
 have B:b∉d.flatMap sub:=λhb=>by
  rcases q with e|e
  ·exact(m b hb).2.2 e
  ·have:=m b hb;omega
 refine⟨?_,λp h=>?_,?_,λa hb=>?_⟩
 ·rw[Ay,AE];simpa using H
 ·rcases Ag.1 h with h|h
  ·refine v c j p (f.it p h) (Aw K k.size) λa hb=>?_;have t:=AP.2 ⟨p,h,hb⟩;have g:=m a t;rw[k.block a O1 (λe=>g.2.2 e.symm)];exact z a (Ah _ t)
  ·obtain rfl:=Aq.1 h;refine v w1 j p M k.size λa hb=>k.block a (l a hb).2 (λe=>u a hb e.symm)
 ·unfold CR;rw[DV,AE,AC,Arj,A2,Asx,Arf,Ag,A8];refine⟨λhb=>hb.elim B D,(A8.1 f.nd).2.1,G,λr y a hb e=>?_⟩;subst e;have g:=m r y;have w:=l r hb;omega
 ·unfold CR at hb;rw[DV,AE,AC,Arj,A2]at hb;have Y:=k.size;rcases Ag.1 hb with hb|hb
  ·obtain rfl:=Aq.1 hb;rcases q with e|e
   ·have:=f.rg a (Ad _ (BM.2 e));omega
   ·omega
  ·rcases Ag.1 hb with hb|hb
   ·have:=m a hb;omega
   ·have:=l a hb;omega
end
def FI(a:B0):List X:=[V C a.tag,V C a.tgt]
def FH(b:Bx×X):List X:=[V C b.1.op,V C b.1.a,b.2]
abbrev Gc:=List (Bx×X)
theorem Qy(e:n.ownsRow 0 wj w b s wi):(b=W N 0 0/\s=0)\/∃a d,b=W (I ⟨a,0,N⟩) s d/\a<n.heap.size/\∀c,c<s*w->n.cell? ⟨a,c,N⟩=wi[c]?:=by
 rcases e.2 with⟨h,i⟩|⟨a,d,g,rfl,hb,j,k⟩
 ·grind
 ·exact Aq5 ⟨a,d,rfl,(YN e).1,λc f=>e.cellAt c f⟩
structure AF (X:List Nat) (a b:Q):Prop where
 os:b.os=a.os
 tape:b.tape=a.tape
 output:b.output=a.output
 size:a.heap.size<=b.heap.size
 block:∀k,k<a.heap.size->k∉X->b.heap[k]?=a.heap[k]?
theorem AF.bG{X:List Nat}(a:Below n.heap.size n p):AF X n p:=⟨a.os,a.tape,a.output,a.size,λc b _=>a.block c b⟩
theorem AF.refl{b:List Nat}{a:Q}:AF b a a:=.bG (Ae _ _)
theorem AF.trans{d f:List Nat}{e h i:Q}(a:AF d e h)(c:AF f h i)(j:∀b∈f,b∈d\/e.heap.size<=b):AF d e i:=
 ⟨c.os.trans a.os,c.tape.trans a.tape,c.output.trans a.output,Aw a.size c.size,λb hb g=>(c.block b (Aj hb a.size) λk=>(j b k).elim g O1).trans (a.block b hb g)⟩
theorem AF.then{X:List Nat}(a:AF X n p)(hb:Below p.heap.size p H):AF X n H:=a.trans (AF.bG (X:=[]) hb) λ_ hb=>by cases hb
theorem AF.mono(a:AF y n p)(g:∀c∈y,c∈nk):AF nk n p:=⟨a.os,a.tape,a.output,a.size,λb e d=>a.block b e λf=>d (g b f)⟩
theorem AF.set{b j:Nat}(a:AF y n p)(hb:b∈y\/n.heap.size<=b)(u:X):AF y n (p.setCell ⟨b,j,N⟩ u):=
 ⟨a.os,a.tape,a.output,by simpa using a.size,λc e d=>(Az _ _ _ _ (show c≠b from λf=>by grind)).trans (a.block c e d)⟩
theorem AF.low(a:AF y n p)(d:∀b∈y,w<=b)(g:w<=n.heap.size):Below w n p:=⟨a.os,a.tape,a.output,a.size,λc e=>a.block c O1 λf=>by grind⟩
theorem AF.cell{b:List Nat}{e f:Q}{d:X}(g:AF b e f){a:Addr}(c:e.cell? a=I d)(h:a.block∉b):f.cell? a=I d:=by
 rw[Ai (g.block a.block (AG c) h)];exact c
theorem AF.drew(a:AF y n p):AF y n p.drew:=⟨a.os,a.tape,a.output,a.size,a.block⟩
def FV(c:Q)(b:Nat):Prop:=∃a:Obj,c.heap[b]?=I a/\a.isCells=true
theorem FV.fr(b:FV n w)(a:p.heap[w]?=n.heap[w]?):FV p w:=by
 let ⟨e,c,d⟩:=b
 exact⟨e,by rw[a];exact c,d⟩
theorem FV.ca{c:Q}{n:Nat}(d:c.ownsRow 0 wj w b n wi){a:Nat}(hb:a∈vB b):FV c a:=by
 rcases d.2 with⟨rfl,-⟩|⟨h,f,g,rfl,-,e,-⟩
 ·cases hb
 ·obtain rfl:=Aq.1 hb;exact⟨_,e,rfl⟩
theorem FV.ne(c:FV n w)(g:∀b,vy=I b->∃a,n.heap[b]?=I a/\a.isCells=false):I w≠vy:=λd=>by
 let ⟨a,f,e⟩:=c
 grind
structure As where
 b:List Nat
 h:Q->Prop
 c:∀{w:Q},h w->∀{k},k∈b->FV w k
 k:∀{w w':Q},h w->w.heap.size<=w'.heap.size->Fr b w w'->h w'
def fp(a:List As):List Nat:=a.flatMap As.b
structure Sp (b:Nat) (a:Q) (L:List As):Prop where
 z:b<=a.heap.size
 h:∀A∈L,A.h a
 nd:(fp L).Nodup
 rg:∀k∈fp L,b<=k/\k<a.heap.size
variable{wa:List As}
theorem Sp.fr(a:Sp w n wa)(g:n.heap.size<=p.heap.size)(e:Fr (fp wa) n p):Sp w p wa:=
 ⟨by have:=a.z;omega,λb c=>b.k (a.h b c) g λd hb=>e d (AP.2 ⟨b,c,hb⟩),a.nd,λk f=>by have:=a.rg k f;omega⟩
theorem Sp.bE{c:Nat}{w:Q}(b:Sp c w wa)(hb:Below w.heap.size w n):Sp c n wa:=b.fr hb.size λa d=>hb.block a (b.rg a d).2
theorem Sp.turn(a:Sp w n wa){h:Option Nat}(e:n.grownBy p h)(k:∀g,h=I g->∃f,n.heap[g]?=I f/\f.isCells=false):Sp w p wa:=a.fr e.size λd hb=>by
 let ⟨b,i,j⟩:=AP.1 hb
 exact e.block d (a.rg d hb).2 (FV.ne (b.c (a.h b i) j) k)
variable{vp:As}
theorem Sp.cI{L1:List As}{A':As}(f:Sp w n (L1++vp::wa))(h:AF vp.b n p)(m:A'.h p)(s:A'.b.Nodup)(hb:∀a∈A'.b,(a∈vp.b\/n.heap.size<=a)/\a<p.heap.size):Sp w p (L1++A'::wa):=by
 have r:=f.z;have k:=h.size
 have i:=f.nd;have j:=f.rg
 simp only[fp,AE,AC,A8,Ag]at i j;have g:∀c∈L1++wa,∀a∈c.b,a∉vp.b/\a<n.heap.size:=λc e a d=>by
  grind
 have o:∀c∈L1++wa,c.h p:=λc e=>c.k (f.h c O6) k λa d=>h.block a (g c e a d).2 (g c e a d).1;have q:∀a∈A'.b,∀c∈L1++wa,a∉c.b:=λa d c e l=>by
  grind
 refine⟨O1,λc e=>?_,?_,λa d=>?_⟩
 ·grind
 ·simp only[fp,AE,AC,A8,Ag];grind
 ·simp only[fp,AE,AC,Ag]at d;grind
theorem Sp.same{L1 L2:List As}{A A':As}(a:Sp w n (L1++A::L2))(g:A'.b=A.b)(h:A'.h n):Sp w n (L1++A'::L2):=by
 have f:fp (L1++A'::L2)=fp (L1++A::L2):=by simp[fp,g]
 refine⟨a.z,λd e=>?_,f▸a.nd,f▸a.rg⟩;simp at e;rcases e with c|rfl|c
 ·exact a.h d (by simp[c])
 ·exact h
 ·exact a.h d (by simp[c])
theorem Sp.mem{A:As}(a:Sp w n wa)(b:A∈wa):A.h n:=a.h A b
variable{w0:List As}{s6:As}
theorem Ajx(hb:∀a∈s6.b,a∈vp.b\/vi a):∀a∈fp (wa++s6::w0),a∈fp (wa++vp::w0)\/vi a:=λa c=>by
 simp[fp]at c ⊢;grind
theorem HU{A:As}(a:A∈wa)(c:w∈A.b):w∈fp wa:=AP.2 ⟨A,a,c⟩
abbrev pA(c:AX)(g:Nat)(b:X)(f:Nat)(i:List X):As:=⟨vB b,λh=>h.ownsRow 0 c g b f i,λa _ e=>.ca a e,λa _ d=>FC a d⟩
theorem Gf(a:X):(vB a).Nodup:=by unfold vB;grind
structure Bo (f:Nat) (d:Q) (a:List As) (e:Q) (c:List As):Prop where
 af:AF (fp a) d e
 s:Sp f e c
 nb:∀b∈fp c,b∈fp a\/d.heap.size<=b
structure Df (d:Q) (e:AX) (g:Nat) (b:X) (c:X) (f:Nat) (h:List X) (a:Q):Prop where
 own:a.ownsRow 0 e g c f h
 af:AF (vB b) d a
 nb:∀k∈vB c,(k∈vB b\/d.heap.size<=k)/\k<a.heap.size
theorem Sp.b2{L:List As}(a:Sp w n L):Bo w n L n L:=⟨.refl,a,λ_ a=>.inl a⟩
theorem Bo.bE{c:Nat}{w w1 d:Q}{b L1:List As}(a:Bo c w b w1 L1)(hb:Below w1.heap.size w1 d):Bo c w b d L1:=⟨a.af.then hb,a.s.bE hb,a.nb⟩
theorem Bo.cI{k:Nat}{l f d:Q}{g L1 h:List As}{e A':As}(a:Bo k l g f (L1++e::h))(j:AF e.b f d)(m:A'.h d)(p:A'.b.Nodup)(hb:∀b∈A'.b,(b∈e.b\/f.heap.size<=b)/\b<d.heap.size):Bo k l g d (L1++A'::h):=by
 have q:=a.af.size;refine⟨a.af.trans j λc hb=>a.nb c (HU O2 hb),a.s.cI j m p hb,λc o=>?_⟩;rcases Ajx (λb n=>(hb b n).1) c o with i|i
 ·exact a.nb c i
 omega
theorem Bo.same{e:Nat}{f b:Q}{c L1 L2:List As}{A A':As}(a:Bo e f c b (L1++A::L2))(d:A'.b=A.b)(h:A'.h b):Bo e f c b (L1++A'::L2):=⟨a.af,a.s.same d h,λg i=>a.nb g (by simpa[fp,d]using i)⟩
theorem Bo.set{g:Nat}{h d:Q}{e L1 L2:List As}{A A':As}(f:Bo g h e d (L1++A::L2)){b j:Nat}{u:X}(a:A.b=[b])(c:A'.b=[b])(i:A'.h (d.setCell ⟨b,j,N⟩ u)):Bo g h e (d.setCell ⟨b,j,N⟩ u) (L1++A'::L2):=
 f.cI (AF.refl.set (.inl (by simp[a])) _) i (by simp[c]) λk l=>⟨.inl (by rwa[a,<-c]),by simpa using(f.s.rg k (HU (A:=A) O2 (by rwa[a,<-c]))).2⟩
theorem Bo.cP{L1:List As}{n':Nat}{xs':List X}(c:Bo w n wa p (L1++pA s m b j wi::w0))(a:Df p s m b i n' xs' H):Bo w n wa H (L1++pA s m i n' xs'::w0):=c.cI a.af a.own (Gf _) a.nb
theorem Bo.frame{M:List As}(e:Bo w n wa p w0)(i:Sp w n (M++wa)):Bo w n (M++wa) p (M++w0):=by
 have o:=e.af.size;have j:=i.nd;have k:=i.rg
 simp only[fp,AE,A8,Ag]at j k;have h:∀c∈M,∀b∈c.b,b∉fp wa/\b<n.heap.size:=λc d b a=>⟨λg=>j.2.2 b (AP.2 ⟨c,d,a⟩) b g rfl,(k b (.inl (AP.2 ⟨c,d,a⟩))).2⟩;refine⟨e.af.mono λf hb=>by simp only[fp,AE,Ag];exact .inr hb,⟨e.s.z,λc d=>?_,?_,λb a=>?_⟩,λf hb=>?_⟩
 ·rcases Ag.1 d with d|d
  ·exact c.k (i.h c (Ad _ d)) o λb a=>e.af.block b (h c d b a).2 (h c d b a).1
  ·exact e.s.h c d
 ·simp only[fp,AE,A8];refine⟨j.1,e.s.nd,λl m f hb g=>?_⟩;subst g;let ⟨c,d,a⟩:=AP.1 m
  exact(e.nb l hb).elim (h c d l a).1 O6
 ·simp only[fp,AE,Ag]at a;rcases a with a|a
  ·have:=k b (.inl a);omega
  ·exact e.s.rg b a
 ·simp only[fp,AE,Ag]at hb ⊢;rcases hb with hb|hb
  ·exact .inl (.inl hb)
  ·exact(e.nb f hb).imp .inr id
theorem Sp.right{M:List As}(a:Sp w n (M++wa)):Sp w n wa:=
 ⟨a.z,λb c=>a.h b (Ah _ c),by have:=a.nd;simp[fp,A8]at this;exact this.2.1,λe d=>a.rg e (by simp only[fp,AE,Ag];exact .inr d)⟩
theorem Bo.box{A:As}(c:Bo w n wa p w0)(h:Obj)(e:A.b=[p.heap.size])(j:A.h (p.alloc h)):Bo w n wa (p.alloc h) (A::w0):=by
 have hb:Below p.heap.size p (p.alloc h):=bA;have d:=c.bE hb;have k:=c.af.size;have l:=c.s.z
 refine⟨d.af,⟨d.s.z,λi f=>?_,?_,λg a=>?_⟩,λg a=>?_⟩
 ·rcases AW.1 f with rfl|f
  ·exact j
  ·exact d.s.h i f
 ·simp only[fp,AC,e,Asx,Arf];exact⟨λa=>by have:=(c.s.rg _ a).2;omega,c.s.nd⟩
 ·simp only[fp,AC,e,Asx,AW]at a;rcases a with rfl|a
  ·simp;omega
  ·exact d.s.rg g a
 ·simp only[fp,AC,e,Asx,AW]at a;rcases a with rfl|a
  ·omega
  ·exact d.nb g a
theorem Bo.tail(a:Bo w n wa p (vp::w0)):Bo w n wa p w0:=⟨a.af,Sp.right (M:=[vp]) a.s,λb hb=>a.nb b (by simp only[fp,AC,Ag];exact .inr hb)⟩
theorem Bo.drew{c:Nat}{d e:Q}{a b:List As}(f:Bo c d a e b):Bo c d a e.drew b:=f.bE (Ae _ _).drew
theorem Bo.trans{d:Nat}{h i j:Q}{e g:List As}{f:List As}(a:Bo d h e i g)(c:Bo d i g j f):Bo d h e j f:=⟨a.af.trans c.af a.nb,c.s,λb hb=>(c.nb b hb).elim (a.nb b) λk=>.inr (Aw a.af.size k)⟩
theorem Bo.mem{L1:List As}{A:As}(a:Bo w n wa p L1)(b:A∈L1):A.h p:=a.s.h A b
structure ET (t d:AX) (a c:Nat):Prop where
 t:Aa.underlying t=I (.slice d)
 i:∃i z,Aa.info? d=I i/\i.zero=I z/\i.size=a/\i.bytes=c/\z.cells.size=a
 s:0<a
 b:c<=1000
theorem ET.of{e:Nat}{z:X}(c:Aa.underlying w=I (.slice e))(d:(Aa.info? e).map (λa=>(a.zero,a.size,a.bytes))=I (I z,s,m))(f:z.cells.size=s)(g:0<s)(h:m<=1000):ET w e s m:=by
 let ⟨a,i,b⟩:=AB.1 d
 simp at b;exact⟨c,⟨a,z,i,b.1,b.2.1,b.2.2,f⟩,g,h⟩
theorem Ae9{ty b:Nat}(i:ET w b m j){g:Q}{l:X}{d:Nat}{q:List X}(K:g.ownsRow 0 b m l d q){o a c:Nat}{e:Array X}{t:AX}{fr:Nat×Nat}(hb:g.heap[o]?=I (.cells e t fr))(ae:e.size=a*m)(v:∀ab∈e.toList,ab.oneCell'=true)(G:0<a)(H:d+a<=10000000000):
 ∃k h n,(Builtin.append_ #[w,w] ty #[l,W (I ⟨o,0,N⟩) a c]).run Aa g=.ok (W (I ⟨k,0,N⟩) (d+a) h) n/\Df g b m l (W (I ⟨k,0,N⟩) (d+a) h) (d+a) (q++e.toList) n:=by
 let ⟨M,ac,x,y,z,B,D⟩:=i.i
 have ad:=Nat.mul_le_mul H i.b;obtain⟨k,h,n,O,U,f,Y,aa⟩:=run_append_lies g w ty 0 b M ac m j i.t x y z B D i.s l d q K ⟨o,0,N⟩ a c e.toList O1 (A1 hb) v G O8 O1 (Ak _) _ rfl;refine⟨k,h,n,O,U,⟨f.os,f.tape,f.output,f.size,λr p E=>f.block r p λb=>E (BM.2 b.symm)⟩,λr p=>?_⟩;obtain rfl:=Aq.1 p;exact⟨Y.imp BM.2 λu=>Aso u.symm,aa⟩
theorem Zs(q:ET w s m j){g:Q}{i:X}{b:Nat}{o:List X}(B:g.ownsRow 0 s m i b o){k a c:Nat}{e:Array X}{p:AX}{fr:Nat×Nat}(hb:g.heap[k]?=I (.cells e p fr)){l n:Operand}(z:w6.op=.call {callee:=.builtin .append,args:=#[l,n],argTypes:=#[w,w]})(E:wn.eval l=i)(G:wn.eval n=W (I ⟨k,0,N⟩) a c)(v:e.size=a*m)(t:∀H∈e.toList,H.oneCell'=true)(x:0<a)(y:b+a<=10000000000)(r:∀f d h,Df g s m i (W (I ⟨f,0,N⟩) (b+a) d) (b+a) (o++e.toList) h->vk (wn.put w6.dst (W (I ⟨f,0,N⟩) (b+a) d)) h):w6.wp Aa wn g vk w4:=by
 let ⟨f,d,h,D,u⟩:=Ae9 (ty:=w6.type) (c:=c) q B hb v t x y
 unfold Oper.wp execOp;simp only[z,resolve,invoke,builtin,Sem.run_bind,Sem.run_pure,Result.andThen_ok,Ato,Aqv,Ars,E,G,D];exact r f d h u
theorem GQ{f d:Nat}(p:ET w f d j){e:Q}{g:X}{a:Nat}{n:List X}(B:e.ownsRow 0 f d g a n){h m c:Nat}{b:Array X}{o:AX}{fr:Nat×Nat}(hb:e.heap[h]?=I (.cells b o fr)){s x:Operand}(D:wn.eval s=g)(E:wn.eval x=W (I ⟨h,0,N⟩) m c)(t:w6.guard=N)(z:w6.op=.call {callee:=.builtin .append,args:=#[s,x],argTypes:=#[w,w]})(u:b.size=m*d)(r:∀G∈b.toList,G.oneCell'=true)(v:0<m)(y:a+m<=10000000000)(q:∀k i l,Df e f d g (W (I ⟨k,0,N⟩) (a+m) i) (a+m) (n++b.toList) l->vk (wn.put w6.dst (W (I ⟨k,0,N⟩) (a+m) i)) l):if Region.wanted w6 (yielded wg wn.tmps)=true then Oper.wp Aa w6 wn e vk w4 else np:=by
 rw[if_pos (by simp[Region.wanted,t])];exact Zs p B hb z D E u r v y q
theorem HT{i f:Nat}(p:ET w i f j){g:Q}{k:X}{a:Nat}{n:List X}(E:g.ownsRow 0 i f k a n){l m c:Nat}{d:Array X}{o:AX}{fr:Nat×Nat}(hb:g.heap[l]?=I (.cells d o fr)){s x:Operand}(G:wn.eval s=k)(H:wn.eval x=W (I ⟨l,0,N⟩) m c)(v:w6.guard=N)(D:w6.op=.call {callee:=.builtin .append,args:=#[s,x],argTypes:=#[w,w]})(y:d.size=m*f)(r:∀K∈d.toList,K.oneCell'=true)(z:0<m)(B:a+m<=10000000000)(q:∀e b h,Df g i f k (W (I ⟨e,0,N⟩) (a+m) b) (a+m) (n++d.toList) h->wpList Aa wg w4 xj (wn.put w6.dst (W (I ⟨e,0,N⟩) (a+m) b)) h):wpList Aa wg w4 (w6::xj) wn g:=
 wpList_plain v λ_ u=>Zs p E hb D G H y r z B λe b h t=>u _ _ (q e b h t)
theorem bF(a:ym (F (R #[])) n)(d:x6=.ret\/x6=.normal)(c:xk.results=#[])(b:wn.defers=[]):bodyPost wx xk ym x6 wn n:=by
 rcases d with rfl|rfl
 ·exact AV (Atj c _ _ _) b a
 ·exact bodyPost_end (Atj c _ _ _) b a
theorem YK(a:n.ownsRow w wj s b m wi):n.ownsRow 0 wj s b m wi:=⟨a.1,a.2.imp id λ⟨e,c,d,f,_,g⟩=>⟨e,c,d,f,Ak _,g⟩⟩
def DY(w:Q)(e:AX)(d:Nat)(f:X)(a:Nat)(xs:List X):Prop:=
 w.ownsRow 0 e d f a xs\/(∃b c g h,f=W (I ⟨b,c*d,N⟩) a g/\L h=c*d/\L xs=a*d/\w.ownsRow 0 e d (W (I ⟨b,0,N⟩) (c+a) (c+g)) (c+a) (h++xs))\/(∃b i,f=W (I ⟨b,i,N⟩) 0 0/\a=0/\xs=[]/\FV w b)
theorem DY.fr{j k:Q}{g:AX}{i h:Nat}{f:X}{l:List X}(a:DY j g i f h l)(e:Fr (vB f) j k):DY k g i f h l:=by
 rcases a with a|⟨b,m,cap,o,rfl,c,d,a⟩|⟨b,n,rfl,c,d,a⟩
 ·exact .inl (FC a e)
 ·exact .inr (.inl ⟨b,m,cap,o,rfl,c,d,FC a e⟩)
 ·exact .inr (.inr ⟨b,n,rfl,c,d,a.fr (e b (by simp[vB,Bi]))⟩)
theorem DY.slice{v:X}(a:DY n wj w v s wi):∃b c,v=W b s c:=by
 rcases a with a|⟨d,h,f,i,rfl,g,e,a⟩|⟨d,b,rfl,rfl,e,a⟩
 ·exact BW a
 ·simp
 simp
theorem DY.FV(a:DY n wj w b s wi){c:Nat}(hb:c∈vB b):FV n c:=by
 rcases a with a|⟨d,h,g,j,rfl,e,f,a⟩|⟨d,i,rfl,e,f,a⟩
 ·exact .ca a hb
 ·exact .ca a (by simpa[vB,Bi]using hb)
 ·obtain rfl:c=d:=by simpa[vB,Bi]using hb
  exact a
theorem DY.at{w:Q}{e:AX}{j:Nat}{xs:List X}(c:DY w e j b s xs)(l:0<s):∃a h g,b=W (I ⟨a,h,N⟩) s g/\∀d f,xs[d]?=I f->w.cell? ⟨a,h+d,N⟩=I f:=by
 rcases c with c|⟨a,m,n,p,rfl,o,k,c⟩|⟨a,h,rfl,rfl,k,c⟩
 ·obtain⟨a,g,rfl,-⟩:=c.form l;refine⟨a,0,g,rfl,λd f i=>?_⟩;have:=c.cells rfl d f i;rwa[Addr.add_lit]at this
 ·refine⟨a,_,_,rfl,λd f i=>?_⟩;have:=c.cells rfl (m*j+d) f O6;rwa[Addr.add_lit,Aqy]at this
 ·omega
theorem Amy{P:Program}(w:Q)(o u:AX)(e:AX)(k:TypeInfo)(U:X)(b B:Nat)(z:P.underlying o=I (.slice e))(x:P.info? e=I k)(al:k.zero=I U)(G:k.size=b)(af:k.bytes=B)(am:U.cells.size=b)(aj:0<b)(O:X)(a:Nat)(xs:List X)(a2:DY w e b O a xs)(p:Addr)(g r:Nat)(i:List X)(s:(L i)=g*b)(y:∀h n,i[h]?=I n->w.cell? (p.add h)=I n)(aa:∀n∈i,n.oneCell'=true)(a0:0<g)(ae:a+g<=maxLen)(ag:(a+g)*B<=140737488355328):
 ∃c ar f l,(Builtin.append_ #[o,o] u #[O,W (I p) g r]).run P w=.ok (W (I ⟨c,ar,N⟩) (a+g) f) l/\
  DY l e b (W (I ⟨c,ar,N⟩) (a+g) f) (a+g) (xs++i)/\w.grownBy l O.ownBlock/\(O.ownBlock=I c\/w.heap.size<=c)/\c<l.heap.size:=by
 rcases a2 with v|⟨c,d,f,ac,rfl,aq,K,v⟩|⟨c,a8,rfl,rfl,rfl,v⟩
 ·obtain⟨c,f,l,q,m,j,t,M⟩:=run_append_lies (P:=P) w o u 0 e k U b B z x al G af am aj O a xs v p g r i s y aa a0 ae ag (Ak _) _ rfl;exact⟨c,0,f,l,q,.inl m,j,t.imp id (λe=>Aso e.symm),M⟩
 ·by_cases a3:a+g<=f
  ·obtain⟨-,ak|⟨D,aD,av,ak,-,ah,aI,aE,aF,aJ⟩⟩:=id v
   ·cases ak.1
   cases ak;have aG:=(A5.1 ah).1;have aH:(L i)<=(f-a)*b:=by rw[s];exact Art _ O1
   have ay:∀h,h<L i->(w.cell? ⟨c,(d+a)*b+h,N⟩).isSome=true:=λh az=>by
    rw[cell_of_row w c _ av e (0,0) ah];have:(d+a)*b+(f-a)*b=(d+f)*b:=by rw[<-Nat.add_mul];congr 1;omega
    grind
   have ap:∀h,h<L i->w.frozen? ⟨c,(d+a)*b+h,N⟩=false:=λh az=>by simp[World.frozen?,ah]
   have ao:d*b+a*k.size=(d+a)*b:=by grind
   have ad:0+(d+a)*k.size=(d+a)*b:=by grind
   have q:=run_append_room_cells (P:=P) w o u e k z x c (d*b) a f p g r i O6 y aa a3 (by simp_all) (by rw[ao];exact ap);have m:=run_append_room_cells (P:=P) w o u e k z x c 0 (d+a) (d+f) p g r i (by rw[G];exact s) y aa O1 (by rw[ad];exact ay) (by rw[ad];exact ap);rw[ao]at q;rw[ad]at m;have a4:=v;obtain⟨ab,a9,aB,au⟩:∃ab,ab=w.setCells c ((d+a)*b) i/\ab.ownsRow 0 e b (W (I ⟨c,0,N⟩) (d+a+g) (d+f)) (d+a+g) (ac++xs++i)/\w.grownBy ab (I c):=by
    obtain⟨l,a5,a6,a7⟩:=run_append_own_spare (P:=P) w 0 o u e k b z x G c (d+a) (d+f) (ac++xs) a4 p g r i s y aa O1;rw[a5]at m;injection m with j t;exact⟨l,t,a6,a7⟩
   subst a9;refine⟨c,d*b,f,_,q,.inr (.inl ⟨c,d,f,ac,rfl,aq,?_,?_⟩),au,.inl rfl,?_⟩
   ·rw[Ay,K,s,Nat.add_mul]
   ·rw[<-Nat.add_assoc,<-AH];exact aB
   ·have:=au.size;omega
  ·have a1:∀h n,xs[h]?=I n->w.cell? ((⟨c,d*b,N⟩:Addr).add h)=I n:=λh n H=>by
    rw[Addr.add_lit];have E:0<a:=by
     rcases At3 a with E|E
     ·rw[E,Nat.zero_mul]at K;rw[As4.1 K]at H;cases H
     ·exact E
    obtain⟨D,aK,Y,aw,ax⟩:=((DY.at (w:=w) (e:=e) (xs:=xs) (.inr (.inl ⟨c,d,f,ac,rfl,aq,K,v⟩)))) E;cases aw;exact ax h n H
   obtain⟨aC,l,q,m,j⟩:=run_append_arg_grows (P:=P) w o u e k U b B z x al G af am aj ⟨c,d*b,N⟩ a f xs K a1 p g r i s y O1 ae ag;obtain⟨D,Y,rfl,t,M⟩:=m.form O1;exact⟨D,0,Y,l,q,.inl (YK m),⟨j.os,j.tape,j.output,j.size,λan ai _=>j.block an ai O2⟩,.inr t,M⟩
 ·obtain⟨aC,l,q,m,j⟩:=run_append_arg_grows (P:=P) w o u e k U b B z x al G af am aj ⟨c,a8,N⟩ 0 0 [] O2 (λh n H=>by cases H) p g r i s y O1 ae ag;obtain⟨D,Y,rfl,t,M⟩:=m.form O1;exact⟨D,0,Y,l,q,.inl (YK m),⟨j.os,j.tape,j.output,j.size,λan ai _=>j.block an ai O2⟩,.inr t,M⟩
structure QU (d:Q) (e:AX) (g:Nat) (b:X) (c:X) (f:Nat) (h:List X) (a:Q):Prop where
 own:DY a e g c f h
 af:AF (vB b) d a
 nb:∀k∈vB c,(k∈vB b\/d.heap.size<=k)/\k<a.heap.size
abbrev oA(c:AX)(g:Nat)(b:X)(f:Nat)(i:List X):As:=⟨vB b,λh=>DY h c g b f i,λa _ e=>a.FV e,λa _ d=>a.fr d⟩
theorem Bo.fD{L1:List As}{n':Nat}{xs':List X}(c:Bo w n wa p (L1++oA s m b j wi::w0))(a:QU p s m b i n' xs' H):Bo w n wa H (L1++oA s m i n' xs'::w0):=c.cI a.af a.own (Gf _) a.nb
theorem Afp{a g:Nat}(k:ET w a g j){h:Q}{n:X}{b:Nat}{t:List X}(Y:DY h a g n b t){p m c:Nat}{d:Array X}{u:AX}{fr:Nat×Nat}(hb:h.heap[p]?=I (.cells d u fr)){s x:Operand}(ab:wn.eval s=n)(ac:wn.eval x=W (I ⟨p,0,N⟩) m c)(K:w6.guard=N)(U:w6.op=.call {callee:=.builtin .append,args:=#[s,x],argTypes:=#[w,w]})(ak:d.size=m*g)(y:∀ah∈d.toList,ah.oneCell'=true)(M:0<m)(O:b+m<=10000000000)(v:∀e l i o,QU h a g n (W (I ⟨e,l,N⟩) (b+m) i) (b+m) (t++d.toList) o->vk (wn.put w6.dst (W (I ⟨e,l,N⟩) (b+m) i)) o):if Region.wanted w6 (yielded wg wn.tmps)=true then Oper.wp Aa w6 wn h vk w4 else np:=by
 rw[if_pos (by simp[Region.wanted,K])];let ⟨ad,ai,z,B,D,E,G⟩:=k.i
 have aj:=Nat.mul_le_mul O k.b;let ⟨e,l,i,o,aa,ae,f,af,ag⟩:=Amy h w w6.type a ad ai g j k.t z B D E G k.s n b t Y ⟨p,0,N⟩ m c d.toList O1 (A1 hb) y M O8 O1
 unfold Oper.wp execOp;simp only[U,resolve,invoke,builtin,Sem.run_bind,Sem.run_pure,Result.andThen_ok,Ato,Aqv,Ars,ab,ac,aa];refine v e l i o ⟨ae,⟨f.os,f.tape,f.output,f.size,λr q H=>f.block r q λa=>H (BM.2 a.symm)⟩,λr q=>?_⟩;obtain rfl:r=e:=by simpa[vB,Bi]using q
 exact⟨af.imp BM.2 id,ag⟩
theorem T8(a:Nat)(b:a<18446744073709551616):IntKind.u64.wrap (a:Int)=(a:Int):=by
 simp only[IntKind.wrap,IntKind.signed,IntKind.bits];simp;omega
theorem Ajs(b:ByteArray)(a:Nat)(c:a<b.size):b.data.toList.getD a 0=b[a]:=by
 rw[List.getD,AA (by simp_all)];rfl
def F0(a:Int):Bool:=ID a||Ly a||a==35
def E6(b:List UInt8):Bool:=b.all λa=>F0 a.toNat
def Cx(a:ByteArray):Bool:=decide (0<a.size) && decide (a.size<=16) && ID (a.data.toList.headD 0).toNat && E6 a.data.toList
theorem Ade(b:ByteArray)(a:Nat)(c:a<b.size):b.data.toList.take (a+1)=b.data.toList.take a++[b[a]]:=by
 rw[Au (by simpa using c)];rfl
theorem Ahb(b:List UInt8)(a:UInt8):E6 (b++[a])=(E6 b && F0 a.toNat):=by
 simp[E6]
theorem Ai1(a:ByteArray)(b:Nat)(c:b<a.size)(d:F0 a[b].toNat=false):E6 a.data.toList=false:=by
 have e:a[b]∈a.data.toList:=by
  have:a[b]=a.data.toList[b]'(by simpa using c):=rfl;grind
 simp only[E6,List.all_eq_false];grind
theorem DM(a:w3=v1):Ending.returned (A w3)=F (A v1):=by rw[a]
theorem YZ(a:ByteArray)(b:a.size=0):Cx a=false:=by simp[Cx,b]
theorem Agh(a:ByteArray)(b:16<a.size):Cx a=false:=by
 have:¬a.size<=16:=O1;simp[Cx,this]
theorem Abf(a:ByteArray)(b:0<a.size):a.data.toList.headD 0=a[0]:=by
 let ⟨⟨d⟩⟩:=a
 cases d with
 |nil=>simp[ByteArray.size]at b
 |cons c r=>rfl
theorem UQ(a:ByteArray)(b:0<a.size)(c:a.size<=16):Cx a=(ID a[0].toNat && E6 a.data.toList):=by
 rw[<-Abf a b];simp[Cx,b,c]
theorem J6(a:ByteArray)(l:Q)(r:a.size<=maxLen):
 Av Aa 79 #[S a] l λc d=>c=F (A (Cx a))/\d=l:=by
 unfold maxLen at r;by_cases n:a.size=0
 ·go_enter Tryz.func79,Tryz.ntmps79;go_wp2;go_ret;exact⟨DM (YZ a n).symm,rfl⟩
 ·by_cases p:16<a.size
  ·go_enter Tryz.func79,Tryz.ntmps79;go_wp2;go_ret;exact⟨DM (Agh a p).symm,rfl⟩
  ·have s:((a.size:Int)==0)=false:=by grind
   have k:=UQ a O1 O1;have f:O9 (Cx a=(ID a[0].toNat && E6 a.data.toList)):=k;clear k;by_cases i:ID a[0].toNat=true
   ·go_enter Tryz.func79,Tryz.ntmps79;go_wp2_with (first|(go_at_call 128;refine(SJ _ _).mono ?_;rintro c d ⟨rfl,rfl⟩))
    go_loop [20] (λh=>∃b:Nat,b<=a.size/\h=V C b/\O9 (E6 (a.data.toList.take b)=true)) (λh=>a.size-(intOf h).toNat)
    case atStart=>exact⟨0,Ak _,rfl,rfl⟩
    case round=>
     obtain⟨b,t,rfl,e⟩:=hrel;by_cases j:b<a.size
     ·have g:O9 (E6 (a.data.toList.take (b+1))=(E6 (a.data.toList.take b) && F0 a[b].toNat)):=by
       rw[Ade a b j];exact Ahb _ _
      have m:O9 (F0 a[b].toNat=false->E6 a.data.toList=false):=Ai1 a b j;go_wp2_with (first|(go_at_call 128;refine(SJ _ _).mono ?_;rintro c d ⟨rfl,rfl⟩)|(go_at_call 129;refine(Akc _ _).mono ?_;rintro c d ⟨rfl,rfl⟩))
      case roundEnd=>exact⟨⟨b+1,O1,rfl,by show E6 _=true;rw[g.o,e.o];simp_all[F0]⟩,by simp[intOf];omega⟩
      case roundEnd=>exact⟨⟨b+1,O1,rfl,by show E6 _=true;rw[g.o,e.o];simp_all[F0]⟩,by simp[intOf];omega⟩
      case roundEnd=>exact⟨⟨b+1,O1,rfl,by show E6 _=true;rw[g.o,e.o];simp_all[F0]⟩,by simp[intOf];omega⟩
      go_ret;exact⟨DM (by rw[f.o,m.o (by simp_all[F0])];simp),rfl⟩
     ·go_wp2;go_ret;refine⟨DM ?_,rfl⟩;rw[f.o,i];have:=e.o;rw[Arv O5]at this;simp[this]
   ·have q:ID a[0].toNat=false:=by simpa using i
    go_enter Tryz.func79,Tryz.ntmps79;go_wp2_with (first|(go_at_call 128;refine(SJ _ _).mono ?_;rintro c d ⟨rfl,rfl⟩))
    go_ret;exact⟨DM (by rw[f.o,q];rfl),rfl⟩
def Ca(a b:ByteArray):Int:=Lib.compareBytes a.data.toList b.data.toList
def D8(a b:ByteArray):Bool:=!(Op.bytesLess a.toList b.toList||a.toList==b.toList)
theorem Oj:∀c d:List UInt8,Lib.compareBytes c d<0↔Op.bytesLess c d=true
 |[],[]=>by simp[Lib.compareBytes,Op.bytesLess]
 |[],_::_=>by simp[Lib.compareBytes,Op.bytesLess]
 |_::_,[]=>by simp[Lib.compareBytes,Op.bytesLess]
 |a::c,b::d=>by
  have e:=Oj c d;simp[Lib.compareBytes,Op.bytesLess];grind
theorem OH:∀c d:List UInt8,Lib.compareBytes c d=0↔c=d
 |[],[]=>by simp[Lib.compareBytes]
 |[],_::_=>by simp[Lib.compareBytes]
 |_::_,[]=>by simp[Lib.compareBytes]
 |a::c,b::d=>by
  have e:=OH c d;simp[Lib.compareBytes];grind
theorem Pj:∀c d:List UInt8,Lib.compareBytes c d=-Lib.compareBytes d c
 |[],[]=>rfl
 |[],_::_=>rfl
 |_::_,[]=>rfl
 |a::c,b::d=>by
  have e:=Pj c d;simp[Lib.compareBytes];grind
theorem Xn:∀f d e:List UInt8,Op.bytesLess f d=true->Op.bytesLess d e=true->Op.bytesLess f e=true
 |_,[],e=>by simp[Op.bytesLess]
 |[],b::d,[]=>nofun
 |[],b::d,c::e=>by simp[Op.bytesLess]
 |a::f,b::d,[]=>nofun
 |a::f,b::d,c::e=>by
  have g:=Xn f d e;simp[Op.bytesLess,Bool.or_eq_true,decide_eq_true_eq,beq_iff_eq];grind
theorem OS(a b:ByteArray):D8 a b=true↔Ca b a<0:=by
 unfold D8 Ca;rw[Pj,Aq0,Aq0];have c:=Oj a.data.toList b.data.toList;have d:=OH a.data.toList b.data.toList;grind
theorem Ln{a b c:ByteArray}(d:Ca a b<0)(e:Ca b c<0):Ca a c<0:=by
 unfold Ca at*;rw[Oj]at*;exact Xn _ _ _ d e
theorem Kb(a b:ByteArray):Ca a b=0↔a=b:=by
 unfold Ca;rw[OH];constructor
 ·let ⟨⟨c⟩⟩:=a
  simp_all
 grind
theorem PK(a b:ByteArray):Ca a b=-Ca b a:=Pj _ _
theorem le_eq(a b:ByteArray):(Op.bytesLess a.toList b.toList||a.toList==b.toList)=!D8 a b:=by simp[D8]
def HA(a:List Dd):Prop:=∀b c (d:b<L a) (e:c<L a),b<c->Ca a[b].name a[c].name<0
def Fs(a:List Dd)(b:ByteArray):Bool:=a.any λc=>decide (Ca c.name b=0)
theorem Apa(a:List Dd)(c:ByteArray)(b:Nat)(e:b<L a)(d:Ca a[b].name c=0):Fs a c=true:=by
 simp[Fs,List.any_eq_true];grind
theorem Yu(a:List Dd)(c:ByteArray)(e:∀b (g:b<L a),Ca a[b].name c≠0):Fs a c=false:=by
 simp[Fs,Asq];intro i d;obtain⟨h,f,rfl⟩:=Aty.1 d;grind
def Ii(b:List Dd)(c:ByteArray)(e f:Nat):Prop:=(∀a (d:a<L b),a<e->Ca b[a].name c<0)/\∀a (d:a<L b),f<=a->¬Ca b[a].name c<0
theorem Ii.left(f:HA n1)(e:m<L n1)(g:Ii n1 v w s)(b:Ca n1[m].name v<0):Ii n1 v (m+1) s:=by
 refine⟨λa d h=>?_,g.2⟩;by_cases c:a=m
 ·subst c;exact b
 ·exact Ln (f a m d e O1) b
theorem Ii.right(f:HA n1)(d:m<L n1)(g:Ii n1 v w s)(c:¬Ca n1[m].name v<0):Ii n1 v w m:=by
 refine⟨g.1,λa b i e=>?_⟩;by_cases h:m=a
 ·grind
 ·exact c (Ln (f m a d b O1) e)
theorem Ii.found(h:HA n1)(c:w<L n1)(e:Ii n1 v w w):Fs n1 v=(Ca n1[w].name v==0):=by
 by_cases b:Ca n1[w].name v=0
 ·rw[Apa n1 v w c b];simp[b]
 ·rw[Yu n1 v ?_]
  ·simp[b]
  ·intro a d i;have k:=e.2 w c .refl;by_cases g:a<w
   ·have:=e.1 a d g;omega
   ·by_cases j:a=w
    ·grind
    ·have f:=h w a c d O1;rw[(Kb _ _).1 i]at f;omega
theorem Ii.none(c:¬w<L n1)(b:Ii n1 v w w):Fs n1 v=false:=
 Yu n1 v λk a=>by have:=b.1 k a O1;omega
abbrev Rd(a:Type):=Except (Nat×Nat) (a×Nat)
structure EF (E:Nat) (a b:Q):Prop where
 os:b.os=a.os
 tape:b.tape=a.tape
 output:b.output=a.output
 size:a.heap.size<=b.heap.size
 block:∀k,k<a.heap.size->k≠E->b.heap[k]?=a.heap[k]?
theorem EF.refl(b:Nat)(a:Q):EF b a a:=⟨rfl,rfl,rfl,Ac _,λ_ _ _=>rfl⟩
theorem EF.trans{d:Nat}{f g h:Q}(a:EF d f g)(c:EF d g h):EF d f h:=
 ⟨c.os.trans a.os,c.tape.trans a.tape,c.output.trans a.output,Aw a.size c.size,λb hb e=>(c.block b (Aj hb a.size) e).trans (a.block b hb e)⟩
theorem EF.bG{E:Nat}(a:Below n.heap.size n p):EF E n p:=⟨a.os,a.tape,a.output,a.size,λc b _=>a.block c b⟩
theorem EF.set(a:EF w n p)(u:X):EF w n (p.setCell ⟨w,s,N⟩ u):=
 a.trans ⟨rfl,rfl,rfl,O2,λc _ b=>Az _ _ _ _ b⟩
theorem B4(b:s≠m):(⟨w,s,N⟩:Addr)≠⟨w,m,N⟩:=λa=>b (congrArg Addr.off a)
theorem Aks(a:o=wm):Ending.returned (V xl o)=F (V xl wm):=by rw[a]
def DN(a:Nat):Bool:=a==32||a==10
def Ee(a:Nat):Bool:=a==40||a==41
theorem Ama(a:Nat):DN a=true↔a=32\/a=10:=by simp[DN]
theorem Aje(a:Nat):Ee a=true↔a=40\/a=41:=by simp[Ee]
def BI(b:ByteArray)(a:Nat):Nat:=if h:a<b.size then (if DN b[a].toNat=true then BI b (a+1) else a) else a
termination_by b.size-a
theorem Z1(a:w<v.size)(b:DN v[w].toNat=true):BI v w=BI v (w+1):=by rw[BI,dif_pos a,if_pos b]
theorem SX(a:w<v.size)(b:DN v[w].toNat=false):BI v w=w:=by rw[BI,dif_pos a,if_neg (by simp[b])]
theorem QL{s:ByteArray}{p:Nat}(a:s.size<=p):BI s p=p:=by rw[BI,dif_neg O1]
theorem Nc(s:ByteArray):∀b p,s.size-p<=b->p<=BI s p/\(p<=s.size->BI s p<=s.size)/\(∀a:BI s p<s.size,DN s[BI s p].toNat=false)
 |0,p,hn=>by
  rw[QL O1];grind
 |b+1,p,hn=>by
  by_cases a:p<s.size
  ·cases hg:DN s[p].toNat with
   |true=>
    have c:=Z1 a hg;let ⟨d,e,f⟩:=Nc s b (p+1) O1
    grind
   |false=>
    have c:=SX a hg;grind
  ·have c:=QL (s:=s) (p:=p) O1;grind
theorem Ei(b:ByteArray)(a:Nat):a<=BI b a:=(Nc b _ a .refl).1
theorem Hu(a:w<=v.size):BI v w<=v.size:=(Nc v _ w .refl).2.1 a
theorem Aip(a:BI v w<v.size):DN v[BI v w].toNat=false:=(Nc v _ w .refl).2.2 a
theorem ZZ(a:ByteArray)(b:Nat):BI a (BI a b)=BI a b:=by
 by_cases c:BI a b<a.size
 ·exact SX c (Aip c)
 ·exact QL O1
def Dt(b:ByteArray)(a:Nat):Nat:=if h:a<b.size then (if DN b[a].toNat=true\/Ee b[a].toNat=true then a else Dt b (a+1)) else a
termination_by b.size-a
theorem Lc{s:ByteArray}{q:Nat}(a:q<s.size)(b:DN s[q].toNat=false)(hb:Ee s[q].toNat=false):Dt s q=Dt s (q+1):=by rw[Dt,dif_pos a,if_neg (by simp[b,hb])]
theorem Km(a:w<v.size)(b:DN v[w].toNat=true\/Ee v[w].toNat=true):Dt v w=w:=by rw[Dt,dif_pos a,if_pos b]
theorem Im(a:v.size<=w):Dt v w=w:=by rw[Dt,dif_neg O1]
theorem Ro(b:ByteArray):∀c a,b.size-a<=c->a<=Dt b a/\(a<=b.size->Dt b a<=b.size)
 |0,a,hn=>by rw[Im O1];omega
 |c+1,a,hn=>by
  by_cases d:a<b.size
  ·by_cases e:DN b[a].toNat=true\/Ee b[a].toNat=true
   ·rw[Km d e];omega
   ·rw[Lc d O6 O6];let ⟨f,g⟩:=Ro b c (a+1) O1
    omega
  ·rw[Im O1];omega
theorem Qm(b:ByteArray)(a:Nat):a<=Dt b a:=(Ro b _ a .refl).1
theorem Aj4(a:w<=v.size):Dt v w<=v.size:=(Ro v _ w .refl).2 a
def Hh(b:ByteArray)(a:Nat):Nat:=if Dt b a=a/\a<b.size then a+1 else Dt b a
theorem Amo(b:ByteArray)(a:Nat):a<=Hh b a:=by unfold Hh;split;omega;exact Qm b a
theorem QX{s:ByteArray}{q:Nat}(a:q<=s.size):Hh s q<=s.size:=by unfold Hh;split;omega;exact Aj4 a
theorem Tv{s:ByteArray}{q:Nat}(a:q<s.size):q<Hh s q:=by
 unfold Hh;split
 ·omega
 ·have:=Qm s q;omega
def BP(b:ByteArray)(a:Nat):Nat:=BI b a
def BG(a:ByteArray)(b:Nat):Nat:=Hh a (BI a b)
def Bp(a:ByteArray)(b:Nat):ByteArray:=a.extract (BP a b) (BG a b)
theorem Yx(a:ByteArray)(b:Nat):BP a (BI a b)=BP a b:=ZZ a b
theorem Q7(a:ByteArray)(b:Nat):BG a (BI a b)=BG a b:=by unfold BG;rw[ZZ]
theorem VR(a:ByteArray)(b:Nat):Bp a (BI a b)=Bp a b:=by unfold Bp;rw[Yx,Q7]
theorem Dq(a:w<=v.size):BG v w<=v.size:=QX (Hu a)
theorem Afl(a:w<=v.size):BP v w<=v.size:=Hu a
theorem QK(b:ByteArray)(a:Nat):BP b a<=BG b a:=Amo _ _
theorem L7(a:w<=v.size):(Bp v w).size=BG v w-BP v w:=by
 unfold Bp;rw[Arw];have:=Dq a;omega
theorem RZ(a:BP v w<v.size):w<BG v w:=by
 have b:=Ei v w;have c:=Tv (q:=BI v w) a;unfold BG;omega
abbrev Pr(a:Type):=Except (Nat×Nat) (a×Nat)
def pb{b c:Type}(f:Pr b)(d:b->Nat->Pr c):Pr c:=match f with|P e=>P e|.ok (a,q)=>d a q
theorem BB(a:wl)(c:Nat)(b:wl->Nat->Pr vq):pb (.ok (a,c)) b=b a c:=rfl
theorem Dj(a:Nat×Nat)(b:wl->Nat->Pr vq):pb (P a:Pr wl) b=P a:=rfl
def BS(b c:ByteArray)(a:Nat):Pr Unit:=if Bp b a=c then .ok ((),BG b a) else P (2,BP b a)
structure TX (b:Q) (a:Nat) (l:ByteArray) (i g d k:Nat) (h e c:X):Prop where
 c0:b.cell? ⟨a,0,N⟩=I (S l)
 c1:b.cell? ⟨a,1,N⟩=I (V C (i:Int))
 c2:b.cell? ⟨a,2,N⟩=I (V C (g:Int))
 c3:b.cell? ⟨a,3,N⟩=I (V C (d:Int))
 c4:b.cell? ⟨a,4,N⟩=I (V C (k:Int))
 c5:b.cell? ⟨a,5,N⟩=I h
 c6:b.cell? ⟨a,6,N⟩=I e
 c7:b.cell? ⟨a,7,N⟩=I c
 f:∀j,j<8->b.frozen? ⟨a,j,N⟩=false
theorem TX.lt(a:TX n w v s m j D b i r):w<n.heap.size:=AG a.c0
theorem TX.bX{w':Q}(c:TX n w v s m j D b i r)(g:w'.heap[w]?=n.heap[w]?):TX w' w v s m j D b i r:=by
 have d:=λe=>Ai (a:=⟨w,e,N⟩) g;refine⟨?_,?_,?_,?_,?_,?_,?_,?_,λe h=>?_⟩
 ·rw[d];exact c.c0
 ·rw[d];exact c.c1
 ·rw[d];exact c.c2
 ·rw[d];exact c.c3
 ·rw[d];exact c.c4
 ·rw[d];exact c.c5
 ·rw[d];exact c.c6
 ·rw[d];exact c.c7
 ·rw[AD g];exact c.f e h
theorem TX.bE{w:Q}{a:Nat}{pl:Nat}{nm:X}(c:TX w a v s m j pl nm b i)(hb:Below w.heap.size w n):TX n a v s m j pl nm b i:=c.bX (hb.block a c.lt)
theorem TX.at{w:Q}{d:Nat}(a:TX w d v s m j D b i r)(h:Nat):TX (w.setCell ⟨d,1,N⟩ (V C (h:Int))) d v h m j D b i r:=by
 have c:∀e,e≠1->(w.setCell ⟨d,1,N⟩ (V C h)).cell? ⟨d,e,N⟩=w.cell? ⟨d,e,N⟩:=λe g=>Af _ _ _ _ (B4 (Asg g));refine⟨?_,Am _ _ _ a.c1,?_,?_,?_,?_,?_,?_,λe g=>by rw[An];exact a.f e g⟩
 ·rw[c _ O1];exact a.c0
 ·rw[c _ O1];exact a.c2
 ·rw[c _ O1];exact a.c3
 ·rw[c _ O1];exact a.c4
 ·rw[c _ O1];exact a.c5
 ·rw[c _ O1];exact a.c6
 ·rw[c _ O1];exact a.c7
theorem TX.dk(a:TX n w v s m j D b i r)(g:Nat):TX (n.setCell ⟨w,2,N⟩ (V C (g:Int))) w v s g j D b i r:=by
 have c:∀d,d≠2->(n.setCell ⟨w,2,N⟩ (V C g)).cell? ⟨w,d,N⟩=n.cell? ⟨w,d,N⟩:=λd e=>Af _ _ _ _ (B4 (Asg e));refine⟨?_,?_,Am _ _ _ a.c2,?_,?_,?_,?_,?_,λd e=>by rw[An];exact a.f d e⟩
 ·rw[c _ O1];exact a.c0
 ·rw[c _ O1];exact a.c1
 ·rw[c _ O1];exact a.c3
 ·rw[c _ O1];exact a.c4
 ·rw[c _ O1];exact a.c5
 ·rw[c _ O1];exact a.c6
 ·rw[c _ O1];exact a.c7
theorem TX.place(a:TX n w v s m j D b i r)(g:Nat):TX (n.setCell ⟨w,4,N⟩ (V C (g:Int))) w v s m j g b i r:=by
 have c:∀d,d≠4->(n.setCell ⟨w,4,N⟩ (V C g)).cell? ⟨w,d,N⟩=n.cell? ⟨w,d,N⟩:=λd e=>Af _ _ _ _ (B4 (Asg e));refine⟨?_,?_,?_,?_,Am _ _ _ a.c4,?_,?_,?_,λd e=>by rw[An];exact a.f d e⟩
 ·rw[c _ O1];exact a.c0
 ·rw[c _ O1];exact a.c1
 ·rw[c _ O1];exact a.c2
 ·rw[c _ O1];exact a.c3
 ·rw[c _ O1];exact a.c5
 ·rw[c _ O1];exact a.c6
 ·rw[c _ O1];exact a.c7
theorem TX.ef{a:Nat}{w:Q}(c:TX w s v m j D nd b i r)(d:EF a w n)(e:s≠a):TX n s v m j D nd b i r:=c.bX (d.block s c.lt e)
theorem MN(a:v.toList=nl.toList):v=nl:=by
 rw[Aq0,Aq0]at a;exact Go.WideShapes.bytes_inj a
def IX(a:Nat):Bool:=decide (97<=a) && decide (a<=122)
def D0(a:Nat):Bool:=decide (48<=a) && decide (a<=57)
def I9(b:ByteArray)(a:Nat):Bool:=if h:a<b.size then (IX b[a].toNat||(decide (a≠0) && D0 b[a].toNat)) && I9 b (a+1) else true
termination_by b.size-a
theorem Ox(a:w<v.size):I9 v w=((IX v[w].toNat||(decide (w≠0) && D0 v[w].toNat)) && I9 v (w+1)):=by rw[I9,dif_pos a]
theorem Xt(a:v.size<=w):I9 v w=true:=by rw[I9,dif_neg O1]
def VE:List ByteArray:=[⟨#[109,111,100,117,108,101]⟩,⟨#[105,109,112,111,114,116]⟩,⟨#[100,101,102]⟩,⟨#[108,101,116]⟩,⟨#[108,101,116,114,101,99]⟩,⟨#[99,111,110]⟩,⟨#[99,97,115,101]⟩]
def Me(c:ByteArray)(a:Nat):Bool:=(VE.drop a).any λb=>decide (c=b)
def CE(a:ByteArray):Bool:=I9 a 0 && !Me a 0 && decide (0<a.size) && decide (a.size<=10)
def FE(b:ByteArray)(a:Nat):Pr (ByteArray×Nat):=if CE (Bp b a)=true then .ok ((Bp b a,BP b a),BG b a) else P (2,BP b a)
def Ix(a:ByteArray)(b c:Nat):Option Nat:=if h:b<a.size then (if D0 a[b].toNat=true then Ix a (b+1) (10*c+(a[b].toNat-48)) else N) else I c
termination_by a.size-b
theorem Akq(a:w<v.size)(b:D0 v[w].toNat=true):Ix v w s=Ix v (w+1) (10*s+(v[w].toNat-48)):=by rw[Ix,dif_pos a,if_pos b]
theorem Alv(a:w<v.size)(b:D0 v[w].toNat=false):Ix v w s=none:=by rw[Ix,dif_pos a,if_neg (by simp[b])]
theorem T6(a:v.size<=w):Ix v w s=I s:=by rw[Ix,dif_neg O1]
def Hy(a:ByteArray):Bool:=match a[0]? with|some b=>decide (b.toNat=45)|none=>false
def FN(a:ByteArray):Bool:=match a[0]? with|some b=>decide (b.toNat=48)|none=>false
def Ck(a:ByteArray):ByteArray:=if Hy a=true then a.extract 1 a.size else a
def D7(a:ByteArray):Option Int:=
 if (Ck a).size=0\/(FN (Ck a)=true/\¬a=⟨#[48]⟩)\/19<(Ck a).size then N else
  match Ix (Ck a) 0 0 with
  |none=>N
  |some b=>if Hy a=true then (if b<=9223372036854775808 then I (-(b:Int)) else N) else (if b<9223372036854775808 then I (b:Int) else N)
def Es(b:ByteArray)(c:Nat)(a:Nat):Pr (Nat×Nat):=match D7 (Bp b a) with
 |some v=>if 0<=v/\v<=(c:Int) then .ok ((v.toNat,BP b a),BG b a) else P (2,BP b a)
 |none=>P (2,BP b a)
def CK(d:ByteArray)(b:List ByteArray)(a:Nat):Bool:=(b.drop a).any λc=>decide (c=d)
abbrev Bm:=List (ByteArray×Nat)
theorem Aqs(a:n.ownsRow s wj m b j wi)(e:EF w n p)(f:w<s):p.ownsRow s wj m b j wi:=
 FC a λc d=>e.block c (a.lt c (BM.1 d)).2 (λwj=>by have:=(a.lt c (BM.1 d)).1;omega)
def EQ(a:ByteArray):Nat->Bm->Nat->Pr Bm
 |0,_,p=>P (2,p)
 |f+1,got,p=>if Bp a p=⟨#[41]⟩ then .ok (got,BG a p) else pb (FE a p) λb c=>if CK b.1 (got.map (·.1)) 0=true then P (5,b.2) else EQ a f (got++[b]) c
def Ge(a:ByteArray)(b:Nat):Pr Bm:=pb (BS a ⟨#[40]⟩ b) λ_ c=>EQ a (a.size+1) [] c
theorem Ng:CE ⟨#[]⟩=false:=by unfold CE;rw[show(decide (0<(⟨#[]⟩:ByteArray).size))=false from rfl];simp
theorem Ak0(b:w<=v.size)(a:FE v w=.ok (nn,s)):w<s/\s<=v.size/\nn=(Bp v w,BP v w)/\s=BG v w:=by
 unfold FE at a;split at a
 ·rename_i d
  simp[Except.ok.injEq]at a;obtain⟨rfl,rfl⟩:=a;refine⟨?_,Dq b,rfl,rfl⟩;refine RZ ?_;rcases Asb (BP v w) v.size with c|c
  ·exact c
  ·have e:Bp v w=⟨#[]⟩:=by
    apply Asa;apply Asd;have f:=L7 b;have g:=Dq b;show(Bp v w).size=0;omega
   rw[e,Ng]at d;cases d
 ·cases a
inductive Ex where
 |num (n:Int)
 |name (g:Bool) (t:ByteArray) (pl:Nat)
 |call (parts:List Ex)
 |lets (r:Bool) (ns:Bm) (es:List Ex) (body:Ex)
 |CS (tag:Nat) (fs:List Ex)
 |case (e:Ex) (brs:List (Nat×Bm×Ex))
 |op (k:Nat) (l r:Ex)
def Ct:ByteArray:=⟨#[40]⟩
def BJ:ByteArray:=⟨#[41]⟩
def Oz:ByteArray:=⟨#[108,101,116]⟩
def On:ByteArray:=⟨#[108,101,116,114,101,99]⟩
def PL:ByteArray:=⟨#[99,111,110]⟩
def OA:ByteArray:=⟨#[99,97,115,101]⟩
def Oc:List ByteArray:=[⟨#[43]⟩,⟨#[45]⟩,⟨#[42]⟩,⟨#[47]⟩,⟨#[61]⟩,⟨#[60]⟩]
def I2(b:ByteArray):Option Nat:=Oc.findIdx? λa=>decide (b=a)
def Ec(b:ByteArray)(a:Nat):Pr Ex:=
 if CE (Bp b a)=true then .ok (.name false (Bp b a) (BP b a),BG b a) else
  match D7 (Bp b a) with
  |some v=>.ok (.num v,BG b a)
  |none=>P (2,BP b a)
section
variable (s:ByteArray) (E:Nat->Pr Ex)
def EB:Nat->List Ex->Nat->Pr (List Ex)
 |0,_,p=>P (2,p)
 |f+1,got,p=>if Bp s p=BJ then .ok (got,BI s p) else pb (E p) λa b=>EB f (got++[a]) b
def Fj:Nat->List Ex->Nat->Pr (List Ex)
 |0,_,p=>P (2,p)
 |f+1,got,p=>if Bp s p=BJ then .ok (got,BI s p) else if L got=20 then P (3,BP s p) else pb (E p) λa b=>Fj f (got++[a]) b
def FW:Nat->Bm->List Ex->Nat->Pr (Bm×List Ex)
 |0,_,_,p=>P (2,p)
 |f+1,ns,es,p=>pb (BS s Ct p) λ_ d=>pb (FE s d) λa e=>if CK a.1 (ns.map (·.1)) 0=true then P (5,a.2) else
  pb (E e) λc g=>pb (BS s BJ g) λ_ b=>if Bp s b=BJ then .ok ((ns++[a],es++[c]),BI s b) else FW f (ns++[a]) (es++[c]) b
def FX:Nat->List (Nat×Bm×Ex)->Nat->Pr (List (Nat×Bm×Ex))
 |0,_,p=>P (2,p)
 |f+1,got,p=>pb (BS s Ct p) λ_ g=>pb (Es s 255 g) λa h=>if got.any (λe=>decide (e.1=a.1))=true then P (5,a.2) else
  pb (Ge s h) λd i=>pb (E i) λc j=>pb (BS s BJ j) λ_ b=>if Bp s b=BJ then .ok (got++[(a.1,d,c)],BI s b) else FX f (got++[(a.1,d,c)]) b
def Fy(h:Bool)(c:Nat):Pr Ex:=pb (BS s Ct c) λ_ d=>pb (FW s E (s.size+1) [] [] d) λa e=>pb (BS s BJ e) λ_ f=>pb (E f) λb g=>.ok (.lets h a.1 a.2 b,g)
def Hb(b:Nat):Pr Ex:=pb (Es s 255 b) λe c=>pb (Fj s E (s.size+1) [] c) λa d=>.ok (.CS e.1 a,d)
def H1(c:Nat):Pr Ex:=pb (E c) λa d=>pb (FX s E (s.size+1) [] d) λb e=>.ok (.case a b,e)
def Is(b:Nat):Pr Ex:=pb (E b) λf c=>pb (E c) λg d=>pb (EB s E (s.size+1) [f,g] d) λa e=>.ok (.call a,e)
def Dx(a:Nat):Pr Ex:=
 match I2 (Bp s a) with
 |some k=>pb (E (BG s a)) λb c=>pb (E c) λe d=>.ok (.op k b e,d)
 |none=>
  if Bp s a=Oz then Fy s E false (BG s a)
  else if Bp s a=On then Fy s E true (BG s a)
  else if Bp s a=PL then Hb s E (BG s a)
  else if Bp s a=OA then H1 s E (BG s a)
  else Is s E a
end
def pE(a:ByteArray):Nat->Nat->Pr Ex
 |0,p=>if Bp a p=Ct then P (3,BP a p) else Ec a p
 |d+1,p=>if Bp a p=Ct then pb (Dx a (pE a d) (BG a p)) λb c=>pb (BS a BJ c) λ_ e=>.ok (b,e) else Ec a p
theorem Bk{d:Pr wl}{g:wl->Nat->Pr vq}{f:vq}(a:pb d g=.ok (f,w)):∃b c,d=.ok (b,c)/\g b c=.ok (f,w):=by
 match d,a with
 |.ok (b,c),a=>exact⟨b,c,rfl,a⟩
 |P e,a=>cases a
def DR{g:Type}(c:ByteArray)(f:Nat->Pr g)(e:Nat):Prop:=∀a,a<=c.size->∀d b,f a=.ok (d,b)->a+e<=b/\b<=c.size
theorem GY(a:w<=v.size)(c:Bp v w≠⟨#[]⟩):w+1<=BG v w/\BG v w<=v.size:=by
 refine⟨?_,Dq a⟩;refine RZ ?_;rcases Asb (BP v w) v.size with b|b
 ·exact b
 ·exfalso;apply c;apply Asa;apply Asd;have d:=L7 a;have e:=Dq a;show(Bp v w).size=0;omega
theorem B2(d:nl≠⟨#[]⟩):DR v (BS v nl) 1:=by
 intro f c e g a;unfold BS at a;split at a
 ·rename_i b
  cases a;exact GY c (by rw[b];exact d)
 ·cases a
theorem Ha:DR v (FE v) 1:=λe b g f a=>by
 obtain⟨c,d,-⟩:=Ak0 b a;omega
theorem Og:D7 ⟨#[]⟩=none:=rfl
theorem Hg:DR v (Es v w) 1:=by
 intro e d g f a;have c:Bp v e≠⟨#[]⟩:=λb=>by
  unfold Es at a;rw[b,Og]at a;cases a
 unfold Es at a;split at a
 ·split at a
  ·cases a;exact GY d c
  ·cases a
 ·cases a
theorem Zb:DR v (Ec v) 1:=by
 intro e c g f a;have b:Bp v e≠⟨#[]⟩:=λd=>by
  unfold Ec at a;rw[d,Og,Ng]at a;simp at a
 unfold Ec at a;split at a
 ·cases a;exact GY c b
 ·split at a
  ·cases a;exact GY c b
  ·cases a
theorem RA{j:ByteArray}:∀b e,DR j (EQ j b e) 1
 |0,_=>λg _ d h a=>by cases a
 |b+1,e=>λg f d h a=>by
  rw[EQ]at a;split at a
  ·rename_i l
   cases a;exact GY f (by rw[l];decide)
  ·let ⟨n,i,k,c⟩:=Bk a
   have m:=Ha g f n i k;split at c
   ·cases c
   ·have o:=RA b _ i m.2 d h c;omega
theorem Kx:DR v (Ge v) 2:=by
 intro h f b i c;let ⟨j,a,d,e⟩:=Bk c
 have g:=B2 O4 h f j a d;have k:=RA _ _ a g.2 b i e;omega
section
variable {s:ByteArray} {E:Nat->Pr Ex} (hE:DR s E 1)
include hE
theorem Pc:∀b e,DR s (EB s E b e) 0
 |0,_=>λc _ d g a=>by cases a
 |b+1,e=>λc f d g a=>by
  rw[EB]at a;split at a
  ·cases a;exact⟨Ei s c,Hu f⟩
  ·let ⟨l,h,i,j⟩:=Bk a
   have k:=hE c f l h i;have m:=Pc b _ h k.2 d g j;omega
theorem P0:∀b e,DR s (Fj s E b e) 0
 |0,_=>λc _ d g a=>by cases a
 |b+1,e=>λc f d g a=>by
  rw[Fj]at a;split at a
  ·cases a;exact⟨Ei s c,Hu f⟩
  ·split at a
   ·cases a
   ·let ⟨l,h,i,j⟩:=Bk a
    have k:=hE c f l h i;have m:=P0 b _ h k.2 d g j;omega
theorem MO:∀b g e,DR s (FW s E b g e) 4
 |0,_,_=>λh _ d i a=>by cases a
 |b+1,g,e=>λh q d i a=>by
  let ⟨v,j,m,a⟩:=Bk a
  have r:=B2 O4 h q v j m;let ⟨w,k,n,a⟩:=Bk a
  have t:=Ha j r.2 w k n;split at a
  ·cases a
  ·let ⟨x,l,o,a⟩:=Bk a
   have u:=hE k t.2 x l o;let ⟨y,c,p,a⟩:=Bk a
   have f:=B2 O4 l u.2 y c p;split at a
   ·cases a;have B:=Ei s c;have D:=Hu f.2;omega
   ·have z:=MO b _ _ c f.2 d i a;omega
theorem PG:∀b e,DR s (FX s E b e) 5
 |0,_=>λg _ d h a=>by cases a
 |b+1,e=>λg r d h a=>by
  let ⟨x,i,m,a⟩:=Bk a
  have t:=B2 O4 g r x i m;let ⟨y,j,n,a⟩:=Bk a
  have u:=Hg i t.2 y j n;split at a
  ·cases a
  ·let ⟨z,k,o,a⟩:=Bk a
   have v:=Kx j u.2 z k o;let ⟨B,l,p,a⟩:=Bk a
   have w:=hE k v.2 B l p;let ⟨D,c,q,a⟩:=Bk a
   have f:=B2 O4 l w.2 D c q;split at a
   ·cases a;have H:=Ei s c;have K:=Hu f.2;omega
   ·have G:=PG b _ c f.2 d h a;omega
theorem R8(o:Bool):DR s (Fy s E o) 1:=by
 intro m i u w a;let ⟨p,b,e,a⟩:=Bk a
 have j:=B2 O4 m i p b e;let ⟨q,c,f,a⟩:=Bk a
 have k:=MO hE _ _ _ b j.2 q c f;let ⟨r,d,g,a⟩:=Bk a
 have l:=B2 O4 c k.2 r d g;let ⟨t,n,h,a⟩:=Bk a
 have v:=hE d l.2 t n h;cases a;omega
theorem Anj:DR s (Hb s E) 1:=by
 intro g e k m a;let ⟨i,b,c,a⟩:=Bk a
 have f:=Hg g e i b c;let ⟨j,h,d,a⟩:=Bk a
 have l:=P0 hE _ _ b f.2 j h d;cases a;omega
theorem Ai2:DR s (H1 s E) 1:=by
 intro g e k m a;let ⟨i,b,c,a⟩:=Bk a
 have f:=hE g e i b c;let ⟨j,h,d,a⟩:=Bk a
 have l:=PG hE _ _ b f.2 j h d;cases a;omega
theorem Adb:DR s (Is s E) 1:=by
 intro j g o q a;let ⟨l,b,d,a⟩:=Bk a
 have h:=hE j g l b d;let ⟨m,c,e,a⟩:=Bk a
 have i:=hE b h.2 m c e;let ⟨n,k,f,a⟩:=Bk a
 have p:=Pc hE _ _ c i.2 n k f;cases a;omega
theorem Yt:DR s (Dx s E) 1:=by
 intro f g b d a;have c:=Dq g;have o:=Aw (Ei s f) (QK s f);unfold Dx at a;split at a
 ·let ⟨m,h,i,a⟩:=Bk a
  have k:=hE _ c m h i;let ⟨n,l,j,a⟩:=Bk a
  have p:=hE h k.2 n l j;cases a;omega
 ·split at a
  ·have e:=R8 hE _ _ c b d a;omega
  ·split at a
   ·have e:=R8 hE _ _ c b d a;omega
   ·split at a
    ·have e:=Anj hE _ c b d a;omega
    ·split at a
     ·have e:=Ai2 hE _ c b d a;omega
     ·exact Adb hE f g b d a
end
theorem IC(g:ByteArray):∀d,DR g (pE g d) 1
 |0=>λe b c f a=>by
  rw[pE]at a;split at a
  ·cases a
  ·exact Zb e b c f a
 |d+1=>λe b c f a=>by
  rw[pE]at a;split at a
  ·rename_i k
   have k0:=GY b (by rw[k];decide);let ⟨n,h,i,a⟩:=Bk a
   have l:=Yt (IC g d) _ k0.2 n h i;let ⟨o,m,j,a⟩:=Bk a
   have p:=B2 O4 h l.2 o m j;cases a;omega
  ·exact Zb e b c f a
abbrev EJ:=ByteArray×List ByteArray×Ex
structure KS where
 code:List Bx
 Bl:Int
 loc:List (ByteArray×Int)
 kn:List ByteArray
 td:List EJ
 z:Nat
def Bz(c:Nat)(b:Int)(a:KS):KS:={a with code:=a.code++[⟨(c:Int),b,[]⟩],Bl:=Hv c b a.Bl,z:=a.z+1}
def G3(b:Nat)(a:Int):Nat->KS->KS
 |0,c=>c
 |n+1,c=>Bz b a (G3 b a n c)
def Ef(c:ByteArray)(b:List ByteArray):Int:=match b.findIdx? (λd=>decide (d=c)) with|some a=>(a:Int)|none=>-1
def Ld(b:ByteArray)(a:List (ByteArray×Int)):Option Int:=(a.reverse.find? λc=>decide (c.1=b)).map (·.2)
def CV(b:ByteArray)(a:KS):KS:=match Ld b a.loc with
 |some p=>Bz 2 (Bc (Bc (a.Bl-1)-p)) a
 |none=>Bz 1 (Ef b a.kn) a
def EN(b:Int)(a:KS):KS:=Bz 5 (Bc (Bc (a.Bl-2)-b)) a
def H9(a:Int):Nat->List ByteArray->List (ByteArray×Int)
 |_,[]=>[]
 |b,t::r=>(t,Bc (a+(b:Int)))::H9 a (b+1) r
def Dp(c:Int)(b:Bm)(a:KS):KS:={a with loc:=a.loc++H9 c 0 (b.map (·.1)),z:=a.z+L b}
def C7(b:Nat)(a:KS):KS:=
 let c:={a with loc:=a.loc.take (L a.loc-b)}
 if 0<b then Bz 4 (b:Int) c else c
def DL(b:EJ)(a:KS):KS:={a with kn:=a.kn++[b.1],td:=a.td++[b],z:=a.z+1}
def HO(b:List ByteArray)(a:KS):KS:=b.foldl (λa c=>CV c a) a
theorem NK(a:Nat)(b:Q):Av Aa 104 #[V .u8 (a:Int)] b λc d=>c=F (A (Ee a))/\d=b:=by
 go_wp2;all_goals
  go_ret;have e:((a:Int)==40)=(a==40):=by rw[Asu,beq_iff_eq,beq_iff_eq];omega
  have f:((a:Int)==41)=(a==41):=by rw[Asu,beq_iff_eq,beq_iff_eq];omega
  unfold Ee;try simp_all
theorem Z3(a:Nat)(b:Q):Av Aa 105 #[V .u8 (a:Int)] b λc d=>c=F (A (DN a))/\d=b:=by
 go_wp2;all_goals
  go_ret;have e:((a:Int)==32)=(a==32):=by rw[Asu,beq_iff_eq,beq_iff_eq];omega
  have f:((a:Int)==10)=(a==10):=by rw[Asu,beq_iff_eq,beq_iff_eq];omega
  unfold DN;try simp_all
def Iz(a:ByteArray):Nat:=match a[0]? with|some b=>if Ee b.toNat=true then 1 else Dt a 0|none=>0
theorem ZC(a:0<v.size)(hb:Ee v[0].toNat=true):Iz v=1:=by unfold Iz;grind
theorem Su(a:0<v.size)(hb:Ee v[0].toNat=false):Iz v=Dt v 0:=by unfold Iz;grind
theorem Ahk(a:ByteArray)(k:Q)(i:0<a.size)(r:a.size<=2000):Av Aa 54 #[S a] k λc d=>c=F (V C (Iz a:Int))/\d=k:=by
 cases hb:Ee a[0].toNat with
 |true=>
  have e:=O0 (ZC i hb);go_enter Tryz.func54,Tryz.ntmps54;go_wp2_with (first|(go_at_call 104;refine(NK _ _).mono ?_;rintro c d ⟨rfl,rfl⟩))
  go_ret;exact⟨by rw[e.o];rfl,rfl⟩
 |false=>
  have e:=O0 (Su i hb);go_enter Tryz.func54,Tryz.ntmps54;go_wp2_with (first|(go_at_call 104;refine(NK _ _).mono ?_;rintro c d ⟨rfl,rfl⟩))
  go_loop [3] (λg=>∃b,b<=a.size/\g=V C b/\O9 (Dt a b=Dt a 0)) (λg=>a.size-(intOf g).toNat)
  case atStart=>exact⟨0,Ak _,rfl,rfl⟩
  case round=>
   obtain⟨b,p,rfl,f⟩:=hrel;by_cases j:b<a.size
   ·have l:(0:Int)<=(b:Int):=O1;have m:(b:Int)<(a.size:Int):=O1;have h:=O0 (Km j);cases hb1:Ee a[b].toNat with
    |true=>
     go_wp2_with (first|(go_at_call 104;refine(NK _ _).mono ?_;rintro c d ⟨rfl,rfl⟩))
     go_ret;exact⟨by rw[e.o,<-f.o,h.o (Aq5 hb1)];rfl,rfl⟩
    |false=>
     cases hg1:DN a[b].toNat with
     |true=>
      go_wp2_with (first|(go_at_call 104;refine(NK _ _).mono ?_;rintro c d ⟨rfl,rfl⟩)|(go_at_call 105;refine(Z3 _ _).mono ?_;rintro c d ⟨rfl,rfl⟩))
      go_ret;exact⟨by rw[e.o,<-f.o,h.o (Ba hg1)];rfl,rfl⟩
     |false=>
      go_wp2_with (first|(go_at_call 104;refine(NK _ _).mono ?_;rintro c d ⟨rfl,rfl⟩)|(go_at_call 105;refine(Z3 _ _).mono ?_;rintro c d ⟨rfl,rfl⟩))
      exact⟨⟨b+1,O1,by go_num,by show _=_;rw[<-(O0 (Lc (s:=a) (q:=b) j)).o hg1 hb1,f.o]⟩,by simp[intOf];omega⟩
   ·have n:¬(b:Int)<(a.size:Int):=O1;go_wp2;go_ret;exact⟨by rw[e.o,<-f.o,Im O1];rfl,rfl⟩
def Cv(a:ByteArray)(b:Nat):List (ByteArray×Nat):=if _h:BP a b<a.size then (Bp a b,BP a b)::Cv a (BG a b) else [(⟨#[]⟩,a.size)]
termination_by a.size-b
decreasing_by
 have c:=RZ _h;have d:=Ei a b;unfold BP at _h;omega
theorem Tr{p:Nat}(a:BP v p<v.size):Cv v p=(Bp v p,BP v p)::Cv v (BG v p):=by rw[Cv,dif_pos a]
theorem S6(a:¬BP v w<v.size):Cv v w=[(⟨#[]⟩,v.size)]:=by rw[Cv,dif_neg a]
theorem NO(a:ByteArray)(b:Nat):Cv a (BI a b)=Cv a b:=by
 rw[Cv,Yx,VR,Q7];conv=>rhs;rw[Cv]
theorem Al3(a:w<v.size)(b:DN v[w].toNat=true):Cv v (w+1)=Cv v w:=by
 rw[<-NO v (w+1),<-NO v w,Z1 a b]
theorem Uy(a:ByteArray)(c:Nat):Cv a c≠[]:=by
 by_cases b:BP a c<a.size
 ·rw[Tr b];simp
 ·rw[S6 b];simp
theorem UZ(a:w<=v.size):∃d,Cv v w=(Bp v w,BP v w)::d/\(Bp v w≠⟨#[]⟩->d=Cv v (BG v w)):=by
 by_cases c:BP v w<v.size
 ·exact⟨_,Tr c,λ_=>rfl⟩
 ·have f:=Afl a;have g:=Dq a;have h:=L7 a;have b:Bp v w=⟨#[]⟩:=by
   apply Asa;apply Asd;show(Bp v w).size=0;omega
  refine⟨[],?_,λe=>absurd b e⟩;rw[S6 c,b,show BP v w=v.size by omega]
theorem ext_get(a:ByteArray)(b c:Nat)(d:c<(a.extract b a.size).size)(e:b+c<a.size):(a.extract b a.size)[c]=a[b+c]:=by
 simp[ByteArray.getElem_extract]
theorem Q3(a:ByteArray)(b:Nat)(k:b<=a.size):∀g c,a.size-(b+c)<=g->b+c<=a.size->Dt (a.extract b a.size) c+b=Dt a (b+c)
 |0,c,hn,hk=>by
  rw[Im (by rw[Arw];omega),Im O1];omega
 |g+1,c,hn,hk=>by
  by_cases e:b+c<a.size
  ·have f:c<(a.extract b a.size).size:=by rw[Arw];omega
   have d:=ext_get a b c f e;by_cases j:DN a[b+c].toNat=true\/Ee a[b+c].toNat=true
   ·rw[Km f (by rw[d];exact j),Km e j];omega
   ·have h:DN a[b+c].toNat=false:=by grind
    have i:Ee a[b+c].toNat=false:=by grind
    rw[Lc f (by rw[d];exact h) (by rw[d];exact i),Lc e h i];exact Q3 a b k g (c+1) O1 O1
  ·rw[Im (by rw[Arw];omega),Im O1];omega
theorem Ajk(e:w<v.size)(b:DN v[w].toNat=true):Iz (v.extract w v.size)=0:=by
 have a:0<(v.extract w v.size).size:=by rw[Arw];omega
 have c:=ext_get v w 0 a O1;have hb:Ee v[w].toNat=false:=by rw[Ama]at b;cases hb:Ee v[w].toNat with|false=>rfl|true=>rw[Aje]at hb;omega
 have d:(v.extract w v.size)[0].toNat=v[w].toNat:=by rw[c];rfl
 rw[Su a (by rw[d];exact hb)];have:=Q3 v w O1 _ 0 .refl O1;have f:Dt v (w+0)=w:=Km e (Ba b);omega
theorem ZB(a:w<v.size)(d:DN v[w].toNat=false):w+Iz (v.extract w v.size)=Hh v w:=by
 have b:0<(v.extract w v.size).size:=by rw[Arw];omega
 have c:(v.extract w v.size)[0].toNat=v[w].toNat:=by rw[ext_get v w 0 b O1];rfl
 cases hb:Ee v[w].toNat with
 |true=>
  rw[ZC b (by rw[c];exact hb)];unfold Hh;rw[if_pos ⟨Km a (Aq5 hb),a⟩]
 |false=>
  rw[Su b (by rw[c];exact hb)];have:=Q3 v w O1 _ 0 .refl O1;have e:w<Dt v w:=by
   rw[Lc a d hb];have:=Qm v (w+1);omega
  unfold Hh;grind
def wC(a:ByteArray×Nat):List X:=[S a.1,V C (a.2:Int)]
abbrev R6(d:Q)(b:Nat)(c:X)(a:List (ByteArray×Nat)):Prop:=BU wC (λ_=>[]) (λ_ _=>True) 161 2 d b c a
theorem D1:F8 (α:=ByteArray×Nat) (λ_=>[]) (λ_ _=>True):=λ_ _ _ _ _ _=>trivial
theorem Tryz.ff:(Aa.info? 161).map (λa=>(a.zero,a.size,a.bytes))=I (I (T #[S ⟨#[]⟩,V C 0]),2,24):=O3
structure Jb (c:ByteArray) (d wr:Q) (b:Nat) (a:List (ByteArray×Nat)) (f:Option Addr) (e:Nat):Prop where
 le:b<=c.size
 row:R6 wr d.heap.size (W f (L a) e) a
 eq:a++Cv c b=Cv c 0
 len:(L a)<=b
 low:Below d.heap.size d wr
theorem Jb.gF{wr:Q}(a:Jb v n wr w vv G s)(b:w<v.size)(c:DN v[w].toNat=true):Jb v n wr (w+1) vv G s:=
 ⟨O1,a.row,by rw[Al3 b c];exact a.eq,by have:=a.len;omega,a.low⟩
theorem BU.cZ{d:wl->List X}{f:Q->wl->Prop}(r:F8 (λ_=>[]) f){a g:Q}{j:Nat}{k:X}{b:List wl}{e:Obj}(m:BU d (λ_=>[]) f wj w a j k b)(p:j<=a.heap.size){x:wl}(t:f (a.alloc e) x)(o:(a.alloc e).grownBy g k.ownBlock){c l:Nat}(n:k.ownBlock=I c\/c=(a.alloc e).heap.size)(q:c<g.heap.size)(s:g.ownsRow 0 wj w (W (I ⟨c,0,N⟩) (L b+1) l) (L b+1) (b.flatMap d++d x)):BU d (λ_=>[]) f wj w g j (W (I ⟨c,0,N⟩) (L b+1) l) (b++[x]):=by
 have hb:Below a.heap.size a (a.alloc e):=bA;exact m.push r p (λh i=>hb.block h (m.rg h i).2) hb.size t (λh i=>by cases i) As9 o rfl n q s
theorem Nl(hb:Below w n p)(d:w<=p.heap.size)(e:∀a,b.ownBlock=I a->w<=a)(c:(p.alloc vg).grownBy H b.ownBlock):Below w n H:=
 (hb.alloc d vg).grown c O5 e
theorem Jb.word{s:ByteArray}{wr:Q}{c:Nat}(a:Jb s n wr w vv G m)(d:w<s.size)(i:DN s[w].toNat=false)(v:Iz (s.extract w s.size)=c)(j:(wr.alloc vg).grownBy H (W G (L vv) m).ownBlock){b e:Nat}(r:(W G (L vv) m).ownBlock=I b\/b=(wr.alloc vg).heap.size)(u:b<H.heap.size)(x:H.ownsRow 0 161 2 (W (I ⟨b,0,N⟩) (L vv+1) e) (L vv+1) (vv.flatMap wC++[S (s.extract w (w+c)),V C (w:Int)])):
 Jb s n H (w+c) (vv++[(s.extract w (w+c),w)]) (I ⟨b,0,N⟩) e:=by
 subst v;have o:=ZB d i;have f:=SX d i;have g:BG s w=w+Iz (s.extract w s.size):=by unfold BG;rw[f,<-o]
 have h:BP s w=w:=f;have y:=Tv d;have z:=QX (s:=s) (q:=w) O1;have t:(vv++[(s.extract w (w+Iz (s.extract w s.size)),w)]).length=L vv+1:=O2;have k:=a.low.size;refine⟨O1,?_,?_,by have:=a.len;omega,Nl a.low k (λl hb=>(a.row.rg l (Ad _ (BM.2 hb))).1) j⟩
 ·rw[t];exact a.row.cZ D1 k trivial j r u x
 ·rw[<-a.eq,Tr (p:=w) O1,AH,g,h];unfold Bp;rw[g,h];rfl
def Wp(a:ByteArray)(b:Q)(f:Ending)(e:Q):Prop:=Below b.heap.size b e/\∃d c,f=F (W (I ⟨d,0,N⟩) (Cv a 0).length c)/\R6 e b.heap.size (W (I ⟨d,0,N⟩) (Cv a 0).length c) (Cv a 0)
theorem Jb.fin{wr:Q}(b:Jb v n wr v.size vv G w)(e:(wr.alloc vg).grownBy H (W G (L vv) w).ownBlock){a c:Nat}(i:(W G (L vv) w).ownBlock=I a\/a=(wr.alloc vg).heap.size)(j:a<H.heap.size)(k:H.ownsRow 0 161 2 (W (I ⟨a,0,N⟩) (L vv+1) c) (L vv+1) (vv.flatMap wC++[S ⟨#[]⟩,V C (v.size:Int)])):
 Wp v n (F (W (I ⟨a,0,N⟩) (L vv+1) c)) H:=by
 have g:=b.low.size;have d:Cv v 0=vv++[(⟨#[]⟩,v.size)]:=by
  rw[<-b.eq,S6];have:=Ei v v.size;unfold BP;omega
 have f:(vv++[((⟨#[]⟩,v.size):ByteArray×Nat)]).length=L vv+1:=O2;refine⟨Nl b.low g (λh hb=>(b.row.rg h (Ad _ (BM.2 hb))).1) e,a,c,?_,?_⟩
 ·rw[d,f]
 ·rw[d,f];exact b.row.cZ D1 g trivial e i j k
theorem Ad5(s:ByteArray)(e:Q)(al:s.size<=2000):Av Aa 28 #[S s] e λu n=>Wp s e u n:=by
 obtain⟨G,D,E⟩:=AB.1 Tryz.ff;simp only[Aq2]at E;obtain⟨y,z,B⟩:=E;have w:O9 (Jb s e e 0 [] N 0):=⟨Ak _,BU.nil _ _,rfl,Ak _,Ae _ _⟩;go_enter Tryz.func28,Tryz.ntmps28;go_wp2;go_loopw [3,4] (λab t wr=>∃(c:List (ByteArray×Nat)) (a:Nat) (g:Option Addr) (f:Nat),ab=W g (L c) f/\t=V C (a:Int)/\O9 (Jb s e wr a c g f)) (λ_ t _=>s.size-(intOf t).toNat)
 case atStart=>exact⟨[],0,N,0,rfl,rfl,w.o⟩
 case round=>
  clear w;obtain⟨c,a,g,f,rfl,rfl,d⟩:=hrel;rename Q=>wr
  have ah:=d.o.le;have ai:=d.o.len;by_cases j:a<s.size
  ·have ae:(0:Int)<=(a:Int):=O1;have af:(a:Int)<(s.size:Int):=O1;have am:(s.extract a s.size).size=s.size-a:=by rw[Arw];omega
   have x:=O0 (λe=>Ahk (s.extract a s.size) e O1 O1);cases hg:DN s[a].toNat with
   |true=>
    have K:=O0 (d.o.gF j hg);have p:=O0 (Ajk j hg);clear hg;go_wp2_with (first|(go_at_call 54;refine(x.o _).mono ?_;rintro u n ⟨rfl,rfl⟩;rw[p.o]))
    exact⟨⟨c,a+1,g,f,rfl,by go_num,K.o⟩,by simp[intOf];omega⟩
   |false=>
    obtain⟨b,v⟩:∃b,Iz (s.extract a s.size)=b:=⟨_,rfl⟩;have O:a+b=Hh s a:=by rw[<-v];exact ZB j hg
    have U:=Tv (s:=s) (q:=a) j;have Y:=QX (s:=s) (q:=a) O1;have aj:0<b:=O1;have ak:a+b<=s.size:=O1;clear O U Y;have H:=O0 hg;have p:=O0 v;clear hg v;have an:(0:Int)<(b:Int):=O1;have ao:(0:Int)<=(a:Int)+(b:Int):=O1;have ap:(a:Int)+(b:Int)<=(s.size:Int):=O1;have aq:(a:Int)<=(a:Int)+(b:Int):=O1;go_wp2_with (first
     |(go_at_call 54;refine(x.o _).mono ?_;rintro u n ⟨rfl,rfl⟩;rw[p.o])
     |(at_builtin;refine wpList_append_lies _ rfl (.tmp 16) (.tmp 25) 99 rfl 0 161 G _ 2 24 Tryz.underlying99 D y z B rfl O1 (W g (L c) f) (L c) (c.flatMap wC) rfl (d.o.row.own.alloc _) ⟨n.heap.size,0,N⟩ 1 1 [S (s.extract a (a+b)),V C (a:Int)] rfl rfl (by simpa using A1 (AL n (AO #[S (s.extract a (a+b)),V C (a:Int)] 161))) (by intro ac m;simp at m;rcases m with rfl|rfl<;>rfl) O1 O8 O1 (Ak _) _ rfl ?_;intro M aa ad l i h k;have r:=O0 (d.o.word j H.o p.o i h k l);clear l i h k))
    exact⟨⟨_,a+b,_,_,by rw[Ay];rfl,by go_num,r.o⟩,by simp[intOf];omega⟩
  ·obtain rfl:a=s.size:=O1;have ag:¬(s.size:Int)<(s.size:Int):=O1;go_wp2_with (first
    |(at_builtin;refine wpList_append_lies _ rfl (.tmp 31) (.tmp 35) 99 rfl 0 161 G _ 2 24 Tryz.underlying99 D y z B rfl O1 (W g (L c) f) (L c) (c.flatMap wC) rfl (d.o.row.own.alloc _) ⟨wr.heap.size,0,N⟩ 1 1 [S ⟨#[]⟩,V C (s.size:Int)] rfl rfl (by simpa using A1 (AL wr (AO #[S ⟨#[]⟩,V C (s.size:Int)] 161))) (by intro ac m;simp at m;rcases m with rfl|rfl<;>rfl) O1 O8 O1 (Ak _) _ rfl ?_;intro M aa ad l i h k;have r:=O0 (d.o.fin i h k l);clear l i h k))
   go_ret;exact r.o
structure SY (a:Q) (b:Nat->Addr):Prop where
 sy:a.cell? ⟨1,0,N⟩=I (Z 444 (J (I (b 12))))
 dp:a.cell? ⟨2,0,N⟩=I (Z 444 (J (I (b 13))))
 tw:a.cell? ⟨4,0,N⟩=I (Z 444 (J (I (b 14))))
 nm:a.cell? ⟨3,0,N⟩=I (Z 444 (J (I (b 5))))
 lg:a.cell? ⟨0,0,N⟩=I (Z 444 (J (I (b 4))))
 es:∃ev,a.cell? ⟨25,0,N⟩=I ev/\(ev=.nilIface\/∃te pe,ev=Z te pe)
 er:∃ev,a.cell? ⟨26,0,N⟩=I ev/\(ev=.nilIface\/∃te pe,ev=Z te pe)
theorem SY.bE{w:Q}(a:SY w f)(hb:Below w.heap.size w n):SY n f:=by
 let ⟨b,d,g⟩:=a.es
 let ⟨c,e,h⟩:=a.er
 exact⟨Bn hb a.sy,Bn hb a.dp,Bn hb a.tw,Bn hb a.nm,Bn hb a.lg,⟨b,Bn hb d,g⟩,⟨c,Bn hb e,h⟩⟩
structure PB (a f:Q) (c:Nat) (d:Nat->Addr):Prop where
 s:SY a d
 b:Below a.heap.size a f
 e:a.heap.size<=c
theorem PB.ef{w:Q}{d:Nat}(a:PB n w d f)(c:EF d w p):PB n p d f:=
 ⟨a.s,⟨c.os.trans a.b.os,c.tape.trans a.b.tape,c.output.trans a.b.output,Aw a.b.size c.size,λh g=>(c.block h (Aj g a.b.size) (by have:=a.e;omega)).trans (a.b.block h g)⟩,a.e⟩
theorem PB.sy(a:PB n p w f):SY p f:=a.s.bE a.b
theorem Aa7(e:EF w n p){a c:Nat}{d:X}(b:n.cell? ⟨a,c,N⟩=I d)(hb:a≠w):p.cell? ⟨a,c,N⟩=I d:=by
 rw[Ai (e.block a (AG b) hb)];exact b
theorem Jg(a:EF w n p)(hb:n.heap.size<=s):EF w n (p.setCell ⟨s,m,N⟩ b):=
 ⟨a.os,a.tape,a.output,by have:=a.size;simp;omega,λc e d=>by rw[Az _ _ _ _ (show c≠s by omega)];exact a.block c e d⟩
def T9(e:Q)(c d:Nat)(b:List (ByteArray×Nat)):Prop:=∀a (f:a<L b),e.cell? ⟨c,d+a*2,N⟩=I (.string b[a].1)/\e.cell? ⟨c,d+a*2+1,N⟩=I (V C (b[a].2:Int))
structure PS (b:Q) (a d:Nat) (g:ByteArray) (e:Nat) (gv:X) (h:Nat):Prop where
 c0:∃o c,b.cell? ⟨a,0,N⟩=I (W (I ⟨d,o,N⟩) (Cv g e).length c)/\(Cv g e).length<=c/\c<=9223372036854775807/\d≠a/\T9 b d o (Cv g e)
 c1:b.cell? ⟨a,1,N⟩=I gv
 c2:b.cell? ⟨a,2,N⟩=I (V C (h:Int))
 f:∀j,j<3->b.frozen? ⟨a,j,N⟩=false
theorem PS.lt(a:PS n w s v m b j):w<n.heap.size:=AG a.c1
theorem PS.dK(a:PS n w s v m b j):s<n.heap.size:=by
 let ⟨i,d,e,f,g,h,c⟩:=a.c0
 exact AG (c 0 (Aq8.2 (Uy _ _))).1
theorem PS.cN{l:Nat}{g:X}(d:PS n w s v m g l){b j:Nat}{u:X}(h:b≠w)(i:b≠s):PS (n.setCell ⟨b,j,N⟩ u) w s v m g l:=by
 have e:∀c a,c≠b->(n.setCell ⟨b,j,N⟩ u).cell? ⟨c,a,N⟩=n.cell? ⟨c,a,N⟩:=λc a k=>Af _ _ _ _ O2;let ⟨x,c,y,o,p,r,t⟩:=d.c0
 refine⟨⟨x,c,?_,o,p,r,λa q=>?_⟩,?_,?_,λj k=>by rw[An];exact d.f j k⟩
 ·grind
 ·rw[e _ _ (Asg i),e _ _ (Asg i)];exact t a q
 ·rw[e _ _ (Asg h)];exact d.c1
 ·rw[e _ _ (Asg h)];exact d.c2
theorem PS.below(a:PS n w s v m b j)(hb:Below n.heap.size n p):PS p w s v m b j:=by
 let ⟨r,g,h,i,k,o,d⟩:=a.c0
 refine⟨⟨r,g,Bn hb h,i,k,o,λe c=>⟨Bn hb (d e c).1,Bn hb (d e c).2⟩⟩,Bn hb a.c1,Bn hb a.c2,λq l=>?_⟩;rw[AD (hb.block w a.lt)];exact a.f q l
theorem PS.BI(a:PS n w s v m b j){c:Nat}(d:Cv v c=Cv v m):PS n w s v c b j:=⟨by rw[d];exact a.c0,a.c1,a.c2,a.f⟩
theorem PS.turn(g:PS n w s v m b j){i c d:Nat}(p:(Cv v d).length<=c)(q:c<=9223372036854775807)(k:s≠w)(t:T9 n s i (Cv v d)):
 PS (n.setCell ⟨w,0,N⟩ (W (I ⟨s,i,N⟩) (Cv v d).length c)) w s v d b j:=by
 have h:∀e a,(e≠w\/a≠0)->(n.setCell ⟨w,0,N⟩ (W (I ⟨s,i,N⟩) (Cv v d).length c)).cell? ⟨e,a,N⟩=n.cell? ⟨e,a,N⟩:=λe a l=>Af _ _ _ _ O6;obtain⟨y,x,o,-⟩:=g.c0;refine⟨⟨i,c,Am _ _ _ o,p,q,k,λu r=>?_⟩,?_,?_,λa l=>by rw[An];exact g.f a l⟩
 ·rw[h _ _ (Ba k),h _ _ (Ba k)];exact t u r
 ·rw[h _ _ (Aq5 O1)];exact g.c1
 ·rw[h _ _ (Aq5 O1)];exact g.c2
theorem PS.dk(d:PS n w s v m b j)(h:Nat):PS (n.setCell ⟨w,2,N⟩ (V C (h:Int))) w s v m b h:=by
 have g:∀c a,(c≠w\/a≠2)->(n.setCell ⟨w,2,N⟩ (V C h)).cell? ⟨c,a,N⟩=n.cell? ⟨c,a,N⟩:=λc a i=>Af _ _ _ _ O6;let ⟨t,k,u,l,o,e,q⟩:=d.c0
 refine⟨⟨t,k,?_,l,o,e,λr p=>?_⟩,?_,Am _ _ _ d.c2,λa i=>by rw[An];exact d.f a i⟩
 ·grind
 ·rw[g _ _ (Ba e),g _ _ (Ba e)];exact q r p
 ·rw[g _ _ (Aq5 O1)];exact d.c1
theorem PS.fy{gv:X}(c:PS n w s v m gv j)(g:X):PS (n.setCell ⟨w,1,N⟩ g) w s v m g j:=by
 have e:∀b a,(b≠w\/a≠1)->(n.setCell ⟨w,1,N⟩ g).cell? ⟨b,a,N⟩=n.cell? ⟨b,a,N⟩:=λb a h=>Af _ _ _ _ O6;let ⟨r,i,t,k,l,d,p⟩:=c.c0
 refine⟨⟨r,i,?_,k,l,d,λq o=>?_⟩,Am _ _ _ c.c1,?_,λa h=>by rw[An];exact c.f a h⟩
 ·grind
 ·rw[e _ _ (Ba d),e _ _ (Ba d)];exact p q o
 ·rw[e _ _ (Aq5 O1)];exact c.c2
theorem Ga{c:Q}{a:ByteArray}(i:PS c w s a m b j)(t:m<=a.size):
 Av Aa 57 #[J (I ⟨w,0,N⟩)] c λp u=>p=F (T #[S (Bp a m),V C (BP a m:Int)])/\Below c.heap.size c u:=by
 let ⟨K,x,q,D,E,G,k⟩:=i.c0
 obtain⟨M,d,-⟩:=UZ t;have r:0<(Cv a m).length:=by rw[d];simp
 have l:=k 0 r;have h:(Cv a m)[0]=(Bp a m,BP a m):=by simp[d]
 rw[h]at l;let ⟨f,g⟩:=l
 simp[Nat.zero_mul]at f g;clear k d h i;generalize (Cv a m).length=n at*;have H:0<n:=O1;obtain⟨e,o⟩:∃e,e=c.alloc (.cells #[S ⟨#[]⟩,V C 0] 161):=⟨_,rfl⟩;have hb:Below c.heap.size c e:=by rw[o];exact bA
 have B:=Bn hb q;have y:=Bn hb f;have z:=Bn hb g;subst o;go_wp2;refine AV (v:=T #[S (Bp a m),V C (BP a m:Int)]) (by simp[results,Tryz.results57,go_sem]) rfl ?_;exact⟨rfl,bA⟩
theorem I8{g:Q}(a:PS g w s v m b j)(B:m<=v.size):
 Av Aa 58 #[J (I ⟨w,0,N⟩)] g λe q=>e=F (R #[])/\EF w g q/\(Bp v m≠⟨#[]⟩->PS q w s v (BG v m) b j):=by
 have E:=O0 a;let ⟨D,i,u,x,H,z,o⟩:=a.c0
 let ⟨d,l,h⟩:=UZ B
 have k:(Cv v m).length=L d+1:=by rw[l];simp
 have r:O9 (Bp v m≠⟨#[]⟩->PS (g.setCell ⟨w,0,N⟩ (W (I ⟨s,D+2,N⟩) (L d) (i-1))) w s v (BG v m) b j):=by
  intro c;have e:=h c;rw[e];have M:(Cv v (BG v m)).length=L d:=by rw[e]
  refine a.turn O1 O1 z λp K=>?_;have y:p+1<(Cv v m).length:=O1;have Y:=o (p+1) y;grind
 have t:O9 (Bp v m≠⟨#[]⟩->0<L d):=by
  intro c;rw[h c];exact Aq8.2 (Uy _ _)
 have G:=a.f 0 O1;rw[k]at u x;clear o l h a k;generalize (L d)=n at*;have O:1<=n+1:=O1;have U:n+1<=i:=O1;go_enter Tryz.func58,Tryz.ntmps58;go_wp2
 ·refine bE ?_;exact⟨rfl,(EF.refl _ _).set _,λc=>by have:=t.o c;omega⟩
 ·refine bE ?_;exact⟨rfl,(EF.refl _ _).set _,r.o⟩
theorem HM(b c:X)(a:Q):Sem.run Aa (Instr.field 161 (T #[b,c]) 0) a=.ok b a:=O3
theorem OW(c b:X)(a:Q):Sem.run Aa (Instr.field 161 (T #[c,b]) 1) a=.ok b a:=O3
def EU(b:Nat->Addr)(c a:Nat):X:=Z 109 (T #[Z 444 (J (I (b c))),V C 0,V C (a:Int)])
theorem Ou(b:AX)(d:X)(a:Int)(c:Q):Av Aa 27 #[Z b d,V C a] c λe f=>e=F (Z 109 (T #[Z b d,V C 0,V C a]))/\f=c:=by
 go_enter Tryz.func27,Tryz.ntmps27;go_wp2;go_ret;simp
theorem Lq(c:Nat->Addr)(d:Nat)(f:PS n w s v m b j)(g:m<=v.size):
 Av Aa 106 #[J (I ⟨w,0,N⟩),Z 444 (J (I (c d)))] n λa h=>a=F (EU c d (BP v m))/\Below n.heap.size n h:=by
 have e:=O0 (Ga f g);have i:=OW;unfold EU;go_enter Tryz.func106,Tryz.ntmps106;go_wp2_with (first
  |(refine e.o.mono ?_;rintro a l ⟨rfl,k⟩)
  |(refine(Ou _ _ _ _).mono ?_;rintro a p ⟨rfl,rfl⟩))
 go_ret;simp_all
def NZ{e:Type}(d:Nat->Pr e):Prop:=∀c a b,d c=P (a,b)->a≠0
def Skp{d:Type}(c:ByteArray)(b:Nat->Pr d):Prop:=∀a,b (BI c a)=b a
theorem Ci{c:Pr wl}{f:wl->Nat->Pr vq}(a:pb c f=P (w,s)):c=P (w,s)\/∃d b,c=.ok (d,b)/\f d b=P (w,s):=by
 match c,a with
 |.ok (d,b),a=>exact Aq5 ⟨d,b,rfl,a⟩
 |P e,a=>exact Ba (by cases a;rfl)
section
variable {s:ByteArray} {E:Nat->Pr Ex} (hZ:NZ E)
include hZ
end
section
variable {s:ByteArray} {E:Nat->Pr Ex} (hK:Skp s E)
include hK
end
def QO(h:Q)(e:Nat)(g:X)(c:List ByteArray):Prop:=∃a d f,g=W (I ⟨a,d,N⟩) (L c) f/\a≠e/\∀b (i:b<L c),h.cell? ⟨a,d+b,N⟩=I (.string c[b])
def Fz(a:ByteArray):List ByteArray->Nat->Pr Unit
 |[],p=>.ok ((),p)
 |t::r,p=>pb (BS a t p) λ_ b=>Fz a r b
def B5(a:Nat):Nat:=if a=2 then 12 else if a=3 then 13 else if a=5 then 14 else if a=4 then 5 else 4
def H6(h:Pr Unit)(e:Nat)(i:Q)(g:Nat->Addr)(f:Nat->Q->Prop)(b:Ending)(d:Q):Prop:=EF e i d/\match h with
 |.ok (_,q)=>b=F .nilIface/\f q d
 |P (c,a)=>b=F (EU g (B5 c) a)
theorem SE(a:Bp v w=nl):BS v nl w=.ok ((),BG v w):=by unfold BS;rw[if_pos a]
theorem Amk(a:¬Bp v w=nl):BS v nl w=P (2,BP v w):=by unfold BS;rw[if_neg a]
structure Wy (e g:Nat) (c:ByteArray) (h:X) (i:Nat) (d:List ByteArray) (f:Pr Unit) (j wr:Q) (a b:Nat):Prop where
 le:a<=L d
 hq:b<=c.size
 ef:EF e j wr
 ps:(∀t∈d.take a,t≠⟨#[]⟩)->PS wr e g c b h i
 eq:f=Fz c (d.drop a) b
theorem ZX(K:PB n p w f)(k:PS p w s v m b j)(ab:m<=v.size)(al:QO p w i h)(a2:(L h)<=10)(an:∀x (ao:x+1<L h),h[x]≠⟨#[]⟩):
 Av Aa 55 #[J (I ⟨w,0,N⟩),i] p λe z=>H6 (Fz v h m) w p f (λd z=>(∀r∈h,r≠⟨#[]⟩)->PS z w s v d b j) e z:=by
 obtain⟨ax,a3,aw,rfl,ap,U⟩:=al;have af:=O0 U;have ae:=O0 K;have ad:O9 (Wy w s v b j h (Fz v h m) p p 0 m):=⟨Ak _,ab,EF.refl _ _,λ_=>k,rfl⟩;clear U K k ab;generalize Fz v h m=R at*;go_enter Tryz.func55,Tryz.ntmps55;go_wp2;go_loopw [9] (λy wr=>∃(a d:Nat),a<=L h/\y=V C (a:Int)/\O9 (Wy w s v b j h R p wr a d)) (λy _=>L h-(intOf y).toNat)
 case atStart=>grind
 case round=>
  clear ad;obtain⟨a,d,a1,rfl,c⟩:=hrel;rename Q=>wr
  have o:=c.o.hq;by_cases aa:a<L h
  ·have ay:(0:Int)<=(a:Int):=O1;have az:(a:Int)<(L h:Int):=O1;have D:O9 (PS wr w s v d b j):=by
    refine c.o.ps λr g=>?_;obtain⟨x,ao,rfl⟩:=Ari g;grind
   have ak:=Aa7 c.o.ef (af.o a aa) ap;have u:a+1<L h->h[a]≠⟨#[]⟩:=λk=>an a k;have t:O9 (R=pb (BS v h[a] d) λ_ aq=>Fz v (h.drop (a+1)) aq):=by
    show _=_;rw[c.o.eq,A3 aa,Fz]
   have H:O9 (h.take (a+1)=h.take a++[h[a]]):=by show _=_;simp
   obtain⟨tk,ac⟩:∃r,h[a]=r:=⟨_,rfl⟩;rw[ac]at ak t H u;have av:=O0 u;clear ac u;have ah:=O0 (Ga D.o o);have aj:=O0 (ae.o.ef c.o.ef).sy;have au:=HM;go_wp2_with (first
    |(go_at_call 57;refine ah.o.mono ?_;rintro e a5 ⟨rfl,l⟩;have G:=O0 (D.o.below l);have a4:=(aj.o.bE l).sy;have B:=O0 (EF.bG (E:=w) l);clear l)
    |(go_at_call 106;refine(Lq f 12 G.o o).mono ?_;rintro e ar ⟨rfl,am⟩)
    |(go_at_call 58;refine(I8 G.o o).mono ?_;rintro e ar ⟨rfl,M,O⟩;have ag:=O0 M;have ai:=O0 O;clear M O))
   ·rename_i q
    go_ret;refine⟨(c.o.ef.trans B.o).trans (EF.bG am),?_⟩;rw[t.o,Amk (λe=>by rw[e]at q;simp at q),Dj];rfl
   ·rename_i q
    have Y:=MN (by simpa using q);refine⟨⟨a+1,BG v d,O1,by go_num,?_⟩,by simp[intOf];omega⟩;refine⟨O1,Dq o,(c.o.ef.trans B.o).trans ag.o,λg=>?_,?_⟩
    ·exact ai.o (by rw[Y];exact g tk (by rw[H.o];simp))
    ·rw[t.o,SE Y,BB]
  ·obtain rfl:a=L h:=O1;have a0:¬(L h:Int)<(L h:Int):=O1;go_wp2;go_ret;refine⟨c.o.ef,?_⟩;rw[c.o.eq,At0];exact⟨rfl,λg=>c.o.ps (by rw[AQ];exact g)⟩
def GB(a:Nat)(c:List UInt8):Nat:=c.foldl (λa b=>10*a+(b.toNat-48)) a
theorem YW(a:Nat):GB a []=a:=rfl
theorem Qg(b:Nat)(a:UInt8)(c:List UInt8):GB b (a::c)=GB (10*b+(a.toNat-48)) c:=by unfold GB;rw[List.foldl_cons]
def Fh(b:List UInt8):Bool:=b.all λa=>D0 a.toNat
theorem Xe(b:List UInt8):∀a,a*10 ^ (L b)<=GB a b:=by
 induction b with
 |nil=>intro a;rw[YW];simp
 |cons c r ih=>
  intro a;rw[Qg,AM,At5];grind
theorem Agy(b:List UInt8):∀a,a<=GB a b:=by
 intro a;have d:=Xe b a;have c:1<=10 ^ (L b):=Nat.pos_of_ne_zero O2;have:=Nat.mul_le_mul_left a c;omega
theorem W7(b:List UInt8):∀a,a<=18446744073709551615->Fh b=true->Lib.parseUintM 18446744073709551615 a b=if GB a b<=18446744073709551615 then .ok (GB a b) else .range:=by
 induction b with
 |nil=>intro a f _;rw[Lib.parseUintM,YW,if_pos f]
 |cons c r ih=>
  intro a f d;simp only[Fh,Atv,Aqx]at d;have h:48<=c.toNat/\c.toNat<=57:=by
   have:=d.1;simp[D0,decide_eq_true_eq]at this;omega
  rw[Lib.parseUintM,if_pos h,Qg];have i:=Agy r (10*a+(c.toNat-48));by_cases g:1844674407370955162<=a
  ·grind
  ·rw[if_neg g];by_cases e:18446744073709551615<a*10+(c.toNat-48)
   ·rw[if_pos e,if_neg O1]
   ·rw[if_neg e,Nat.mul_comm a 10];exact ih _ O1 d.2
theorem TY(b:ByteArray):∀e a c,b.size-a<=e->Ix b a c=if Fh (b.data.toList.drop a)=true then I (GB c (b.data.toList.drop a)) else N
 |0,a,c,hk=>by
  rw[T6 O1,Asr O5];rfl
 |e+1,a,c,hk=>by
  by_cases d:a<b.size
  ·have f:b.data.toList.drop a=b[a]::b.data.toList.drop (a+1):=by
    rw[A3 (by simpa using d)];rfl
   rw[f];cases hd:D0 b[a].toNat with
   |true=>
    rw[Akq d hd,TY b e (a+1) _ O1];rw[Qg];simp[Fh,hd]
   |false=>
    rw[Alv d hd];simp[Fh,hd]
  ·rw[T6 O1,Asr O5];rfl
def GR(a:ByteArray):Bool:=decide (0<a.size) && !(FN a && decide (1<a.size)) && Fh a.data.toList
def PO:ByteArray:=⟨#[45,48]⟩
theorem Ahe(a:FN v=true)(b:v.size=1):v=⟨#[48]⟩:=by
 unfold FN at a;rw[getElem?_pos v 0 O1]at a;simp[decide_eq_true_eq]at a;apply Asa;apply Array.ext
 ·exact b
 ·intro d e f;have c:d=0:=by
   grind
  subst c;have:v[0]=48:=At2.1 (by rw[a];rfl);exact this
theorem All(d:0<v.size)(b:Fh v.data.toList=true):Lib.parseIntB 64 v.data.toList=if GB 0 v.data.toList<9223372036854775808 then .ok (GB 0 v.data.toList:Int) else .range:=by
 have f:0<L v.data.toList:=by simpa using d
 match hs:v.data.toList with
 |[]=>grind
 |a::r=>
  have c:D0 a.toNat=true:=by
   rw[hs]at b;simp[Fh]at b;exact b.1
  have e:48<=a.toNat/\a.toNat<=57:=by
   simp[D0,decide_eq_true_eq]at c;exact c
  unfold Lib.parseIntB;rw[hs]at b;simp[Lib.parseUintB];rw[if_neg (show ¬(a.toNat=43\/a.toNat=45) by omega),if_neg nofun];have:=W7 (a::r) 0 O1 b;grind
theorem Aer(d:v.data.toList=45::K)(c:K≠[])(a:Fh K=true):Lib.parseIntB 64 v.data.toList=if GB 0 K<=9223372036854775808 then .ok (-(GB 0 K:Int)) else .range:=by
 unfold Lib.parseIntB;simp only[Lib.parseUintB];have b:(45:UInt8).toNat=45:=rfl;have:=W7 K 0 O1 a;grind
theorem Amx(b:Hy v=false):∀c,v.data.toList≠45::c:=by
 intro c a;have f:0<v.size:=by
  have:0<L v.data.toList:=by rw[a];simp
  simpa using this
 unfold Hy at b;rw[getElem?_pos v 0 f]at b;simp[decide_eq_false_iff_not]at b;apply b;have d:v.data.toList[0]'(by rw[a];simp)=45:=by simp[a]
 have e:v[0]=v.data.toList[0]'(by rw[a];simp):=rfl;rw[e,d];rfl
theorem S0(a:Hy v=true):v.data.toList=45::(v.extract 1 v.size).data.toList:=by
 unfold Hy at a;by_cases b:0<v.size
 ·rw[getElem?_pos v 0 b]at a;simp[decide_eq_true_eq]at a;have e:v[0]=45:=At2.1 (by rw[a];rfl);have d:0<L v.data.toList:=by simpa using b
  have c:v.data.toList=v[0]::v.data.toList.drop 1:=by
   have:=A3 d;exact this
  rw[ByteArray.data_extract,Array.toList_extract];conv=>lhs;rw[c]
  congr 1
  rw[List.extract_eq_take_drop];rw[Arv];simp
 grind
theorem Ao1(a:ByteArray):(⟨(Lib.trimPrefix a.data.toList [45]).toArray⟩:ByteArray)=Ck a:=by
 unfold Lib.trimPrefix Lib.hasPrefix Ck;cases h:Hy a with
 |true=>
  have d:=S0 h;have b:List.isPrefixOf [45] a.data.toList=true:=by grind
  rw[if_pos b,if_pos rfl];have e:a.data.toList.drop ([45]:List UInt8).length=(a.extract 1 a.size).data.toList:=by rw[d];rfl
  rw[e]
 |false=>
  have f:=Amx h;have b:List.isPrefixOf [45] a.data.toList=false:=by
   match hs:a.data.toList with
   |[]=>rfl
   |c::r=>
    grind
  simp_all
theorem Aqm:Hy ⟨#[48]⟩=false:=rfl
theorem Ab7:Ck ⟨#[48]⟩=⟨#[48]⟩:=rfl
theorem Sy(a:ByteArray):Ix a 0 0=if Fh a.data.toList=true then I (GB 0 a.data.toList) else none:=by
 rw[TY a _ 0 0 .refl,List.drop_zero]
theorem TO(a:GR (Ck v)=false\/v=PO):D7 v=none:=by
 rcases a with a|rfl
 ·unfold D7;by_cases c:(Ck v).size=0\/(FN (Ck v)=true/\¬v=⟨#[48]⟩)\/19<(Ck v).size
  ·rw[if_pos c]
  ·rw[if_neg c];have b:Fh (Ck v).data.toList=false:=by
    cases b:Fh (Ck v).data.toList with
    |false=>rfl
    |true=>
     have d:0<(Ck v).size:=O1;unfold GR at a;rw[b]at a;simp only[d,decide_true,Bool.true_and,Bool.and_true,Bool.not_eq_false',Aqx,decide_eq_true_eq]at a;by_cases e:v=⟨#[48]⟩
     ·rw[e,Ab7]at a;exact absurd a.2 nofun
     grind
   rw[Sy,if_neg (by simp[b])]
 rfl
theorem Aqn:(10:Nat) ^ 19=10000000000000000000:=rfl
theorem Xh(d:Fh v.data.toList=true)(a:FN v=false)(e:19<v.size):10000000000000000000<=GB 0 v.data.toList:=by
 have g:19<L v.data.toList:=by simpa using e
 match hs:v.data.toList with
 |[]=>grind
 |c::r=>
  have f:v[0]'(by omega)=c:=by
   have b:v.data.toList[0]'(by omega)=c:=by simp[hs]
   exact b
  unfold FN at a;rw[getElem?_pos v 0 O1,f]at a;simp[decide_eq_false_iff_not]at a;have j:48<=c.toNat/\c.toNat<=57:=by
   rw[hs]at d;simp[Fh,D0,decide_eq_true_eq]at d;omega
  rw[hs,AM]at g;rw[Qg];have h:=Xe r (10*0+(c.toNat-48));have b:10 ^ 19<=10 ^ (L r):=Nat.pow_le_pow_right O1 O1;have i:1*10 ^ (L r)<=(10*0+(c.toNat-48))*10 ^ (L r):=Art _ O1;omega
theorem Ago{a:ByteArray}(e:GR (Ck a)=true)(l:a≠PO):Lib.parseIntB 64 a.data.toList=match D7 a with|some v=>.ok v|none=>.range:=by
 unfold GR at e;simp only[Aqx,decide_eq_true_eq,Bool.not_eq_true',Ate,decide_eq_false_iff_not]at e;let ⟨⟨i,n⟩,c⟩:=e
 have k:¬(FN (Ck a)=true/\¬a=⟨#[48]⟩):=by
  rintro⟨p,t⟩;have q:(Ck a).size=1:=by
   grind
  have r:=Ahe p q;cases hn:Hy a with
  |true=>
   apply l;have d:=S0 hn;have b:Ck a=a.extract 1 a.size:=by unfold Ck;rw[if_pos hn]
   rw[<-b,r]at d;apply Asa;apply Array.toList_inj.1;rw[d];rfl
  |false=>
   have b:Ck a=a:=by unfold Ck;grind
   grind
 cases hn:Hy a with
 |true=>
  have d:=S0 hn;have b:Ck a=a.extract 1 a.size:=by unfold Ck;rw[if_pos hn]
  rw[<-b]at d;have m:(Ck a).data.toList≠[]:=by
   intro j;have:(Ck a).data.toList.length=0:=by rw[j];rfl
   have s:(Ck a).data.toList.length=(Ck a).size:=rfl;omega
  rw[Aer d m c];unfold D7;by_cases f:19<(Ck a).size
  ·have h:FN (Ck a)=false:=by grind
   have:=Xh c h f;grind
  ·have g:¬((Ck a).size=0\/(FN (Ck a)=true/\¬a=⟨#[48]⟩)\/19<(Ck a).size):=λo=>by
    grind
   rw[if_neg g,Sy,if_pos c];grind
 |false=>
  have b:Ck a=a:=by unfold Ck;grind
  rw[b]at i c n k;rw[All i c];unfold D7;rw[b];by_cases f:19<a.size
  ·have h:FN a=false:=by grind
   have:=Xh c h f;grind
  ·have g:¬(a.size=0\/(FN a=true/\¬a=⟨#[48]⟩)\/19<a.size):=λo=>by
    grind
   rw[if_neg g,Sy,if_pos c];grind
theorem GL(a:w3=v1):Ending.returned (A w3)=F (A v1):=by rw[a]
theorem Ab1(a:FN v=true)(b:1<v.size):GR v=false:=by unfold GR;simp[a,b]
theorem PH(b c:ByteArray):decide (b=c)=(b.toList==c.toList):=by
 by_cases a:b=c
 ·subst a;simp
 ·rw[decide_eq_false a];symm;rw[beq_eq_false_iff_ne];exact λd=>a (MN d)
def JU(a:ByteArray)(b:Nat):Bool:=Fh (a.data.toList.drop b)
theorem Ab6(a:w<v.size):JU v w=(D0 v[w].toNat && JU v (w+1)):=by
 unfold JU Fh;rw[A3 (by simpa using a),Atv];rfl
theorem Aew(a:ByteArray):JU a a.size=true:=by
 unfold JU;rw[Asr O2];rfl
theorem Ap9(a:ByteArray)(l:Q)(B:a.size<=2000):Av Aa 252 #[S a] l λj u=>j=F (A (GR a))/\u=l:=by
 by_cases m:a.size=0
 ·obtain rfl:a=⟨#[]⟩:=Asa (Asd m);go_enter Tryz.func252,Tryz.ntmps252;go_wp2;all_goals
   go_ret;exact⟨GL rfl,rfl⟩
 ·have z:0<a.size:=O1;have v:(a.toList==([]:List UInt8))=false:=by
   rw[beq_eq_false_iff_ne];intro j;have n:(L a.toList)=a.size:=by rw[Aq0];simp
   grind
  have k:FN a=decide (a[0].toNat=48):=by unfold FN;grind
  have E:(0:Int)<(a.size:Int):=O1;by_cases g:FN a=true/\1<a.size
  ·have c:=O0 (Ab1 g.1 g.2);have f:((a[0].toNat:Int)==48)=true:=by
    grind
   have G:(1:Int)<(a.size:Int):=O1;clear k g;go_enter Tryz.func252,Tryz.ntmps252;go_wp2;all_goals
    go_ret;exact⟨GL c.o.symm,rfl⟩
  ·have c:O9 (GR a=JU a 0):=by
    show _=_;unfold GR JU;grind
   have p:¬a[0].toNat=48\/a.size=1:=by
    grind
   clear k g;have f:((a[0].toNat:Int)==48)=false\/((a[0].toNat:Int)==48)=true/\a.size=1:=by
    grind
   clear p;rcases f with f|⟨f,D⟩;all_goals
    go_enter Tryz.func252,Tryz.ntmps252;go_wp2;go_loop [18] (λi=>∃b:Nat,b<=a.size/\i=V C b/\O9 (JU a 0=JU a b)) (λi=>a.size-(intOf i).toNat)
    case atStart=>exact⟨0,Ak _,rfl,rfl⟩
    case round=>
     obtain⟨b,y,rfl,d⟩:=hrel;by_cases r:b<a.size
     ·have n:(0:Int)<=(b:Int):=O1;have w:(b:Int)<(a.size:Int):=O1;have h:=O0 (Ab6 r);cases hd:D0 a[b].toNat with
      |true=>
       have q:48<=a[b].toNat/\a[b].toNat<=57:=by simp only[D0,Aqx,decide_eq_true_eq]at hd;exact hd
       have s:¬(a[b].toNat:Int)<48:=O1;have t:¬(57:Int)<(a[b].toNat:Int):=O1;have e:=O0 hd;clear hd;go_wp2;exact⟨⟨b+1,O1,by go_num,by show _=_;rw[d.o,h.o,e.o];rfl⟩,by simp[intOf];omega⟩
      |false=>
       have q:a[b].toNat<48\/57<a[b].toNat:=by
        simp only[D0,Ate,decide_eq_false_iff_not]at hd;omega
       have e:=O0 hd;clear hd;by_cases s:(a[b].toNat:Int)<48
       ·go_wp2;all_goals
         go_ret;exact⟨GL (by rw[c.o,d.o,h.o,e.o];rfl),rfl⟩
       ·have t:(57:Int)<(a[b].toNat:Int):=O1;go_wp2;all_goals
         go_ret;exact⟨GL (by rw[c.o,d.o,h.o,e.o];rfl),rfl⟩
     ·obtain rfl:b=a.size:=O1;have x:¬(a.size:Int)<(a.size:Int):=O1;go_wp2;go_ret;exact⟨GL (by rw[c.o,d.o,Aew]),rfl⟩
theorem Aci(a:ByteArray):Me a 0=((a.toList==[109,111,100,117,108,101])||((a.toList==[105,109,112,111,114,116])||((a.toList==[100,101,102])||((a.toList==[108,101,116])||((a.toList==[108,101,116,114,101,99])||((a.toList==[99,111,110])||(a.toList==[99,97,115,101]))))))):=by
 unfold Me VE;simp only[List.drop_zero,List.any_cons,List.any_nil,PH,Bool.or_false,Aq0]
theorem TM(a:ByteArray)(b:Q):Av Aa 162 #[S a] b λc d=>c=F (A (Me a 0))/\d=b:=by
 go_enter Tryz.func162,Tryz.ntmps162;go_wp2;all_goals
  go_ret;refine⟨GL ?_,rfl⟩;rw[(O0 (Aci a)).o];simp_all
def Pz(b:ByteArray):X:=match I2 b with|some a=>R #[V C (9+(a:Int)),A true]|none=>R #[V C 0,A false]
theorem Ajl(a:ByteArray):Pz a=if (a.toList==[43])=true then R #[V C 9,A true] else if (a.toList==[45])=true then R #[V C 10,A true] else if (a.toList==[42])=true then R #[V C 11,A true] else if (a.toList==[47])=true then R #[V C 12,A true] else if (a.toList==[61])=true then R #[V C 13,A true] else if (a.toList==[60])=true then R #[V C 14,A true] else R #[V C 0,A false]:=by
 unfold Pz I2 Oc;simp only[List.findIdx?_cons,List.findIdx?_nil,PH,Aq0];grind
theorem Aqo(a:b=i):Ending.returned b=F i:=by rw[a]
theorem Afm(a:ByteArray)(b:Q):Av Aa 269 #[S a] b λc d=>c=F (Pz a)/\d=b:=by
 go_wp2;all_goals
  go_ret2
  rw[(O0 (Ajl a)).o];simp_all
theorem Wm(a:List UInt8)(c:UInt8):decide (0<=Lib.indexByte a c)=a.any λb=>b==c:=by
 induction a with
 |nil=>rfl
 |cons b r ih=>
  rw[Lib.indexByte,List.any_cons];grind
theorem Vu(b:ByteArray):∀c a,b.size-a<=c->0<a->I9 b a=(b.data.toList.drop a).all λd=>IX d.toNat||D0 d.toNat
 |0,a,hn,hk=>by
  rw[Xt O1,Asr O5];rfl
 |c+1,a,hn,hk=>by
  by_cases e:a<b.size
  ·have f:a<L b.data.toList:=by simpa using e
   rw[Ox e,Vu b c (a+1) O1 O1,A3 f,Atv];have:decide (a≠0)=true:=decide_eq_true O1;rw[this,Bool.true_and];rfl
  ·rw[Xt O1,Asr O5];rfl
theorem Q1(a:UInt8):ID (a.toNat:Int)=IX a.toNat:=by
 unfold ID IX;grind
theorem Ae0(a:UInt8):Ly (a.toNat:Int)=D0 a.toNat:=by
 unfold Ly D0;grind
theorem Yj(a:ByteArray):(Cx a && decide (a.size<=10) && !(a.data.toList.any λd=>d==35) && !Me a 0)=CE a:=by
 unfold CE;by_cases b:0<a.size
 ·by_cases h:a.size<=10
  ·rw[UQ a b O1,decide_eq_true b,decide_eq_true h,Bool.and_true,Bool.and_true,Bool.and_true];have k:(ID a[0].toNat && E6 a.data.toList && !(a.data.toList.any λd=>d==35))=I9 a 0:=by
    have l:0<L a.data.toList:=by simpa using b
    have e:a.data.toList=a[0]::a.data.toList.drop 1:=by
     have:=A3 l;exact this
    rw[Ox b,Vu a _ 1 .refl .refl];simp only[ne_eq,not_true_eq_false,decide_false,Bool.false_and,Bool.or_false];conv=>lhs;rw[e]
    rw[Q1];cases hlow:IX a[0].toNat with
    |false=>rfl
    |true=>
     have j:(a[0]==35)=false:=by
      rw[beq_eq_false_iff_ne];intro f;rw[f]at hlow;exact absurd hlow nofun
     unfold E6;rw[Atv,List.any_cons,j,Bool.false_or,Bool.true_and];have m:F0 a[0].toNat=true:=by unfold F0;rw[Q1,hlow];rfl
     rw[m,Bool.true_and,Bool.true_and];generalize a.data.toList.drop 1=r;induction r with
     |nil=>rfl
     |cons c q ih=>
      rw[Atv,List.any_cons,Atv,<-ih];have n:F0 c.toNat=(IX c.toNat||D0 c.toNat||(c==35)):=by
       unfold F0;rw[Q1,Ae0];congr 1
       rw[Asu,beq_iff_eq,beq_iff_eq];constructor
       ·intro o;exact At2.1 O6
       simp_all
      rw[n];cases hc35:c==35 with
      |false=>grind
      |true=>
       have:=eq_of_beq hc35;subst this;have g:IX (35:UInt8).toNat=false:=rfl;have i:D0 (35:UInt8).toNat=false:=rfl;rw[g,i];simp
   rw[<-k]
  grind
 ·rw[decide_eq_false b,YZ a O1];simp
theorem MQ(a:ByteArray)(d:Q)(l:a.size<=2000):Av Aa 107 #[S a] d λb c=>b=F (A (CE a))/\c=d:=by
 have h:O9 (CE a=(Cx a && decide (a.size<=10) && !(a.data.toList.any λe=>e==35) && !Me a 0)):=(Yj a).symm;have g:O9 (∀d,Av Aa 73 #[S a,S ⟨#[35]⟩] d λb c=>b=F (A (a.data.toList.any λe=>e==35))/\c=d):=by
  intro d;have i:=Any.strings_Contains_one Tryz.dE a 35 d;rw[Wm]at i;exact i
 generalize hx:(a.data.toList.any λe=>e==35)=x at*;clear hx;generalize hv:CE a=v at*;clear hv;by_cases j:a.size<=10
 ·have k:(a.size:Int)<=10:=O1;have f:=decide_eq_true j;go_enter Tryz.func107,Tryz.ntmps107;go_wp2_with (first
   |(go_at_call 79;refine(J6 _ _ O8).mono ?_;rintro b c ⟨rfl,rfl⟩)
   |(go_at_call 73;refine(g.o _).mono ?_;rintro b c ⟨rfl,rfl⟩)
   |(go_at_call 162;refine(TM _ _).mono ?_;rintro b c ⟨rfl,rfl⟩))
  all_goals
   go_ret;refine⟨GL ?_,rfl⟩;rw[h.o,f];simp_all
 ·have k:¬(a.size:Int)<=10:=O1;have f:=decide_eq_false j;go_enter Tryz.func107,Tryz.ntmps107;go_wp2_with (first
   |(go_at_call 79;refine(J6 _ _ O8).mono ?_;rintro b c ⟨rfl,rfl⟩)
   |(go_at_call 73;refine(g.o _).mono ?_;rintro b c ⟨rfl,rfl⟩)
   |(go_at_call 162;refine(TM _ _).mono ?_;rintro b c ⟨rfl,rfl⟩))
  all_goals
   go_ret;refine⟨GL ?_,rfl⟩;rw[h.o,f];simp_all
def Hs(b:Option Int)(d:Q)(e:Ending)(f:Q):Prop:=Below d.heap.size d f/\∃a:Int,e=F (R #[V C a,A b.isSome])/\∀c,b=I c->a=c
theorem Hs.none{w':Q}(hb:Below n.heap.size n w')(b:w3=false):Hs N n (F (R #[V C o,A w3])) w':=⟨hb,o,by rw[b];rfl,λc a=>by cases a⟩
theorem Hs.some{w':Q}(hb:Below n.heap.size n w')(b:w3=true):Hs (I o) n (F (R #[V C o,A w3])) w':=⟨hb,o,by rw[b];rfl,λc a=>by cases a;rfl⟩
theorem Amm(b:p=n\/∃a,p=Lib.bytesWorld n wj a):Below n.heap.size n p:=by
 rcases b with rfl|⟨a,rfl⟩
 ·exact Ae _ _
 ·exact Joins.below_bytesWorld _ n wj a .refl
theorem PF(a:ByteArray)(z:a.size<=2000)(k:SY n f):Av Aa 221 #[S a] n λb c=>Hs (D7 a) n b c:=by
 have m:O9 (∀n,Av Aa 253 #[S a,S ⟨#[45]⟩] n λb c=>b=F (S (Ck a))/\c=n):=by
  intro n;have d:=Any.strings_TrimPrefix Tryz.eK a ⟨#[45]⟩ n;rw[Ao1]at d;exact d
 have x:(Ck a).size<=2000:=by
  unfold Ck;split
  ·rw[Arw];omega
  exact z
 have j:=O0 (λn=>Ap9 (Ck a) n x);have B:PO.toList=[45,48]:=by rw[Aq0];rfl
 by_cases hb:GR (Ck a)=false\/a=PO
 ·have u:=O0 (TO hb);have y:GR (Ck a)=false\/(a.toList==[45,48])=true:=by
   grind
  clear hb k;rw[u.o];generalize GR (Ck a)=nb at*;rcases y with d|d;all_goals
   go_enter Tryz.func221,Tryz.ntmps221;go_wp2_with (first
    |(go_at_call 253;refine(m.o _).mono ?_;rintro b c ⟨rfl,rfl⟩)
    |(go_at_call 252;refine(j.o _).mono ?_;rintro b c ⟨rfl,rfl⟩))
   all_goals
    go_ret2
    exact Hs.none (Ae _ _) rfl
 ·have r:GR (Ck a)=true:=by grind
  have q:=λd=>hb (Aq5 d);have e:=Ago r q;have E:(a.toList==[45,48])=false:=by
   rw[beq_eq_false_iff_ne];intro b;exact q (MN (by rw[b,B]))
  rw[r]at j;clear hb r q;cases hw:D7 a with
  |some v=>
   rw[hw]at e;have l:=O0 (λn=>Any.strconv_ParseInt_10_at64_ok Tryz.dO a O1 v e n);clear e hw k;go_enter Tryz.func221,Tryz.ntmps221;go_wp2_with (first
    |(go_at_call 253;refine(m.o _).mono ?_;rintro b c ⟨rfl,rfl⟩)
    |(go_at_call 252;refine(j.o _).mono ?_;rintro b c ⟨rfl,rfl⟩)
    |(go_at_call 254;refine(l.o _).mono ?_;rintro b i ⟨rfl,h⟩;have g:=O0 (Amm h);clear h))
   go_quiet (fail);go_wp2;have p:=below_drewN (Ae i.heap.size i) nq;go_ret2
   exact Hs.some (g.o.trans (p.mono g.o.size)) rfl
  |none=>
   rw[hw]at e;obtain⟨w,s,t⟩:=k.er;have l:=O0 (λn s=>Any.strconv_ParseInt_10_at64_range Tryz.dO a O1 e w n s t);clear e hw k t;go_enter Tryz.func221,Tryz.ntmps221;go_wp2_with (first
    |(go_at_call 253;refine(m.o _).mono ?_;rintro b c ⟨rfl,rfl⟩)
    |(go_at_call 252;refine(j.o _).mono ?_;rintro b c ⟨rfl,rfl⟩)
    |(go_at_call 254;refine(l.o _ s).mono ?_;rintro b i ⟨D,rfl,-,-,h⟩;have g:=O0 h;clear h))
   go_quiet (fail);go_wp2;have p:=below_drewN (Ae i.heap.size i) nq;go_ret2
   exact Hs.none (g.o.trans (p.mono g.o.size)) rfl
def KL(b:ByteArray)(a:Nat):Option Int:=match D7 b with|some v=>if 0<=v/\v<=(a:Int) then I v else N|none=>N
theorem XN(d:ByteArray)(h:Nat)(s:d.size<=2000)(m:SY n f):Av Aa 219 #[S d,V C (h:Int)] n λj t=>Hs (KL d h) n j t:=by
 have e:=O0 (PF d s m);have i:O9 (KL d h=match D7 d with|some v=>if 0<=v/\v<=h then I v else N|none=>N):=rfl;clear m;cases hw:D7 d with
 |none=>
  rw[hw]at e i;rw[i.o];clear hw;go_enter Tryz.func219,Tryz.ntmps219;go_wp2_with (first
   |(go_at_call 221;refine e.o.mono ?_;rintro j l ⟨a,k,rfl,-⟩;have c:=O0 a;clear a;simp only[As1]))
  go_ret2
  exact Hs.none c.o rfl
 |some v=>
  rw[hw]at e i;clear hw;by_cases g:0<=v/\v<=h
  ·rw[i.o];simp only[g,and_self,if_true];let ⟨p,r⟩:=g
   go_enter Tryz.func219,Tryz.ntmps219;go_wp2_with (first
    |(go_at_call 221;refine e.o.mono ?_;rintro j l ⟨a,k,rfl,b⟩;obtain rfl:=b v rfl;have c:=O0 a;clear a b;simp only[As0]))
   go_ret2
   exact Hs.some c.o rfl
  ·rw[i.o];simp only[g,if_false];by_cases p:0<=v
   ·have r:¬v<=h:=λq=>g ⟨p,q⟩;clear g;go_enter Tryz.func219,Tryz.ntmps219;go_wp2_with (first
     |(go_at_call 221;refine e.o.mono ?_;rintro j l ⟨a,k,rfl,b⟩;obtain rfl:=b v rfl;have c:=O0 a;clear a b;simp only[As0]))
    go_ret2
    exact Hs.none c.o rfl
   ·clear g;go_enter Tryz.func219,Tryz.ntmps219;go_wp2_with (first
     |(go_at_call 221;refine e.o.mono ?_;rintro j l ⟨a,k,rfl,b⟩;obtain rfl:=b v rfl;have c:=O0 a;clear a b;simp))
    go_ret2
    exact Hs.none c.o rfl
def EA{f:Type}(l:Pr f)(g:Nat)(m:Q)(j:Nat->Addr)(i:X)(h:f->Nat->X->Q->Prop)(b:Ending)(e:Q):Prop:=EF g m e/\match l with
 |.ok (a,q)=>∃d,b=F (R #[d,.nilIface])/\h a q d e
 |P (c,k)=>b=F (R #[i,EU j (B5 c) k])
theorem EA.ok{d:Pr wl}{a:wl->Nat->X->Q->Prop}{c:wl}(g:d=.ok (c,s))(e:EF w n p)(h:a c s i p):EA d w n f b a (F (R #[i,.nilIface])) p:=⟨e,by grind⟩
theorem EA.bad{a:Pr wl}{c:wl->Nat->X->Q->Prop}(d:a=P (s,m))(e:EF w n p)(g:i=EU f (B5 s) m):EA a w n f b c (F (R #[b,i])) p:=⟨e,by rw[d,g]⟩
theorem QY(a:w<=v.size)(b:v.size<=2000):(Bp v w).size<=2000:=by rw[L7 a];have:=Dq a;omega
theorem Amr(b:ByteArray)(c a:Nat):Es b c a=match KL (Bp b a) c with|some v=>.ok ((v.toNat,BP b a),BG b a)|none=>P (2,BP b a):=by
 unfold Es KL;grind
theorem Aj7(a:KL v w=I o):v≠⟨#[]⟩/\0<=o/\o<=(w:Int):=by
 refine⟨λb=>?_,?_⟩
 ·unfold KL at a;rw[b,Og]at a;cases a
 ·unfold KL at a;grind
theorem RB(e:Nat)(ac:v.size<=2000)(D:PB n p w f)(t:PS p w s v m b j)(k:m<=v.size):
 Av Aa 166 #[J (I ⟨w,0,N⟩),V C (e:Int)] p λc x=>EA (Es v e m) w p f (V C 0) (λah U u x=>u=V C (ah.1:Int)/\U<=v.size/\PS x w s v U b j) c x:=by
 have y:=O0 (Ga t k);have l:=O0 (Amr v e m);have z:=O0 t;have q:=O0 D.sy;have O:=QY k ac;have ai:=HM;clear t D;cases hu:KL (Bp v m) e with
 |none=>
  rw[hu]at l;have r:=O0 hu;clear hu;go_enter Tryz.func166,Tryz.ntmps166;go_wp2_with (first
   |(go_at_call 57;refine y.o.mono ?_;rintro c ae ⟨rfl,d⟩;have h:=O0 (XN (Bp v m) e O (q.o.bE d));have g:=O0 d;clear d;rw[r.o]at h)
   |(go_at_call 219;refine h.o.mono ?_;rintro c af ⟨i,ad,rfl,-⟩;have a:=O0 (g.o.trans (i.mono g.o.size));clear i;have aj:=(q.o.bE a.o).sy;simp)
   |(go_at_call 106;refine(Lq f 12 (z.o.below a.o) k).mono ?_;rintro c ag ⟨rfl,H⟩;have Y:=O0 (a.o.trans (H.mono a.o.size));clear H))
  go_ret2
  exact EA.bad l.o (EF.bG Y.o) rfl
 |some u=>
  rw[hu]at l;have M:=Aj7 hu;have r:=O0 hu;have B:=O0 M;clear hu M;go_enter Tryz.func166,Tryz.ntmps166;go_wp2_with (first
   |(go_at_call 57;refine y.o.mono ?_;rintro c ae ⟨rfl,d⟩;have h:=O0 (XN (Bp v m) e O (q.o.bE d));have g:=O0 d;clear d;rw[r.o]at h)
   |(go_at_call 219;refine h.o.mono ?_;rintro c af ⟨i,ad,rfl,K⟩;obtain rfl:=K u rfl;have a:=O0 (g.o.trans (i.mono g.o.size));clear i K;simp)
   |(go_at_call 58;refine(I8 (z.o.below a.o) k).mono ?_;rintro c ag ⟨rfl,E,G⟩;have aa:=O0 ((EF.bG a.o).trans E);have ab:=O0 G;clear E G))
  go_ret2
  exact EA.ok l.o aa.o ⟨by simp only;rw[Int.toNat_of_nonneg B.o.2.1];rfl,Dq k,ab.o B.o.1⟩
def CI(e:Q)(h:X)(b:Bm):Prop:=∃f g,h=W f (L b) g/\(b≠[]->∃c d,f=I ⟨c,d,N⟩/\c<e.heap.size/\∀a (i:a<L b),e.cell? ⟨c,d+a*2,N⟩=I (.string b[a].1)/\e.cell? ⟨c,d+a*2+1,N⟩=I (V C (b[a].2:Int)))
variable{g:Bm}
theorem CI.bE{w:Q}(f:CI w b g)(hb:Below w.heap.size w n):CI n b g:=by
 obtain⟨l,d,rfl,h⟩:=f;refine⟨l,d,rfl,λk=>?_⟩;obtain⟨e,o,rfl,j,c⟩:=h k;exact⟨e,o,rfl,Aj j hb.size,λi a=>⟨Bn hb (c i a).1,Bn hb (c i a).2⟩⟩
theorem Aqq(b c:X)(a:Q):Sem.run Aa (Instr.field 117 (T #[b,c]) 0) a=.ok b a:=O3
theorem Ane(c b:ByteArray)(g:Int)(d:Nat)(a:Q)(f:a.cell? ⟨d,0,N⟩=I (S b)):Av Aa 164 #[T #[S c,V C g],J (I ⟨d,0,N⟩)] a λe i=>e=F (A (decide (c=b)))/\Below a.heap.size a i:=by
 have j:=λh=>Bn ((Ae a.heap.size a).alloc .refl h) f;go_wp2;go_ret;exact⟨GL (O0 (PH c b)).o.symm,bA⟩
def Akm(a:ByteArray×Nat):List X:=[S a.1,V C (a.2:Int)]
theorem Aoj(b:Bm)(m:X)(f:ByteArray)(d:Nat)(c:Q)(D:(L b)<=100000)(s:CI c m b)(y:c.cell? ⟨d,0,N⟩=I (S f)):
 Av Aa 163 #[m,.func (.func 164) #[] #[J (I ⟨d,0,N⟩)]] c λi n=>i=F (A (CK f (b.map (·.1)) 0))/\Below c.heap.size c n:=by
 obtain⟨E,p,rfl,k⟩:=s;by_cases j:b=[]
 ·subst j;clear k;go_enter Tryz.func163,Tryz.ntmps163;go_wp2_with (go_in)
  go_loop [8] (λe=>e=V C 0) (λ_=>0)
  case atStart=>rfl
  case round=>
   obtain rfl:=hrel;go_wp2;go_ret;exact⟨GL rfl,Ae _ _⟩
 ·obtain⟨r,B,rfl,v,z⟩:=k j;have x:=AnyQ.slices_ContainsFunc Tryz.eP 2 (by intro c;rfl) (by intro c;rfl) Akm (λ_=>rfl) (λg=>decide (g.1=f)) 164 #[J (I ⟨d,0,N⟩)] O2 r B (L b) p b c (λo g hb=>by
   have:=Ane g.1 f g.2 d o (Bn hb y);exact this.mono λ_ _ ⟨t,u⟩=>⟨t,hb.trans (u.mono hb.size)⟩) .refl O1 v (by
   intro h w e G a;have l:=z h w;have q:b[h]! =b[h]:=by grind
   rw[q]at a;match e,a with
   |0,a=>cases a;exact l.1
   |1,a=>cases a;exact l.2
   |e+2,a=>cases a)
  refine x.mono ?_;rintro i n ⟨rfl,hb⟩;refine⟨GL ?_,hb⟩;unfold CK;grind
theorem MW(b:Bm)(g:X)(c:ByteArray)(a:Q)(l:(L b)<=100000)(f:CI a g b):
 Av Aa 108 #[g,S c] a λd e=>d=F (A (CK c (b.map (·.1)) 0))/\Below a.heap.size a e:=by
 obtain⟨m,i,rfl,-⟩:=id f;have h:O9 (Av Aa 163 #[W m (L b) i,.func (.func 164) #[] #[J (I ⟨a.heap.size,0,N⟩)]] (a.alloc (.cells #[S c] 9)) λd e=>d=F (A (CK c (b.map (·.1)) 0))/\Below a.heap.size a e):=by
  have hb:Below a.heap.size a (a.alloc (.cells #[S c] 9)):=bA;exact(Aoj b _ c a.heap.size _ l (f.bE hb) O2).mono λ_ _ ⟨j,k⟩=>⟨j,hb.trans (k.mono O2)⟩
 go_enter Tryz.func108,Tryz.ntmps108;go_wp2_with (first
  |(refine h.o.mono ?_;rintro d p ⟨rfl,n⟩))
 go_ret;simp_all
def V2(w:Q)(b:Nat)(x y:X):Prop:=w.cell? ⟨b,0,N⟩=I x/\w.cell? ⟨b,1,N⟩=I y/\w.frozen? ⟨b,0,N⟩=false/\w.frozen? ⟨b,1,N⟩=false
theorem V2.lt(a:V2 n w b i):w<n.heap.size:=AG a.1
theorem V2.bE{w:Q}{c:Nat}(a:V2 w c b i)(hb:Below w.heap.size w n):V2 n c b i:=by
 have d:=hb.block c a.lt;exact⟨Bn hb a.1,Bn hb a.2.1,by rw[AD d];exact a.2.2.1,by rw[AD d];exact a.2.2.2⟩
theorem V2.ef{w:Q}{b d:Nat}{x y:X}(a:V2 w b x y)(e:EF d w n)(f:b≠d):V2 n b x y:=by
 have c:=e.block b a.lt f;exact⟨by rw[Ai c];exact a.1,by rw[Ai c];exact a.2.1,by rw[AD c];exact a.2.2.1,by rw[AD c];exact a.2.2.2⟩
theorem V2.put(a:V2 n w b i)(c d:X):V2 ((n.setCell ⟨w,0,N⟩ c).setCell ⟨w,1,N⟩ d) w c d:=by
 refine⟨?_,Am _ _ _ (by rw[Af _ _ _ _ (B4 O1)];exact a.2.1),?_,?_⟩
 ·rw[Af _ _ _ _ (B4 O1)];exact Am _ _ _ a.1
 ·rw[An,An];exact a.2.2.1
 ·rw[An,An];exact a.2.2.2
theorem V2.cN{b c j:Nat}{d u:X}(a:V2 n b d i)(e:b≠c):V2 (n.setCell ⟨c,j,N⟩ u) b d i:=by
 refine⟨?_,?_,?_,?_⟩
 ·rw[Af _ _ _ _ O2];exact a.1
 ·rw[Af _ _ _ _ O2];exact a.2.1
 ·rw[An];exact a.2.2.1
 ·rw[An];exact a.2.2.2
def C9(e:ByteArray)(b:List ByteArray)(c:Nat):Pr (ByteArray×Nat):=pb (FE e c) λa d=>if CK a.1 b 0=true then P (5,a.2) else .ok (a,d)
theorem Aj8{others:List ByteArray}(a:CE (Bp v w)=false):C9 v others w=P (2,BP v w):=by unfold C9 FE;rw[if_neg (by simp[a]),Dj]
theorem Afo{others:List ByteArray}(a:CE (Bp v w)=true)(b:CK (Bp v w) others 0=true):C9 v others w=P (5,BP v w):=by unfold C9 FE;rw[if_pos a,BB,if_pos b]
theorem Akd{others:List ByteArray}(a:CE (Bp v w)=true)(b:CK (Bp v w) others 0=false):C9 v others w=.ok ((Bp v w,BP v w),BG v w):=by unfold C9 FE;rw[if_pos a,BB,if_neg (by simp[b])]
theorem ZD(a:CE v=true):v≠⟨#[]⟩:=λb=>by rw[b,Ng]at a;cases a
theorem Un{w:Q}{y:Nat}{a:ByteArray}{v:X}(i:Bm)(a6:a.size<=2000)(ap:(L i)<=100000)(am:PB n w y f)(q:PS w y s a m b j)(z:m<=a.size)(ah:CI w v i):
 Av Aa 56 #[J (I ⟨y,0,N⟩),v] w λg t=>EA (C9 a (i.map (·.1)) m) y w f (T #[S ⟨#[]⟩,V C 0]) (λa1 aw v t=>v=T #[S a1.1,V C (a1.2:Int)]/\aw<=a.size/\PS t y s a aw b j) g t/\(∀al ak,C9 a (i.map (·.1)) m=P (al,ak)->Below w.heap.size w t):=by
 obtain⟨aC,aB,rfl,-⟩:=id ah;have ac:=O0 (λc (hb:Below w.heap.size w c)=>Ga (q.below hb) z);have af:=O0 q;have ag:=O0 am.sy;have aj:=O0 ah;have ai:=QY z a6;have a8:=HM;have a9:=OW;have Y:=q.lt;have ao:=q.dK;clear q am ah;have u:O9 (∀d,Below w.heap.size w (w.alloc d)):=λd=>bA;have ad:O9 (V2 (w.alloc (.cells #[S ⟨#[]⟩,V C 0] 117)) w.heap.size (S ⟨#[]⟩) (V C 0)):=⟨O2,O2,O2,O2⟩;cases hw:CE (Bp a m) with
 |false=>
  have x:=O0 (Aj8 (others:=i.map (·.1)) hw);have O:=O0 hw;clear hw;go_enter Tryz.func56,Tryz.ntmps56;go_wp2_with (first
   |(go_at_call 57;refine(ac.o _ (u.o _)).mono ?_;rintro g c ⟨rfl,h⟩;have k:O9 (Below w.heap.size w c):=(u.o _).trans (h.mono O2);have e:O9 (∀d,Below w.heap.size w (c.alloc d)):=(λd=>k.o.alloc k.o.size _);have aD:=λd=>(ag.o.bE (e.o d)).sy;have D:=O0 (ad.o.bE h);clear h)
   |(go_at_call 107;refine(MQ _ _ ai).mono ?_;rintro g t ⟨rfl,rfl⟩;rw[O.o])
   |(go_at_call 106;refine(Lq f 12 (af.o.below (e.o _)) z).mono ?_;rintro g aa ⟨rfl,r⟩;have B:O9 (Below w.heap.size w aa):=(e.o _).trans (r.mono (e.o _).size);have p:=O0 ((D.o.bE bA).bE r);obtain⟨aq,ar,au,av⟩:=id p.o;clear r))
  obtain⟨G,H,-,-⟩:=p.o.put (S ⟨#[]⟩) (V C 0);refine AV (v:=R #[T #[S ⟨#[]⟩,V C 0],EU f 12 (BP a m)]) (by simp[results,Tryz.results56,go_sem,G,H]) rfl ?_;exact⟨EA.bad x.o (EF.bG ((B.o.setCell (Ac _) _).setCell (Ac _) _)) rfl,λ_ _ _=>(B.o.setCell (Ac _) _).setCell (Ac _) _⟩
 |true=>
  have O:=O0 hw;cases hi:CK (Bp a m) (i.map (·.1)) 0 with
  |true=>
   have x:=O0 (Afo (others:=i.map (·.1)) hw hi);have ab:=O0 hi;clear hw hi;go_enter Tryz.func56,Tryz.ntmps56;go_wp2_with (first
    |(go_at_call 57;refine(ac.o _ (u.o _)).mono ?_;rintro g c ⟨rfl,h⟩;have k:O9 (Below w.heap.size w c):=(u.o _).trans (h.mono O2);have e:O9 (∀d,Below w.heap.size w (c.alloc d)):=(λd=>k.o.alloc k.o.size _);have D:=O0 (ad.o.bE h);clear h)
    |(go_at_call 107;refine(MQ _ _ ai).mono ?_;rintro g t ⟨rfl,rfl⟩;rw[O.o])
    |(go_at_call 108;refine(MW i _ _ _ ap (aj.o.bE (e.o _))).mono ?_;rintro g K ⟨rfl,l⟩;have o:O9 (Below w.heap.size w K):=(e.o _).trans (l.mono (e.o _).size);have ae:=O0 ((D.o.bE bA).bE l);have M:O9 (V2 K c.heap.size (S (Bp a m)) (V C (BP a m:Int))):=V2.bE (w:=c.alloc (.cells #[S (Bp a m),V C (BP a m:Int)] 161)) ⟨O2,O2,O2,O2⟩ l;obtain⟨ax,ay,az,a0⟩:=id M.o;have a7:=(ag.o.bE o.o).tw;clear l;rw[ab.o])
    |(go_at_call 106;refine(Lq f 14 (af.o.below o.o) z).mono ?_;rintro g aa ⟨rfl,r⟩;have B:O9 (Below w.heap.size w aa):=o.o.trans (r.mono o.o.size);have p:=O0 (ae.o.bE r);obtain⟨aq,ar,au,av⟩:=id p.o;clear r))
   obtain⟨G,H,-,-⟩:=p.o.put (S ⟨#[]⟩) (V C 0);refine AV (v:=R #[T #[S ⟨#[]⟩,V C 0],EU f 14 (BP a m)]) (by simp[results,Tryz.results56,go_sem,G,H]) rfl ?_;exact⟨EA.bad x.o (EF.bG ((B.o.setCell (Ac _) _).setCell (Ac _) _)) rfl,λ_ _ _=>(B.o.setCell (Ac _) _).setCell (Ac _) _⟩
  |false=>
   have x:=O0 (Akd (others:=i.map (·.1)) hw hi);have ab:=O0 hi;have a3:=O0 (ZD hw);clear hw hi;go_enter Tryz.func56,Tryz.ntmps56;go_wp2_with (first
    |(go_at_call 57;refine(ac.o _ (u.o _)).mono ?_;rintro g c ⟨rfl,h⟩;have k:O9 (Below w.heap.size w c):=(u.o _).trans (h.mono O2);have e:O9 (∀d,Below w.heap.size w (c.alloc d)):=(λd=>k.o.alloc k.o.size _);have D:=O0 (ad.o.bE h);clear h)
    |(go_at_call 107;refine(MQ _ _ ai).mono ?_;rintro g t ⟨rfl,rfl⟩;rw[O.o])
    |(go_at_call 108;refine(MW i _ _ _ ap (aj.o.bE (e.o _))).mono ?_;rintro g K ⟨rfl,l⟩;have o:O9 (Below w.heap.size w K):=(e.o _).trans (l.mono (e.o _).size);have ae:=O0 ((D.o.bE bA).bE l);have M:O9 (V2 K c.heap.size (S (Bp a m)) (V C (BP a m:Int))):=V2.bE (w:=c.alloc (.cells #[S (Bp a m),V C (BP a m:Int)] 161)) ⟨O2,O2,O2,O2⟩ l;obtain⟨ax,ay,az,a0⟩:=id M.o;have a7:=(ag.o.bE o.o).tw;clear l;rw[ab.o])
    |(go_at_call 58;refine(I8 (af.o.below o.o) z).mono ?_;rintro g aa ⟨rfl,U,an⟩;have a2:=O0 ((EF.bG (E:=y) o.o).trans U);have a4:=O0 (an a3.o);have a5:=O0 (M.o.ef U (Bh (Aj Y k.o.size)));have p:=O0 (ae.o.ef U (Bh Y));obtain⟨aq,ar,au,av⟩:=id p.o;obtain⟨ax,ay,az,a0⟩:=id a5.o;clear U an))
   obtain⟨G,H,-,-⟩:=p.o.put (S (Bp a m)) (V C (BP a m:Int));refine AV (v:=R #[T #[S (Bp a m),V C (BP a m:Int)],.nilIface]) (by simp[results,Tryz.results56,go_sem,G,H]) rfl ?_;refine⟨EA.ok x.o ?_ ⟨rfl,Dq z,?_⟩,λal ak q=>by rw[x.o]at q;cases q⟩
   ·exact Jg (Jg a2.o (Ac _)) (Ac _)
   ·exact(a4.o.cN (Bh Y) (Bh ao)).cN (Bh Y) (Bh ao)
theorem Tj(a:Bm)(r:v.size<=2000)(o:(L a)<=100000)(k:PB n p w f)(c:PS p w s v m b j)(q:m<=v.size)(l:CI p i a):
 Av Aa 56 #[J (I ⟨w,0,N⟩),i] p λh d=>EA (C9 v (a.map (·.1)) m) w p f (T #[S ⟨#[]⟩,V C 0]) (λg e i d=>i=T #[S g.1,V C (g.2:Int)]/\e<=v.size/\PS d w s v e b j) h d:=
 (Un a r o k c q l).mono λ_ _ c=>c.1
def Gy(b:Nat->Addr)(c a:Nat):X:=T #[Z 444 (J (I (b c))),V C 0,V C (a:Int)]
variable{st:Pr Unit}
theorem H6.bZ(a:H6 st w n f xf nh p)(b:st=P (s,m)):nh=F (Z 109 (Gy f (B5 s) m))/\EF w n p:=by
 subst b;exact⟨a.2,a.1⟩
theorem H6.isOk(a:H6 st w n f xf nh p)(b:st=.ok (xg,s)):nh=F .nilIface/\EF w n p/\xf s p:=by
 subst b;exact⟨a.2.1,a.1,a.2.2⟩
theorem EA.bZ{c:Pr wl}{d:wl->Nat->X->Q->Prop}(a:EA c w n f b d nh p)(e:c=P (s,m)):nh=F (R #[b,Z 109 (Gy f (B5 s) m)])/\EF w n p:=by
 subst e;exact⟨a.2,a.1⟩
theorem EA.isOk{e:Pr wl}{c:wl->Nat->X->Q->Prop}{g:wl}(d:EA e w n f b c nh p)(i:e=.ok (g,s)):∃a,nh=F (R #[a,.nilIface])/\EF w n p/\c g s a p:=by
 subst i;let ⟨a,j,h⟩:=d.2;exact⟨a,j,d.1,h⟩
theorem Aod(b c:ByteArray)(a:Nat):Fz b [c] a=BS b c a:=by
 show pb (BS b c a) (λ_ d=>.ok ((),d))=_;match BS b c a with
 |P e=>rfl
 |.ok ((),d)=>rfl
theorem Jp(d:ByteArray)(t:PB n p w f)(k:PS p w s v m b j)(o:m<=v.size)(y:d≠⟨#[]⟩):
 Av Aa 55 #[J (I ⟨w,0,N⟩),W (I ⟨p.heap.size,0,N⟩) 1 1] (p.alloc (.cells #[S d] 9)) λi h=>H6 (BS v d m) w p f (λg h=>g<=v.size/\PS h w s v g b j) i h:=by
 have hb:Below p.heap.size p (p.alloc (.cells #[S d] 9)):=bA;have l:EF w p (p.alloc (.cells #[S d] 9)):=EF.bG hb;have x:QO (p.alloc (.cells #[S d] 9)) w (W (I ⟨p.heap.size,0,N⟩) 1 1) [d]:=⟨p.heap.size,0,1,rfl,Bh k.lt,λq u=>by
  have:q=0:=by grind
  subst this;simp⟩
 refine(ZX (t.ef l) (k.below hb) o x O2 (λq u=>nofun)).mono ?_;rintro i h ⟨r,e⟩;rw[Aod]at e;refine⟨l.trans r,?_⟩;match hr:BS v d m with
 |P (c,a)=>grind
 |.ok ((),g)=>
  rw[hr]at e;refine⟨e.1,(B2 y m o () g hr).2,e.2 λB z=>?_⟩;grind
abbrev C4(d:Q)(b:Nat)(c:X)(a:Bm):Prop:=BU wC (λ_=>[]) (λ_ _=>True) 117 2 d b c a
theorem Tryz.c9:(Aa.info? 117).map (λa=>(a.zero,a.size,a.bytes))=I (I (T #[S ⟨#[]⟩,V C 0]),2,24):=O3
theorem X5(b:Bm)(a:Nat)(d:a<L b):(b.flatMap wC)[a*2]?=I (.string b[a].1)/\(b.flatMap wC)[a*2+1]?=I (V C (b[a].2:Int)):=Ju (λc:ByteArray×Nat=>Value.string c.1) (λc=>Value.int C c.2) b a d
theorem C4.nm{l:Bm}(a:C4 n w b l):CI n b l:=by
 obtain⟨h,c,rfl⟩:=a.slice;refine⟨h,c,rfl,λo=>?_⟩;rcases Qy a.own with⟨d,p⟩|⟨e,i,d,-,m⟩
 ·grind
 ·cases d;refine⟨e,0,rfl,(a.rg e (Ad _ (by rw[DV];simp))).2,λg f=>?_⟩;let ⟨j,k⟩:=X5 l g f
  grind
theorem TJ:ET 136 140 2 16:=.of Tryz.underlying136 (z:=T #[V C 0,V C 0]) O3 rfl O1 O1
theorem Vp:ET 75 138 3 40:=.of Tryz.underlying75 (z:=T #[V C 0,V C 0,W N 0 0]) O3 rfl O1 O1
theorem Ys:ET 39 77 4 56:=.of Tryz.underlying39 (z:=T #[S ⟨#[]⟩,V C 0,A false,W N 0 0]) O3 rfl O1 O1
theorem Yq:ET 38 74 2 24:=.of Tryz.underlying38 (z:=T #[S ⟨#[]⟩,V C 0]) O3 rfl O1 O1
def DU:Ex->Bm
 |.lets _ ns _ _=>ns
 |_=>[]
def Bv:Ex->List Ex
 |.call ps=>ps
 |.lets _ _ es b=>es++[b]
 |.CS _ fs=>fs
 |.case e _=>[e]
 |.op _ l r=>[l,r]
 |_=>[]
def Cf:Ex->List (Nat×Bm×Ex)
 |.case _ brs=>brs
 |_=>[]
structure NF (d c:Nat) (a b:Q):Prop where
 os:b.os=a.os
 tape:b.tape=a.tape
 output:b.output=a.output
 size:a.heap.size<=b.heap.size
 block:∀k,k<a.heap.size->k<c->k≠d->b.heap[k]?=a.heap[k]?
theorem NF.refl(c b:Nat)(a:Q):NF c b a a:=⟨rfl,rfl,rfl,Ac _,λ_ _ _ _=>rfl⟩
theorem NF.trans{e d:Nat}{h i j:Q}(a:NF e d h i)(c:NF e d i j):NF e d h j:=
 ⟨c.os.trans a.os,c.tape.trans a.tape,c.output.trans a.output,Aw a.size c.size,λb hb f g=>(c.block b (Aj hb a.size) f g).trans (a.block b hb f g)⟩
theorem NF.cE(a:EF w n p):NF w s n p:=⟨a.os,a.tape,a.output,a.size,λd c _ b=>a.block d c b⟩
theorem NF.set(a:NF w s n p)(u:X):NF w s n (p.setCell ⟨s,m,N⟩ u):=
 a.trans ⟨rfl,rfl,rfl,O2,λb _ c _=>Az _ _ _ _ (show b≠s by omega)⟩
theorem NF.ef{b:Nat}{w:Q}(a:NF b s w n)(f:w.heap.size<=s):EF b w n:=⟨a.os,a.tape,a.output,a.size,λe d c=>a.block e d O1 c⟩
def left(c:ByteArray)(a:Nat)(b:Q):Nat:=match b.cell? ⟨a,3,N⟩,b.cell? ⟨a,1,N⟩ with|some (V _ e),I (V _ q)=>if e=0 then c.size+1-q.toNat else 0|_,_=>0
theorem En.names(c:En n b n1):short (L n1)/\∀a (f:a<L n1),n1[a].name.size<=maxLen:=by
 obtain⟨h,d,-,g,e⟩:=c;grind
theorem Ez.short(a:Ez n b wz):short (L wz):=by
 obtain⟨e,d,-,c,-⟩:=a;exact c
theorem D9.eO(a:D9 n b wh):short (L wh)/\∀c (i:c<L wh),short wh[c].alts.length:=by
 obtain⟨j,h,-,f,d⟩:=a;refine⟨f,λg e=>?_⟩;obtain⟨_,_,_,-,-,-,-,a⟩:=d g e;exact a.short
theorem HD.names(c:HD n b d):short (L d)/\∀a (e:a<L d),d[a].name.size<=maxLen/\short d[a].code.length/\∀f (k:f<d[a].code.length),short d[a].code[f].alts.length:=by
 obtain⟨l,j,-,i,g⟩:=c;refine⟨i,λa e=>?_⟩;obtain⟨_,_,_,-,-,-,-,-,c,h⟩:=g a e;exact⟨h,c.eO⟩
structure C3 (b:Q) (a:Nat) (c d e:X):Prop where
 c0:b.cell? ⟨a,0,N⟩=I c
 c1:b.cell? ⟨a,1,N⟩=I d
 c2:b.cell? ⟨a,2,N⟩=I e
 lt:a<b.heap.size
theorem C3.bE{w:Q}{c:Nat}(a:C3 w c b i r)(hb:Below w.heap.size w n):C3 n c b i r:=⟨Bn hb a.c0,Bn hb a.c1,Bn hb a.c2,Aj a.lt hb.size⟩
theorem C3.new(a:Q)(b c d:X)(e:AX):C3 (a.alloc (.cells #[b,c,d] e)) a.heap.size b c d:=⟨Cb a #[b,c,d] e 0 _ rfl,Cb a #[b,c,d] e 1 _ rfl,Cb a #[b,c,d] e 2 _ rfl,O2⟩
structure C2 (b:Q) (a:Nat) (c d:X):Prop where
 c0:b.cell? ⟨a,0,N⟩=I c
 c1:b.cell? ⟨a,1,N⟩=I d
 lt:a<b.heap.size
theorem C2.bE{w:Q}{c:Nat}(a:C2 w c b i)(hb:Below w.heap.size w n):C2 n c b i:=⟨Bn hb a.c0,Bn hb a.c1,Aj a.lt hb.size⟩
theorem C2.new(a:Q)(b c:X)(d:AX):C2 (a.alloc (.cells #[b,c] d)) a.heap.size b c:=⟨Cb a #[b,c] d 0 _ rfl,Cb a #[b,c] d 1 _ rfl,O2⟩
def vb(a:Nat):List Nat:=if a<128 then [a] else (a % 128+128)::vb (a / 128)
 termination_by a
 decreasing_by omega
theorem Tryz.dS:(Aa.info? 5).map (λa=>(a.zero,a.size,a.bytes))=I (I (V .u8 0),1,1):=O3
end Go.Proofs.YtcacpmkdfnmhaaaGreatDoor
