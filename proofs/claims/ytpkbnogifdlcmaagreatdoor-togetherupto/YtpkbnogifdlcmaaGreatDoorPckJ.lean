import Derived.Test.YtpkbnogifdlcmaaGreatDoorProg
import Derived.WalkKit
import Derived.WalkSpells
import Derived.WalkLawsBesides
import Derived.Deep.QuietTactic
import Derived.BigQuiet
import Derived.Lib.QuietBelow
import Derived.Deep.AppendLies
import Derived.OneCell
import Derived.Deep.RegionLaw
import Derived.RangeFuncNested
import Derived.ArgAppend
import Derived.Deep.DeepAppendRoom
import Derived.Deep.DeepCutAuto
import Derived.Laws.Bits64
import Derived.Lib.Bytealg
import Derived.Lib.ParseIntB
import Derived.Lib.Strings
import Derived.Shelf.SlGeneric
import Derived.Ground.NamesProg
import Derived.Ground.SlgfProg
import Derived.Shelf.Strings.Search3
import Derived.Shelf.Strings.Prefix
import Derived.Shelf.Strconv.ParseIntPublic10
import Derived.Shelf.SlicesQ.IndexFunc
import Derived.Lib.SmallJoins
import Derived.Stop.Asserts
import Derived.KernelRfl
import Derived.Shelf.Strconv.Itoa3
import Derived.Ground.SlsfProg
import Derived.Shelf.SlSortCmp.WholeK
import Derived.Shelf.Sort.Plain
import Derived.LaidEql
import Derived.RowKitTokens
import Derived.Deep.RegionHeld3
import Derived.StillTail
import Derived.Deep.RegionHeldLaw
import Derived.Lib.MinMax
import Derived.Test.YtpkbnogifdlcmaaGreatDoorQ0J
set_option linter.unusedSimpArgs false
set_option maxRecDepth 100000
set_option maxHeartbeats 8000000
open Except renaming error->P
open Go renaming Calls->Az,TypeId->A0,Value->X,World->Q,getD_set_ne->A3,undef->Aw7
open Go.ByteArray renaming toList_eq->Axe
open Go.Ending renaming returned->F
open Go.Instr renaming typeAssert->Axg
open Go.IntKind renaming i64->C
open Go.Obj renaming cells->AW
open Go.Proofs.Tryz renaming prog->Aa,underlying9->Awz
open Go.Region renaming ready->Ba
open Go.RowKit renaming wrap64->Bf
open Go.Value renaming agg->T,bool->A,iface->Z,int->V,ownBlock->Awu,pointer->J,slice->W,string->S,tuple->R
open Go.World renaming news_of_block->A5
open List renaming length->L,range->AV
open Option renaming none->N,some->I
open Or renaming inl->Be,inr->Axf
namespace Go.Proofs.YtpkbnogifdlcmaaGreatDoor
open Go.RowKit Go.Sort Go.Shelf Go.Extern.Stop Go.Stop Go.Extern Go.Proofs.Tryz
variable{w s b j wf:Nat}{n q Y:World}{p y:Value}{w4 ss:Bool}{wp:TypeId}{wj:List Value}{t n8:List Nat}{x2:Option Nat}{v8:Nat->Prop}{nl:Oper}{ws xs:Act}{v6:Act->World->Prop}{nh:Exit->Act->World->Prop}{wk:Array Oper}{nk:Prop}{yo:List Oper}{w6:Program}{yp:Func}{zu:Ending->World->Prop}{zc:Exit}{m w0:Oy}{yq:IntKind}{D nf:Int}{wa n3:Type}{n0:Oy×Nat}{sj:List (Oy×Nat)}{U:Option Addr}{v9:Obj}{M:Nat->Addr}{f:List Oy}{o:List UInt8}{yi:Nat->World->Prop}{n2:Ending}{x3:Unit}{xr:Array Field}{w9:Region.Mode}{vf:Array Bool}{sf:World->Prop}{xn:Operand->Value}
def Jh(a:Int):Bool:=decide (97<=a) && decide (a<=122)
def M7(a:Int):Bool:=decide (48<=a) && decide (a<=57)
theorem Uz(a:Int)(b:Q):Az Aa 150 #[V .u8 a] b λc d=>c=F (A (Jh a))/\d=b:=by
 go_wp2;all_goals go_ret
 all_goals simp_all[Jh]
 omega
theorem Ail(a:Int)(b:Q):Az Aa 151 #[V .u8 a] b λc d=>c=F (A (M7 a))/\d=b:=by
 go_wp2;all_goals go_ret
 all_goals simp_all[M7]
 omega
def J5(a:Int):Bool:=decide (0<=a) && decide (a<=20)
theorem U9(a:Int)(b:Q):Az Aa 152 #[V C a] b λc d=>c=F (A (J5 a))/\d=b:=by
 go_wp2;all_goals go_ret
 all_goals simp_all[J5]
 omega
theorem Acn(a:Int)(b:Q):Az Aa 256 #[V C a] b λc d=>c=F (A (decide (0<=a) && decide (a<21)))/\d=b:=by
 go_wp2;all_goals go_ret
 all_goals simp_all
 omega
def Ms(a:Int):Bool:=a==17||a==18||a==19||a==20
theorem Aos(a:Int)(b:Q):Az Aa 163 #[V C a] b λc d=>c=F (A (Ms a))/\d=b:=by
 go_wp2;all_goals go_ret
 all_goals simp_all[Ms]
theorem K1(a:Nat)(c:Int)(b:Q)(f:a<21)(g:b.cell? ⟨24,a*7,N⟩=I (V C c)):Az Aa 224 #[V C a] b λd e=>d=F (V C c)/\e=b:=by
 go_wp2;all_goals go_ret
 simp
theorem Aa8(a:Nat)(c d:Int)(b:Q)(h:a<21)(i:b.cell? ⟨24,a*7+1,N⟩=I (V C c))(j:b.cell? ⟨24,a*7+2,N⟩=I (V C d)):
 Az Aa 257 #[V C a] b λe g=>e=F (R #[V C c,V C d])/\∃f,g=b.drewN f:=by
 go_wp2;go_quiet (fail);go_wp2;all_goals go_ret2
 all_goals refine⟨?_,_,rfl⟩
 rfl
def Gt(b a:Int):Int:=if b=15 then a.tmod 256 else a
theorem Oo(b a:Int)(d:X)(c:Q):
 Az Aa 227 #[T #[V C b,V C a,d]] c λe f=>e=F (V C (Gt b a))/\Ow c f:=by
 go_wp2;all_goals go_ret
 all_goals refine⟨?_,bA⟩
 all_goals simp_all[Gt]
structure Co where
 tag:Int
 BU:Int
structure BJ where
 op:Int
 a:Int
 alts:List Co
structure Dv where
 Bo:Oy
 BH:Int
structure Bx where
 Bo:Oy
 BH:Int
 exp:Bool
 Bj:List BJ
structure BD where
 Bo:Oy
 BG:List Dv
 Bv:List Bx
def short(a:Nat):Prop:=a<140737488355328
theorem short.le(a:short w):w<140737488355328:=a
def GC(f:Q)(h:X)(b:List Co):Prop:=
 ∃e g,h=W e (L b) g/\short (L b)/\∀a (i:a<L b),∃c d,e=I ⟨c,d,N⟩/\f.cell? ⟨c,d+a*2,N⟩=I (.int C b[a].tag)/\f.cell? ⟨c,d+a*2+1,N⟩=I (.int C b[a].BU)
def Fy(f:Q)(j:X)(c:List BJ):Prop:=
 ∃h i,j=W h (L c) i/\short (L c)/\∀b (k:b<L c),∃d e g,h=I ⟨d,e,N⟩/\f.cell? ⟨d,e+b*3,N⟩=I (.int C c[b].op)/\f.cell? ⟨d,e+b*3+1,N⟩=I (.int C c[b].a)/\f.cell? ⟨d,e+b*3+2,N⟩=I g/\GC f g c[b].alts
def GX(f:Q)(h:X)(b:List Dv):Prop:=
 ∃e g,h=W e (L b) g/\short (L b)/\∀a (i:a<L b),∃c d,e=I ⟨c,d,N⟩/\f.cell? ⟨c,d+a*2,N⟩=I (.string b[a].Bo)/\f.cell? ⟨c,d+a*2+1,N⟩=I (.int C b[a].BH)/\b[a].Bo.size<=maxLen
def JA(e:Q)(i:X)(b:List Bx):Prop:=
 ∃g h,i=W g (L b) h/\short (L b)/\∀a (j:a<L b),∃c d f,g=I ⟨c,d,N⟩/\e.cell? ⟨c,d+a*4,N⟩=I (.string b[a].Bo)/\e.cell? ⟨c,d+a*4+1,N⟩=I (.int C b[a].BH)/\e.cell? ⟨c,d+a*4+2,N⟩=I (.bool b[a].exp)/\e.cell? ⟨c,d+a*4+3,N⟩=I f/\Fy e f b[a].Bj/\b[a].Bo.size<=maxLen
def Fv(d:Q)(e:X)(a:BD):Prop:=
 ∃c b,e=T #[S a.Bo,c,b]/\a.Bo.size<=maxLen/\GX d c a.BG/\JA d b a.Bv
theorem Bu(hb:Ow n q){a:Addr}{b:X}(c:n.cell? a=I b):q.cell? a=I b:=by
 rwa[hb.cell (AL c)]
theorem E3(hb:Ow n q):(∀a b,a<n.heap.size->q.cell? ⟨a,b,N⟩=n.cell? ⟨a,b,N⟩)/\(∀a b,a<n.heap.size->q.frozen? ⟨a,b,N⟩=n.frozen? ⟨a,b,N⟩):=
 ⟨λa b c=>hb.cell (p:=⟨a,b,N⟩) c,λa b c=>hb.frozen (p:=⟨a,b,N⟩) c⟩
theorem GC.bG{w:Q}(hb:Ow w n){b:X}{a:List Co}(g:GC w b a):GC n b a:=by
 let ⟨p,d,e,m,k⟩:=g
 refine⟨p,d,e,m,λi l=>?_⟩;let ⟨c,o,f,h,j⟩:=k i l
 exact⟨c,o,f,Bu hb h,Bu hb j⟩
theorem Fy.bG{w c:Q}(hb:Ow w c){b:X}{a:List BJ}(j:Fy w b a):Fy c b a:=by
 let ⟨s,f,g,r,p⟩:=j
 refine⟨s,f,g,r,λi q=>?_⟩;let ⟨e,o,d,h,k,l,m,n⟩:=p i q
 exact⟨e,o,d,h,Bu hb k,Bu hb l,Bu hb m,n.bG hb⟩
theorem GX.bG{w:Q}(hb:Ow w n){b:X}{a:List Dv}(g:GX w b a):GX n b a:=by
 let ⟨q,d,e,p,l⟩:=g
 refine⟨q,d,e,p,λi m=>?_⟩;let ⟨c,o,f,h,j,k⟩:=l i m
 exact⟨c,o,f,Bu hb h,Bu hb j,k⟩
theorem JA.bG{w c:Q}(hb:Ow w c){b:X}{a:List Bx}(j:JA w b a):JA c b a:=by
 let ⟨u,e,g,t,r⟩:=j
 refine⟨u,e,g,t,λi s=>?_⟩;let ⟨d,o,f,h,k,l,m,n,p,q⟩:=r i s
 exact⟨d,o,f,h,Bu hb k,Bu hb l,Bu hb m,Bu hb n,p.bG hb,q⟩
theorem Fv.bG{w c:Q}(hb:Ow w c){b:X}{a:BD}(f:Fv w b a):Fv c b a:=by
 let ⟨j,e,d,i,h,g⟩:=f
 exact⟨j,e,d,i,h.bG hb,g.bG hb⟩
def Nc(e:Q)(f:Option Addr)(c:List Co):Prop:=
 ∀a (g:a<L c),∃b d,f=I ⟨b,d,N⟩/\e.cell? ⟨b,d+a*2,N⟩=I (.int C c[a].tag)/\e.cell? ⟨b,d+a*2+1,N⟩=I (.int C c[a].BU)
def MZ(f:Q)(j:Option Addr)(d:List BJ):Prop:=
 ∀b (k:b<L d),∃c e i h g,j=I ⟨c,e,N⟩/\f.cell? ⟨c,e+b*3,N⟩=I (.int C d[b].op)/\f.cell? ⟨c,e+b*3+1,N⟩=I (.int C d[b].a)/\f.cell? ⟨c,e+b*3+2,N⟩=I (W i h g)/\GC f (W i h g) d[b].alts
def On(e:Q)(f:Option Addr)(b:List Dv):Prop:=
 ∀a (g:a<L b),∃c d,f=I ⟨c,d,N⟩/\e.cell? ⟨c,d+a*2,N⟩=I (.string b[a].Bo)/\e.cell? ⟨c,d+a*2+1,N⟩=I (.int C b[a].BH)/\b[a].Bo.size<=maxLen
def QR(e:Q)(h:Option Addr)(b:List Bx):Prop:=
 ∀a (i:a<L b),∃c d g f cc,h=I ⟨c,d,N⟩/\e.cell? ⟨c,d+a*4,N⟩=I (.string b[a].Bo)/\e.cell? ⟨c,d+a*4+1,N⟩=I (.int C b[a].BH)/\e.cell? ⟨c,d+a*4+2,N⟩=I (.bool b[a].exp)/\e.cell? ⟨c,d+a*4+3,N⟩=I (W g f cc)/\Fy e (W g f cc) b[a].Bj/\b[a].Bo.size<=maxLen
variable{na:List Co}
theorem GC.open(g:GC n p na):∃a b,p=W a (L na) b/\L na<140737488355328/\∀c,Ow n c->Nc c a na:=by
 let ⟨a,b,e,l,j⟩:=g
 refine⟨a,b,e,l.le,λc hb m k=>?_⟩;let ⟨d,o,f,h,i⟩:=j m k
 exact⟨d,o,f,Bu hb h,Bu hb i⟩
variable{wl:List BJ}
theorem Fy.open(j:Fy n p wl):∃a b,p=W a (L wl) b/\L wl<140737488355328/\∀c,Ow n c->MZ c a wl:=by
 let ⟨a,b,h,r,o⟩:=j
 refine⟨a,b,h,r.le,λc hb s q=>?_⟩;let ⟨g,t,u,i,k,l,m,d⟩:=o s q
 obtain⟨f,e,rfl,-,-⟩:=id d;exact⟨g,t,f,_,e,i,Bu hb k,Bu hb l,Bu hb m,d.bG hb⟩
variable{vs:List Dv}
theorem GX.open(g:GX n p vs):∃a b,p=W a (L vs) b/\L vs<140737488355328/\∀c,Ow n c->On c a vs:=by
 let ⟨a,b,e,m,k⟩:=g
 refine⟨a,b,e,m.le,λc hb o l=>?_⟩;let ⟨d,q,f,h,i,j⟩:=k o l
 exact⟨d,q,f,Bu hb h,Bu hb i,j⟩
variable{i:List Bx}
theorem JA.open(j:JA n p i):∃a b,p=W a (L i) b/\L i<140737488355328/\∀c,Ow n c->QR c a i:=by
 let ⟨a,b,g,t,r⟩:=j
 refine⟨a,b,g,t.le,λc hb u s=>?_⟩;let ⟨e,v,w,h,k,l,m,o,d,q⟩:=r u s
 obtain⟨f,cc,rfl,-,-⟩:=id d;exact⟨e,v,f,_,cc,h,Bu hb k,Bu hb l,Bu hb m,Bu hb o,d.bG hb,q⟩
theorem TN(a:w4=ss):Ending.returned (A w4)=F (A ss):=by rw[a]
theorem CS(d:Q)(b:Array X)(f:A0)(a:Nat)(c:X)(e:b[a]?=I c):(d.alloc (.cells b f)).cell? ⟨d.heap.size,a,N⟩=I c:=by
 simp[e]
theorem BM(e:Q)(c:Obj)(a b:Nat)(d:X)(f:e.cell? ⟨a,b,N⟩=I d):(e.alloc c).cell? ⟨a,b,N⟩=I d:=by
 rwa[((Ae _ _).alloc .refl c).cell (AL f)]
theorem Awc(a:Nat)(c e:Int)(d:X)(f g:Int)(b:Q)(p:a<21)(i:b.cell? ⟨24,a*7+5,N⟩=I (V C f))(j:b.cell? ⟨24,a*7+6,N⟩=I (V C g)):
 Az Aa 202 #[T #[V C a,V C c,d],V C e] b λh k=>h=F (V C (IntKind.i64.wrap (IntKind.i64.wrap (e+f)+IntKind.i64.wrap (g*Gt a c))))/\Ow b k:=by
 have c0:=cell_regrown (CS b #[V C a,V C c,d] 182 0 _ rfl);have l:=cell_regrown (CS b #[V C a,V C c,d] 182 1 _ rfl);have m:=cell_regrown (CS b #[V C a,V C c,d] 182 2 _ rfl);have n:=cell_regrown (BM b (.cells #[V C a,V C c,d] 182) _ _ _ i);have o:=cell_regrown (BM b (.cells #[V C a,V C c,d] 182) _ _ _ j);have q:(0:Int)<=(a:Int):=O1;have r:(a:Int)<21:=O1;go_enter func202,ntmps202;go_wp2;refine wp_region_quiet_below rfl O3 ?_;repeat (quiet_step (first|(go_at_call 227;exact Calls.regrown_of (Oo _ _ _ _))))
 refine wpQuiet_nil ?_;intro _ ⟨⟨dq,osq⟩,hw''⟩;subst hw'';go_wp2;go_ret;exact⟨rfl,bA.trans ((below_regrown _ dq osq).mono O2)⟩
def FO:List Int:=[1,0,0,0,0,1,0,
 2,0,65535,0,0,1,0,
 2,0,1000,1,1,1,0,
 0,0,0,2,0,-1,0,
 2,0,1000,1,1,0,-1,
 2,0,1000,2,1,-1,0,
 2,0,1000,0,1,0,-1,
 2,1,1000,0,0,0,1,
 0,0,0,1,0,0,0,
 0,0,0,2,0,-1,0,
 0,0,0,2,0,-1,0,
 0,0,0,2,0,-1,0,
 0,0,0,2,0,-1,0,
 0,0,0,2,0,-1,0,
 0,0,0,2,0,-1,0,
 2,0,65535,0,1,1,-1,
 2,0,255,1,0,-1,1,
 3,0,0,1,0,0,0,
 2,0,65535,0,0,0,0,
 0,0,0,1,0,0,0,
 0,0,0,0,0,0,0]
def BP(b a:Nat):Int:=FO.getD (b*7+a) 0
def CJ(b:Q):Prop:=∀a,a<147->b.cell? ⟨24,a,N⟩=I (V C (FO.getD a 0))
theorem CJ.bG{w:Q}(hb:Ow w n)(a:CJ w):CJ n:=λi b=>Bu hb (a i b)
theorem CJ.row(c:CJ n)(b a:Nat)(e:b<21)(d:a<7):n.cell? ⟨24,b*7+a,N⟩=I (V C (BP b a)):=c _ O1
def Fp(a:Nat)(b c:Int):Int:=Bf (Bf (c+BP a 5)+Bf (BP a 6*Gt a b))
def Ox(a:Nat)(b:Int):Int:=Bf (BP a 3+Bf (BP a 4*Gt a b))
def Lf(b:Nat)(c a:Int):Bool:=if b=19 then a==BP 19 3 else decide (Ox b c<=a) && decide (Fp b c a<=1000)
theorem MS(a:Nat)(c d:Int)(f:X)(b:Q)(e:a<21)(h:CJ b):
 Az Aa 202 #[T #[V C a,V C c,f],V C d] b λg i=>g=F (V C (Fp a c d))/\Ow b i:=
 (Awc a c d f _ _ b e (h.row a 5 e O1) (h.row a 6 e .refl)).mono λg i ⟨j,hb⟩=>⟨by rw[j];simp[IntWalk.i64_left,Fp],hb⟩
theorem QY(a:Nat)(b c:Int)(g:Option Addr)(f e:Nat)(d:Q)(i:a<21)(h:CJ d):
 Az Aa 166 #[T #[V C a,V C b,W g f e],V C c] d λp q=>p=F (A (Lf a b c))/\Ow d q:=by
 have n:CJ d:=h;by_cases l:a=19
 ·subst l;have o:=h.row 19 3 i O1;have v:=BM d (.cells #[V C 19,V C b,W g f e] 182) _ _ _ o;have j:Lf 19 b c=(c==BP 19 3):=rfl;generalize BP 19 3=r3 at*;clear h o;go_enter func166,ntmps166;go_wp2;go_ret;exact⟨TN j.symm,bA⟩
 ·have j:Lf a b c=(decide (Ox a b<=c) && decide (Fp a b c<=1000)):=by show _=_;simp[Lf,l]
  have w:((a:Int)==19)=false:=O6;have c0:=cell_regrown (CS d #[V C a,V C b,W g f e] 182 0 _ rfl);have r:=cell_regrown (CS d #[V C a,V C b,W g f e] 182 1 _ rfl);have s:=cell_regrown (CS d #[V C a,V C b,W g f e] 182 2 _ rfl);have t:=cell_regrown (BM d (.cells #[V C a,V C b,W g f e] 182) _ _ _ (h.row a 3 i O1));have u:=cell_regrown (BM d (.cells #[V C a,V C b,W g f e] 182) _ _ _ (h.row a 4 i O1));have x:(0:Int)<=(a:Int):=O1;have y:(a:Int)<21:=O1;have m:Ox a b=Bf (BP a 3+Bf (BP a 4*Gt a b)):=rfl;clear l h;generalize BP a 3=r3 at*;generalize BP a 4=r4 at*;cases hg:decide (Bf (r3+Bf (r4*Gt a b))<=c)
  ·have k:decide (Bf (r3+Bf (r4*Gt a b))<=c)=false:=hg;go_enter func166,ntmps166;go_wp2;refine wp_region_quiet_below rfl O3 ?_;repeat (first|go_big_quiet_step (first|(go_at_call 227;exact Calls.regrown_of (Oo _ _ _ _)))|quiet_step (first|(go_at_call 227;exact Calls.regrown_of (Oo _ _ _ _))))
   refine wpQuiet_nil ?_;intro _ ⟨⟨dq,osq⟩,hw''⟩;subst hw'';go_wp2;go_ret;exact⟨TN (by rw[j,m,k];rfl),bA.trans ((below_regrown _ dq osq).mono O2)⟩
  ·have k:decide (Bf (r3+Bf (r4*Gt a b))<=c)=true:=hg;go_enter func166,ntmps166;go_wp2;refine wp_region_quiet_below rfl O3 ?_;repeat (first|go_big_quiet_step (first|(go_at_call 227;exact Calls.regrown_of (Oo _ _ _ _))|(go_at_call 202;exact Calls.regrown_of (MS a _ _ _ _ i (n.bG (bA.trans ((below_regrown _ _ _).mono O2))))))|quiet_step (first|(go_at_call 227;exact Calls.regrown_of (Oo _ _ _ _))|(go_at_call 202;exact Calls.regrown_of (MS a _ _ _ _ i (n.bG (bA.trans ((below_regrown _ _ _).mono O2)))))))
   refine wpQuiet_nil ?_;intro _ ⟨⟨dq,osq⟩,hw''⟩;subst hw'';go_wp2;go_ret;exact⟨TN (by rw[j,m,k];rfl),bA.trans ((below_regrown _ dq osq).mono O2)⟩
theorem Aiw:(Aa.info? 3).map (λa=>(a.zero,a.size,a.bytes))=I (I (V C 0),1,8):=O3
theorem R3{f:Type}(b c:f->X):∀d:List f,(d.flatMap λe=>[b e,c e]).length=L d*2
 |[]=>rfl
 |a::r=>by simp only[AD,Aw,AO,Bc,R3 b c r];omega
theorem K2{f:Type}(c d:f->X):∀(e:List f) i h,(e.flatMap λb=>[c b,d b])[i*2]?=I (c e[i])/\(e.flatMap λb=>[c b,d b])[i*2+1]?=I (d e[i])
 |a::r,0,_=>O2
 |a::r,i+1,h=>by
  have:=K2 c d r i (by simpa using h);grind
theorem Pk{g:Type}(d e f:g->X):∀(c:List g) i h,(c.flatMap λb=>[d b,e b,f b])[i*3]?=I (d c[i])/\(c.flatMap λb=>[d b,e b,f b])[i*3+1]?=I (e c[i])/\(c.flatMap λb=>[d b,e b,f b])[i*3+2]?=I (f c[i])
 |a::r,0,_=>O2
 |a::r,i+1,h=>by
  have:=Pk d e f r i (by simpa using h);grind
theorem U4{j:Type}(d e f g:j->X):∀(c:List j) i h,(c.flatMap λb=>[d b,e b,f b,g b])[i*4]?=I (d c[i])/\(c.flatMap λb=>[d b,e b,f b,g b])[i*4+1]?=I (e c[i])/\(c.flatMap λb=>[d b,e b,f b,g b])[i*4+2]?=I (f c[i])/\(c.flatMap λb=>[d b,e b,f b,g b])[i*4+3]?=I (g c[i])
 |a::r,0,_=>O2
 |a::r,i+1,h=>by
  have:=U4 d e f g r i (by simpa using h);grind
theorem Om(a c b:Nat):(⟨a,c,N⟩:Addr).add b=⟨a,c+b,N⟩:=by
 unfold Addr.add;simp
theorem Yu(a:n.ownsRow w wp s (W (I ⟨b,0,N⟩) j wf) j wj):b<n.heap.size/\w<=b/\j<=wf:=by
 rcases a.2 with⟨c,-⟩|⟨f,d,e,i,hb,g,h,-⟩
 ·cases c
 grind
theorem Uq(a:Q)(c:Array X)(d:A0)(b:Nat):(a.alloc (.cells c d)).frozen? ⟨a.heap.size,b,N⟩=false:=O2
theorem Cf(c:n.ownsRow w wp s p b wj):∃d a,p=W d b a:=by
 rcases c.2 with⟨rfl,rfl⟩|⟨g,e,f,rfl,-⟩<;>exact⟨_,_,rfl⟩
def Fr(b:List Nat)(c d:Q):Prop:=∀a∈b,d.heap[a]?=c.heap[a]?
theorem Fr.refl(b:List Nat)(a:Q):Fr b a a:=λ_ _=>rfl
theorem Fr.sub(b:Fr t n q)(c:∀a∈n8,a∈t):Fr n8 n q:=λa hb=>b a (c a hb)
def vB(a:X):List Nat:=a.ownBlock.toList
theorem Ca:w∈vB p↔p.ownBlock=I w:=by
 unfold vB;simp
theorem EV(a c b:Nat):vB (W (I ⟨a,0,N⟩) c b)=[a]:=rfl
theorem KX(b a:Nat):vB (W N b a)=[]:=rfl
theorem G5(c:n.ownsRow w wp s p b wj)(f:Fr (vB p) n q):q.ownsRow w wp s p b wj:=by
 refine⟨c.1,?_⟩;rcases c.2 with g|⟨a,d,e,rfl,hb,i,h⟩
 ·exact .inl g
 ·refine .inr ⟨a,d,e,rfl,hb,?_,h⟩;rw[f a (by simp[vB,Awu])];omega
section
variable {α:Type} (cells:α->List Value) (sub:α->List Nat) (ok:World->α->Prop) (e:TypeId) (size:Nat)
def Dl(a:X)(b:List α):List Nat:=vB a++b.flatMap sub
structure Cm (d:Q) (f:Nat) (c:X) (a:List α):Prop where
 own:d.ownsRow 0 e size c (L a) (a.flatMap cells)
 it:∀x∈a,ok d x
 nd:(Dl sub c a).Nodup
 rg:∀b∈Dl sub c a,f<=b/\b<d.heap.size
variable {cells:α->List Value} {sub:α->List Nat} {ok:World->α->Prop} {e:TypeId} {size:Nat}
def Ht(sub:α->List Nat)(ok:Q->α->Prop):Prop:=∀a b c,ok a c->a.heap.size<=b.heap.size->Fr (sub c) a b->ok b c
theorem Cm.nil(c:Q)(b:Nat):Cm cells sub ok e size c b (W N 0 0) ([]:List α):=
 ⟨Axc _ _ _ _,(λ_ a=>absurd a nofun),(by simp[Dl,KX]),(λd a=>absurd a nofun)⟩
theorem Cm.fr(l:Ht sub ok){b c:Q}{k:Nat}{f:X}{h:List α}(a:Cm cells sub ok e size b k f h)(m:b.heap.size<=c.heap.size)(i:Fr (Dl sub f h) b c):Cm cells sub ok e size c k f h:=by
 refine⟨G5 a.own (i.sub λd hb=>Ad _ hb),λg j=>l b c g (a.it g j) m (i.sub λd hb=>Aj _ (AU.2 ⟨g,j,hb⟩)),a.nd,λd hb=>?_⟩;have:=a.rg d hb;omega
theorem Cm.bG(i:Ht sub ok){w f:Q}{c:Nat}{d:X}{g:List α}(b:Cm cells sub ok e size w c d g)(hb:Ow w f):Cm cells sub ok e size f c d g:=
 b.fr i hb.size λa h=>hb.block a (b.rg a h).2
theorem Cm.low{b:List α}(a:Cm cells sub ok e size n w p b)(d:s<=w):Cm cells sub ok e size n s p b:=
 ⟨a.own,a.it,a.nd,λc hb=>by have:=a.rg c hb;omega⟩
theorem Cm.slice{v:X}{a:List α}(c:Cm cells sub ok e size n w v a):∃d b,v=W d (L a) b:=Cf c.own
theorem Cm.push(v:Ht sub ok){c w1 j:Q}{n:Nat}{i:X}{d:List α}(f:Cm cells sub ok e size c n i d)(O:n<=c.heap.size)(z:Fr (Dl sub i d) c w1)(K:c.heap.size<=w1.heap.size){x:α}(M:ok w1 x)(l:∀a∈sub x,c.heap.size<=a/\a<w1.heap.size)(G:(sub x).Nodup)(k:w1.grownBy j i.ownBlock){b o s:Nat}(E:o=L d+1)(q:i.ownBlock=I b\/b=w1.heap.size)(U:b<j.heap.size)(H:j.ownsRow 0 e size (W (I ⟨b,0,N⟩) o s) o (d.flatMap cells++cells x)):Cm cells sub ok e size j n (W (I ⟨b,0,N⟩) o s) (d++[x]):=by
 subst E;have m:∀a∈d.flatMap sub,n<=a/\a<c.heap.size/\i.ownBlock≠I a:=by
  intro a hb;have g:=f.rg a (Aj _ hb);refine⟨g.1,g.2,λe=>?_⟩;exact(AY.1 f.nd).2.2 a (Ca.2 e) a hb rfl
 have u:∀a∈sub x,i.ownBlock≠I a:=λa hb e=>by
  have g:=f.rg a (Ad _ (Ca.2 e));have w:=l a hb;omega
 have D:b∉sub x:=λhb=>by
  rcases q with e|e
  ·exact u b hb e
  ·have:=l b hb;omega
 have B:b∉d.flatMap sub:=λhb=>by
  rcases q with e|e
  ·exact(m b hb).2.2 e
  ·have:=m b hb;omega
 refine⟨?_,λp h=>?_,?_,λa hb=>?_⟩
 ·rw[Aw,AH];simpa using H
 ·rcases Ag.1 h with h|h
  ·refine v c j p (f.it p h) (Ay K k.size) λa hb=>?_;have t:=AU.2 ⟨p,h,hb⟩;have g:=m a t;rw[k.block a O1 (λe=>g.2.2 e.symm)];exact z a (Aj _ t)
  ·obtain rfl:=Ax.1 h;refine v w1 j p M k.size λa hb=>k.block a (l a hb).2 (λe=>u a hb e.symm)
 ·unfold Dl;rw[EV,AH,AD,Axl,A6,Ayy,Axj,Ag,AY];refine⟨λhb=>hb.elim B D,(AY.1 f.nd).2.1,G,λr y a hb e=>?_⟩;subst e;have g:=m r y;have w:=l r hb;omega
 ·unfold Dl at hb;rw[EV,AH,AD,Axl,A6]at hb;have Y:=k.size;rcases Ag.1 hb with hb|hb
  ·obtain rfl:=Ax.1 hb;rcases q with e|e
   ·have:=f.rg a (Ad _ (Ca.2 e));omega
   ·omega
  ·rcases Ag.1 hb with hb|hb
   ·have:=m a hb;omega
   ·have:=l a hb;omega
end
def Gs(a:Co):List X:=[V C a.tag,V C a.BU]
def Gx(b:BJ×X):List X:=[V C b.1.op,V C b.1.a,b.2]
abbrev Hb:=List (BJ×X)
theorem U6(d:n.ownsRow 0 wp w p s wj):(p=W N 0 0/\s=0)\/∃a c,p=W (I ⟨a,0,N⟩) s c/\a<n.heap.size/\∀b,b<s*w->n.cell? ⟨a,b,N⟩=wj[b]?:=by
 rcases d.2 with⟨g,h⟩|⟨a,c,f,rfl,hb,i,j⟩
 ·grind
 ·exact Axf ⟨a,c,rfl,(Yu d).1,λb e=>d.cellAt b e⟩
structure AF (X:List Nat) (a b:Q):Prop where
 os:b.os=a.os
 tape:b.tape=a.tape
 output:b.output=a.output
 size:a.heap.size<=b.heap.size
 block:∀k,k<a.heap.size->k∉X->b.heap[k]?=a.heap[k]?
theorem AF.bW{X:List Nat}(a:Ow n q):AF X n q:=⟨a.os,a.tape,a.output,a.size,λc b _=>a.block c b⟩
theorem AF.refl{b:List Nat}{a:Q}:AF b a a:=.bW (Ae _ _)
theorem AF.trans{d f:List Nat}{e h i:Q}(b:AF d e h)(c:AF f h i)(j:∀a∈f,a∈d\/e.heap.size<=a):AF d e i:=
 ⟨c.os.trans b.os,c.tape.trans b.tape,c.output.trans b.output,Ay b.size c.size,λa hb g=>(c.block a (Am hb b.size) λk=>(j a k).elim g O1).trans (b.block a hb g)⟩
theorem AF.then{X:List Nat}(a:AF X n q)(hb:Ow q Y):AF X n Y:=a.trans (AF.bW (X:=[]) hb) λ_ hb=>by cases hb
theorem AF.mono(a:AF t n q)(g:∀c∈t,c∈n8):AF n8 n q:=⟨a.os,a.tape,a.output,a.size,λb e d=>a.block b e λf=>d (g b f)⟩
theorem AF.set{b j:Nat}(a:AF t n q)(hb:b∈t\/n.heap.size<=b)(u:X):AF t n (q.setCell ⟨b,j,N⟩ u):=
 ⟨a.os,a.tape,a.output,by simpa using a.size,λe d c=>(AA _ _ _ _ O6).trans (a.block e d c)⟩
theorem AF.low(a:AF t n q)(d:∀b∈t,w<=b)(g:w<=n.heap.size):Below w n q:=⟨a.os,a.tape,a.output,a.size,λc e=>a.block c O1 λf=>O6⟩
theorem AF.cell{b:List Nat}{d e:Q}{c:X}(f:AF b d e){a:Addr}(h:d.cell? a=I c)(g:a.block∉b):e.cell? a=I c:=by
 rwa[Ak (f.block a.block (AL h) g)]
theorem AF.drew(a:AF t n q):AF t n q.drew:=⟨a.os,a.tape,a.output,a.size,a.block⟩
def GH(c:Q)(b:Nat):Prop:=∃a:Obj,c.heap[b]?=I a/\a.isCells=true
theorem GH.fr(b:GH n w)(a:q.heap[w]?=n.heap[w]?):GH q w:=by
 let ⟨e,c,d⟩:=b
 exact⟨e,by rw[a];exact c,d⟩
theorem GH.ce{b:Q}{n:Nat}(c:b.ownsRow 0 wp w p n wj){a:Nat}(hb:a∈vB p):GH b a:=by
 rcases c.2 with⟨rfl,-⟩|⟨g,e,f,rfl,-,d,-⟩
 ·cases hb
 ·obtain rfl:=Ax.1 hb;exact⟨_,d,rfl⟩
theorem GH.ne(c:GH n w)(g:∀b,x2=I b->∃a,n.heap[b]?=I a/\a.isCells=false):I w≠x2:=λd=>by
 let ⟨a,f,e⟩:=c
 grind
structure As where
 b:List Nat
 h:Q->Prop
 c:∀{w:Q},h w->∀{k},k∈b->GH w k
 k:∀{w w':Q},h w->w.heap.size<=w'.heap.size->Fr b w w'->h w'
def fp(a:List As):List Nat:=a.flatMap As.b
structure Sp (b:Nat) (a:Q) (L:List As):Prop where
 z:b<=a.heap.size
 h:∀A∈L,A.h a
 nd:(fp L).Nodup
 rg:∀k∈fp L,b<=k/\k<a.heap.size
variable{wg:List As}
theorem Sp.fr(a:Sp w n wg)(g:n.heap.size<=q.heap.size)(e:Fr (fp wg) n q):Sp w q wg:=
 ⟨by have:=a.z;omega,λb c=>b.k (a.h b c) g λd hb=>e d (AU.2 ⟨b,c,hb⟩),a.nd,λk f=>by have:=a.rg k f;omega⟩
theorem Sp.bG{c:Nat}{w:Q}(b:Sp c w wg)(hb:Ow w n):Sp c n wg:=b.fr hb.size λa d=>hb.block a (b.rg a d).2
theorem Sp.turn(a:Sp w n wg){h:Option Nat}(e:n.grownBy q h)(k:∀g,h=I g->∃f,n.heap[g]?=I f/\f.isCells=false):Sp w q wg:=a.fr e.size λd hb=>by
 let ⟨b,i,j⟩:=AU.1 hb
 exact e.block d (a.rg d hb).2 (GH.ne (b.c (a.h b i) j) k)
variable{sh:As}
theorem Sp.cD{L1:List As}{A':As}(e:Sp w n (L1++sh::wg))(h:AF sh.b n q)(l:A'.h q)(p:A'.b.Nodup)(hb:∀a∈A'.b,(a∈sh.b\/n.heap.size<=a)/\a<q.heap.size):Sp w q (L1++A'::wg):=by
 have o:=e.z;have k:=h.size
 have i:=e.nd;have j:=e.rg
 simp[fp,AH,AD,AY,Ag]at i j;have g:∀c∈L1++wg,∀a∈c.b,a∉sh.b/\a<n.heap.size:=λc f a d=>by
  grind
 have m:∀c∈L1++wg,c.h q:=λc f=>c.k (e.h c O6) k λa d=>h.block a (g c f a d).2 (g c f a d).1;refine⟨O1,λc f=>?_,?_,λa d=>?_⟩
 ·grind
 ·simp[fp,AH,AD,AY,Ag];grind
 ·simp[fp,AH,AD,Ag]at d;grind
theorem Sp.same{L1 L2:List As}{A A':As}(a:Sp w n (L1++A::L2))(g:A'.b=A.b)(h:A'.h n):Sp w n (L1++A'::L2):=by
 have f:fp (L1++A'::L2)=fp (L1++A::L2):=by simp[fp,g]
 refine⟨a.z,λd e=>?_,f▸a.nd,f▸a.rg⟩;simp at e;rcases e with c|rfl|c
 ·exact a.h d (by simp[c])
 ·exact h
 ·exact a.h d (by simp[c])
theorem Sp.mem{A:As}(a:Sp w n wg)(b:A∈wg):A.h n:=a.h A b
variable{ng:List As}{yn:As}
theorem Ase(hb:∀a∈yn.b,a∈sh.b\/v8 a):∀a∈fp (wg++yn::ng),a∈fp (wg++sh::ng)\/v8 a:=λa c=>by
 simp[fp]at c ⊢;grind
theorem IM{A:As}(a:A∈wg)(c:w∈A.b):w∈fp wg:=AU.2 ⟨A,a,c⟩
abbrev pA(c:A0)(g:Nat)(b:X)(f:Nat)(i:List X):As:=⟨vB b,λh=>h.ownsRow 0 c g b f i,λa _ e=>.ce a e,λa _ d=>G5 a d⟩
theorem Hs(a:X):(vB a).Nodup:=by unfold vB;grind
structure Bz (f:Nat) (d:Q) (a:List As) (e:Q) (c:List As):Prop where
 af:AF (fp a) d e
 s:Sp f e c
 nb:∀b∈fp c,b∈fp a\/d.heap.size<=b
structure DQ (d:Q) (e:A0) (g:Nat) (b:X) (c:X) (f:Nat) (h:List X) (a:Q):Prop where
 own:a.ownsRow 0 e g c f h
 af:AF (vB b) d a
 nb:∀k∈vB c,(k∈vB b\/d.heap.size<=k)/\k<a.heap.size
theorem Sp.ca{L:List As}(a:Sp w n L):Bz w n L n L:=⟨.refl,a,λ_ a=>.inl a⟩
theorem Bz.bG{c:Nat}{w w1 d:Q}{b L1:List As}(a:Bz c w b w1 L1)(hb:Ow w1 d):Bz c w b d L1:=⟨a.af.then hb,a.s.bG hb,a.nb⟩
theorem Bz.cD{k:Nat}{l f d:Q}{g L1 h:List As}{e A':As}(a:Bz k l g f (L1++e::h))(j:AF e.b f d)(m:A'.h d)(p:A'.b.Nodup)(hb:∀b∈A'.b,(b∈e.b\/f.heap.size<=b)/\b<d.heap.size):Bz k l g d (L1++A'::h):=by
 have q:=a.af.size;refine⟨a.af.trans j λc hb=>a.nb c (IM O2 hb),a.s.cD j m p hb,λc o=>?_⟩;rcases Ase (λb n=>(hb b n).1) c o with i|i
 ·exact a.nb c i
 omega
theorem Bz.same{e:Nat}{f b:Q}{c L1 L2:List As}{A A':As}(a:Bz e f c b (L1++A::L2))(d:A'.b=A.b)(h:A'.h b):Bz e f c b (L1++A'::L2):=⟨a.af,a.s.same d h,λg i=>a.nb g (by simpa[fp,d]using i)⟩
theorem Bz.set{g:Nat}{h d:Q}{e L1 L2:List As}{A A':As}(f:Bz g h e d (L1++A::L2)){b j:Nat}{u:X}(a:A.b=[b])(c:A'.b=[b])(i:A'.h (d.setCell ⟨b,j,N⟩ u)):Bz g h e (d.setCell ⟨b,j,N⟩ u) (L1++A'::L2):=
 f.cD (AF.refl.set (.inl (by simp[a])) _) i (by simp[c]) λk l=>⟨.inl (by rwa[a,<-c]),by simpa using(f.s.rg k (IM (A:=A) O2 (by rwa[a,<-c]))).2⟩
theorem Bz.cO{L1:List As}{n':Nat}{xs':List X}(c:Bz w n wg q (L1++pA s b p j wj::ng))(a:DQ q s b p y n' xs' Y):Bz w n wg Y (L1++pA s b y n' xs'::ng):=c.cD a.af a.own (Hs _) a.nb
theorem Bz.frame{M:List As}(e:Bz w n wg q ng)(i:Sp w n (M++wg)):Bz w n (M++wg) q (M++ng):=by
 have o:=e.af.size;have j:=i.nd;have l:=i.rg
 simp only[fp,AH,AY,Ag]at j l;have h:∀b∈M,∀d∈b.b,d∉fp wg/\d<n.heap.size:=λb c d a=>⟨λg=>j.2.2 d (AU.2 ⟨b,c,a⟩) d g rfl,(l d (.inl (AU.2 ⟨b,c,a⟩))).2⟩;refine⟨e.af.mono λf hb=>by simp only[fp,AH,Ag];exact .inr hb,⟨e.s.z,λb c=>?_,?_,λd a=>?_⟩,λf hb=>?_⟩
 ·rcases Ag.1 c with c|c
  ·exact b.k (i.h b (Ad _ c)) o λd a=>e.af.block d (h b c d a).2 (h b c d a).1
  ·exact e.s.h b c
 ·simp only[fp,AH,AY];refine⟨j.1,e.s.nd,λk m f hb g=>?_⟩;subst g;let ⟨b,c,a⟩:=AU.1 m
  exact(e.nb k hb).elim (h b c k a).1 O6
 ·simp only[fp,AH,Ag]at a;rcases a with a|a
  ·grind
  ·exact e.s.rg d a
 ·simp only[fp,AH,Ag]at hb ⊢;rcases hb with hb|hb
  ·exact .inl (.inl hb)
  ·exact(e.nb f hb).imp .inr id
theorem Sp.right{M:List As}(a:Sp w n (M++wg)):Sp w n wg:=
 ⟨a.z,λb c=>a.h b (Aj _ c),by have:=a.nd;simp[fp,AY]at this;exact this.2.1,λe d=>a.rg e (by simp only[fp,AH,Ag];exact .inr d)⟩
theorem Bz.box{A:As}(c:Bz w n wg q ng)(h:Obj)(e:A.b=[q.heap.size])(j:A.h (q.alloc h)):Bz w n wg (q.alloc h) (A::ng):=by
 have hb:Ow q (q.alloc h):=bA;have d:=c.bG hb;have k:=c.af.size;have l:=c.s.z
 refine⟨d.af,⟨d.s.z,λi f=>?_,?_,λg a=>?_⟩,λg a=>?_⟩
 ·rcases AX.1 f with rfl|f
  ·exact j
  ·exact d.s.h i f
 ·simp only[fp,AD,e,Ayy,Axj];exact⟨λa=>by have:=(c.s.rg _ a).2;omega,c.s.nd⟩
 ·simp only[fp,AD,e,Ayy,AX]at a;rcases a with rfl|a
  ·simp;omega
  ·exact d.s.rg g a
 ·simp only[fp,AD,e,Ayy,AX]at a;rcases a with rfl|a
  ·omega
  ·exact d.nb g a
theorem Bz.tail(a:Bz w n wg q (sh::ng)):Bz w n wg q ng:=⟨a.af,Sp.right (M:=[sh]) a.s,λb hb=>a.nb b (by simp only[fp,AD,Ag];exact .inr hb)⟩
theorem Bz.drew{c:Nat}{d e:Q}{a b:List As}(f:Bz c d a e b):Bz c d a e.drew b:=f.bG (Ae _ _).drew
theorem Bz.trans{c:Nat}{h i j:Q}{d f:List As}{e:List As}(a:Bz c h d i f)(b:Bz c i f j e):Bz c h d j e:=⟨a.af.trans b.af a.nb,b.s,λg hb=>(b.nb g hb).elim (a.nb g) λk=>.inr (Ay a.af.size k)⟩
theorem Bz.mem{L1:List As}{A:As}(a:Bz w n wg q L1)(b:A∈L1):A.h q:=a.s.h A b
structure ET (t d:A0) (a c:Nat):Prop where
 t:Aa.underlying t=I (.slice d)
 i:∃i z,Aa.info? d=I i/\i.zero=I z/\i.size=a/\i.bytes=c/\z.cells.size=a
 s:0<a
 b:c<=1000
theorem ET.of{e:Nat}{z:X}(d:Aa.underlying w=I (.slice e))(f:(Aa.info? e).map (λa=>(a.zero,a.size,a.bytes))=I (I z,s,b))(g:z.cells.size=s)(h:0<s)(i:b<=1000):ET w e s b:=by
 let ⟨a,j,c⟩:=AB.1 f
 simp at c;exact⟨d,⟨a,z,j,c.1,c.2.1,c.2.2,g⟩,h,i⟩
theorem Atw{ty d:Nat}(k:ET w d b j){h:Q}{m:X}{e:Nat}{q:List X}(K:h.ownsRow 0 d b m e q){o a c:Nat}{f:Array X}{t:A0}{fr:Nat×Nat}(hb:h.heap[o]?=I (.cells f t fr))(ae:f.size=a*b)(v:∀ab∈f.toList,ab.oneCell'=true)(G:0<a)(H:e+a<=10000000000):
 ∃l i n,(Builtin.append_ #[w,w] ty #[m,W (I ⟨o,0,N⟩) a c]).run Aa h=.ok (W (I ⟨l,0,N⟩) (e+a) i) n/\DQ h d b m (W (I ⟨l,0,N⟩) (e+a) i) (e+a) (q++f.toList) n:=by
 let ⟨M,ac,x,y,z,B,D⟩:=k.i
 have ad:=Nat.mul_le_mul H k.b;let ⟨l,i,n,O,U,g,Y,aa⟩:=run_append_lies h w ty 0 d M ac b j k.t x y z B D k.s m e q K ⟨o,0,N⟩ a c f.toList O1 (A5 hb) v G O8 O1 (Ai _) _ rfl
 refine⟨l,i,n,O,U,⟨g.os,g.tape,g.output,g.size,λr p E=>g.block r p λd=>E (Ca.2 d.symm)⟩,λr p=>?_⟩;obtain rfl:=Ax.1 p;exact⟨Y.imp Ca.2 λu=>Ayn u.symm,aa⟩
theorem Aap(q:ET w s b j){h:Q}{k:X}{d:Nat}{o:List X}(B:h.ownsRow 0 s b k d o){l a c:Nat}{f:Array X}{p:A0}{fr:Nat×Nat}(hb:h.heap[l]?=I (.cells f p fr)){m n:Operand}(z:nl.op=.call {callee:=.builtin .append,args:=#[m,n],argTypes:=#[w,w]})(E:ws.eval m=k)(G:ws.eval n=W (I ⟨l,0,N⟩) a c)(v:f.size=a*b)(t:∀H∈f.toList,H.oneCell'=true)(x:0<a)(y:d+a<=10000000000)(r:∀g e i,DQ h s b k (W (I ⟨g,0,N⟩) (d+a) e) (d+a) (o++f.toList) i->v6 (ws.put nl.dst (W (I ⟨g,0,N⟩) (d+a) e)) i):nl.wp Aa ws h v6 nh:=by
 let ⟨g,e,i,D,u⟩:=Atw (ty:=nl.type) (c:=c) q B hb v t x y
 unfold Oper.wp execOp;simp only[z,resolve,invoke,builtin,Sem.run_bind,Sem.run_pure,Result.andThen_ok,Azy,A1,Axs,E,G,D];exact r g e i u
theorem HD{f:Nat}(p:ET w f b j){e:Q}{g:X}{a:Nat}{n:List X}(B:e.ownsRow 0 f b g a n){h m c:Nat}{d:Array X}{o:A0}{fr:Nat×Nat}(hb:e.heap[h]?=I (.cells d o fr)){s x:Operand}(D:ws.eval s=g)(E:ws.eval x=W (I ⟨h,0,N⟩) m c)(t:nl.guard=N)(z:nl.op=.call {callee:=.builtin .append,args:=#[s,x],argTypes:=#[w,w]})(u:d.size=m*b)(r:∀G∈d.toList,G.oneCell'=true)(v:0<m)(y:a+m<=10000000000)(q:∀k i l,DQ e f b g (W (I ⟨k,0,N⟩) (a+m) i) (a+m) (n++d.toList) l->v6 (ws.put nl.dst (W (I ⟨k,0,N⟩) (a+m) i)) l):if Region.wanted nl (yielded wk ws.tmps)=true then Oper.wp Aa nl ws e v6 nh else nk:=by
 rw[if_pos (by simp[Region.wanted,t])];exact Aap p B hb z D E u r v y q
theorem ID{i:Nat}(p:ET w i b j){g:Q}{k:X}{a:Nat}{n:List X}(E:g.ownsRow 0 i b k a n){l m c:Nat}{e:Array X}{o:A0}{fr:Nat×Nat}(hb:g.heap[l]?=I (.cells e o fr)){s x:Operand}(G:ws.eval s=k)(H:ws.eval x=W (I ⟨l,0,N⟩) m c)(v:nl.guard=N)(D:nl.op=.call {callee:=.builtin .append,args:=#[s,x],argTypes:=#[w,w]})(y:e.size=m*b)(r:∀K∈e.toList,K.oneCell'=true)(z:0<m)(B:a+m<=10000000000)(q:∀f d h,DQ g i b k (W (I ⟨f,0,N⟩) (a+m) d) (a+m) (n++e.toList) h->wpList Aa wk nh yo (ws.put nl.dst (W (I ⟨f,0,N⟩) (a+m) d)) h):wpList Aa wk nh (nl::yo) ws g:=
 wpList_plain v λ_ u=>Aap p E hb D G H y r z B λf d h t=>u _ _ (q f d h t)
theorem bF(a:zu (F (R #[])) n)(d:zc=.ret\/zc=.normal)(c:yp.results=#[])(b:ws.defers=[]):bodyPost w6 yp zu zc ws n:=by
 rcases d with rfl|rfl
 ·exact AZ (Azq c _ _ _) b a
 ·exact bodyPost_end (Azq c _ _ _) b a
theorem Ads(a:n.ownsRow w wp s p b wj):n.ownsRow 0 wp s p b wj:=⟨a.1,a.2.imp id λ⟨e,c,d,f,_,g⟩=>⟨e,c,d,f,Ai _,g⟩⟩
def EG(w:Q)(e:A0)(d:Nat)(f:X)(a:Nat)(xs:List X):Prop:=
 w.ownsRow 0 e d f a xs\/(∃b c g h,f=W (I ⟨b,c*d,N⟩) a g/\L h=c*d/\L xs=a*d/\w.ownsRow 0 e d (W (I ⟨b,0,N⟩) (c+a) (c+g)) (c+a) (h++xs))\/(∃b i,f=W (I ⟨b,i,N⟩) 0 0/\a=0/\xs=[]/\GH w b)
theorem EG.fr{j k:Q}{g:A0}{i h:Nat}{f:X}{l:List X}(a:EG j g i f h l)(e:Fr (vB f) j k):EG k g i f h l:=by
 rcases a with a|⟨b,m,cap,o,rfl,c,d,a⟩|⟨b,n,rfl,c,d,a⟩
 ·exact .inl (G5 a e)
 ·exact .inr (.inl ⟨b,m,cap,o,rfl,c,d,G5 a e⟩)
 ·exact .inr (.inr ⟨b,n,rfl,c,d,a.fr (e b (by simp[vB,Awu]))⟩)
theorem EG.slice{v:X}(a:EG n wp w v s wj):∃b c,v=W b s c:=by
 rcases a with a|⟨d,h,f,i,rfl,g,e,a⟩|⟨d,b,rfl,rfl,e,a⟩
 ·exact Cf a
 ·simp
 simp
theorem EG.GH(a:EG n wp w p s wj){b:Nat}(hb:b∈vB p):GH n b:=by
 rcases a with a|⟨c,g,f,i,rfl,d,e,a⟩|⟨c,h,rfl,d,e,a⟩
 ·exact .ce a hb
 ·exact .ce a (by simpa[vB,Awu]using hb)
 ·obtain rfl:b=c:=by simpa[vB,Awu]using hb
  exact a
theorem EG.at{w:Q}{e:A0}{i:Nat}{xs:List X}(b:EG w e i p s xs)(k:0<s):∃a g f,p=W (I ⟨a,g,N⟩) s f/\∀c d,xs[c]?=I d->w.cell? ⟨a,g+c,N⟩=I d:=by
 rcases b with b|⟨a,l,m,o,rfl,n,j,b⟩|⟨a,g,rfl,rfl,j,b⟩
 ·obtain⟨a,f,rfl,-⟩:=b.form k;refine⟨a,0,f,rfl,λc d h=>?_⟩;have:=b.cells rfl c d h;rwa[Addr.add_lit]at this
 ·refine⟨a,_,_,rfl,λc d h=>?_⟩;have:=b.cells rfl (l*i+c) d O6;rwa[Addr.add_lit,Bg]at this
 ·omega
theorem Ai7{P:Program}(w:Q)(o u:A0)(e:A0)(k:TypeInfo)(U:X)(b B:Nat)(z:P.underlying o=I (.slice e))(x:P.info? e=I k)(al:k.zero=I U)(G:k.size=b)(af:k.bytes=B)(am:U.cells.size=b)(aj:0<b)(O:X)(a:Nat)(xs:List X)(a2:EG w e b O a xs)(p:Addr)(g r:Nat)(i:List X)(s:(L i)=g*b)(y:∀h n,i[h]?=I n->w.cell? (p.add h)=I n)(aa:∀n∈i,n.oneCell'=true)(a0:0<g)(ae:a+g<=maxLen)(ag:(a+g)*B<=140737488355328):
 ∃c ar f l,(Builtin.append_ #[o,o] u #[O,W (I p) g r]).run P w=.ok (W (I ⟨c,ar,N⟩) (a+g) f) l/\
  EG l e b (W (I ⟨c,ar,N⟩) (a+g) f) (a+g) (xs++i)/\w.grownBy l O.ownBlock/\(O.ownBlock=I c\/w.heap.size<=c)/\c<l.heap.size:=by
 rcases a2 with v|⟨c,d,f,ac,rfl,aq,K,v⟩|⟨c,a8,rfl,rfl,rfl,v⟩
 ·obtain⟨c,f,l,q,m,j,t,M⟩:=run_append_lies (P:=P) w o u 0 e k U b B z x al G af am aj O a xs v p g r i s y aa a0 ae ag (Ai _) _ rfl;exact⟨c,0,f,l,q,.inl m,j,t.imp id (λe=>Ayn e.symm),M⟩
 ·by_cases a3:a+g<=f
  ·obtain⟨-,ak|⟨D,aC,av,ak,-,ah,aH,aD,aE,aI⟩⟩:=id v
   ·cases ak.1
   cases ak;have aF:=(A9.1 ah).1;have aG:(L i)<=(f-a)*b:=by rw[s];exact Axt _ O1
   have ay:∀h,h<L i->(w.cell? ⟨c,(d+a)*b+h,N⟩).isSome=true:=λh az=>by
    rw[cell_of_row w c _ av e (0,0) ah];have:(d+a)*b+(f-a)*b=(d+f)*b:=by rw[<-Nat.add_mul];congr 1;omega
    grind
   have ap:∀h,h<L i->w.frozen? ⟨c,(d+a)*b+h,N⟩=false:=λh az=>by simp[World.frozen?,ah]
   have ao:d*b+a*k.size=(d+a)*b:=O6;have ad:0+(d+a)*k.size=(d+a)*b:=O6;have q:=run_append_room_cells (P:=P) w o u e k z x c (d*b) a f p g r i O6 y aa a3 (by simp_all) (ao▸ap);have m:=run_append_room_cells (P:=P) w o u e k z x c 0 (d+a) (d+f) p g r i (G▸s) y aa O1 (ad▸ay) (ad▸ap);rw[ao]at q;rw[ad]at m;have a4:=v;obtain⟨ab,a9,aK,au⟩:∃ab,ab=w.setCells c ((d+a)*b) i/\ab.ownsRow 0 e b (W (I ⟨c,0,N⟩) (d+a+g) (d+f)) (d+a+g) (ac++xs++i)/\w.grownBy ab (I c):=by
    obtain⟨l,a5,a6,a7⟩:=run_append_own_spare (P:=P) w 0 o u e k b z x G c (d+a) (d+f) (ac++xs) a4 p g r i s y aa O1;rw[a5]at m;injection m with j t;exact⟨l,t,a6,a7⟩
   subst a9;refine⟨c,d*b,f,_,q,.inr (.inl ⟨c,d,f,ac,rfl,aq,?_,?_⟩),au,.inl rfl,?_⟩
   ·rw[Aw,K,s,Nat.add_mul]
   ·rwa[<-Nat.add_assoc,<-AG]
   ·have:=au.size;omega
  ·have a1:∀h n,xs[h]?=I n->w.cell? ((⟨c,d*b,N⟩:Addr).add h)=I n:=λh n H=>by
    rw[Addr.add_lit];have E:0<a:=by
     rcases Bac a with E|E
     ·rw[E,Nat.zero_mul]at K;rw[Ay9.1 K]at H;cases H
     ·exact E
    obtain⟨D,aJ,Y,aw,ax⟩:=((EG.at (w:=w) (e:=e) (xs:=xs) (.inr (.inl ⟨c,d,f,ac,rfl,aq,K,v⟩)))) E;cases aw;exact ax h n H
   obtain⟨aB,l,q,m,j⟩:=run_append_arg_grows (P:=P) w o u e k U b B z x al G af am aj ⟨c,d*b,N⟩ a f xs K a1 p g r i s y O1 ae ag;obtain⟨D,Y,rfl,t,M⟩:=m.form O1;exact⟨D,0,Y,l,q,.inl (Ads m),⟨j.os,j.tape,j.output,j.size,λan ai _=>j.block an ai O2⟩,.inr t,M⟩
 ·obtain⟨aB,l,q,m,j⟩:=run_append_arg_grows (P:=P) w o u e k U b B z x al G af am aj ⟨c,a8,N⟩ 0 0 [] O2 (λh n H=>by cases H) p g r i s y O1 ae ag;obtain⟨D,Y,rfl,t,M⟩:=m.form O1;exact⟨D,0,Y,l,q,.inl (Ads m),⟨j.os,j.tape,j.output,j.size,λan ai _=>j.block an ai O2⟩,.inr t,M⟩
structure UG (d:Q) (e:A0) (g:Nat) (b:X) (c:X) (f:Nat) (h:List X) (a:Q):Prop where
 own:EG a e g c f h
 af:AF (vB b) d a
 nb:∀k∈vB c,(k∈vB b\/d.heap.size<=k)/\k<a.heap.size
abbrev oA(c:A0)(g:Nat)(b:X)(f:Nat)(i:List X):As:=⟨vB b,λh=>EG h c g b f i,λa _ e=>a.GH e,λa _ d=>a.fr d⟩
theorem Bz.eO{L1:List As}{n':Nat}{xs':List X}(c:Bz w n wg q (L1++oA s b p j wj::ng))(a:UG q s b p y n' xs' Y):Bz w n wg Y (L1++oA s b y n' xs'::ng):=c.cD a.af a.own (Hs _) a.nb
theorem Ajy{a:Nat}(k:ET w a b j){h:Q}{n:X}{d:Nat}{t:List X}(Y:EG h a b n d t){p m c:Nat}{e:Array X}{u:A0}{fr:Nat×Nat}(hb:h.heap[p]?=I (.cells e u fr)){s x:Operand}(ab:ws.eval s=n)(ac:ws.eval x=W (I ⟨p,0,N⟩) m c)(K:nl.guard=N)(U:nl.op=.call {callee:=.builtin .append,args:=#[s,x],argTypes:=#[w,w]})(ak:e.size=m*b)(y:∀ah∈e.toList,ah.oneCell'=true)(M:0<m)(O:d+m<=10000000000)(v:∀f l i o,UG h a b n (W (I ⟨f,l,N⟩) (d+m) i) (d+m) (t++e.toList) o->v6 (ws.put nl.dst (W (I ⟨f,l,N⟩) (d+m) i)) o):if Region.wanted nl (yielded wk ws.tmps)=true then Oper.wp Aa nl ws h v6 nh else nk:=by
 rw[if_pos (by simp[Region.wanted,K])];let ⟨ad,ai,z,B,D,E,G⟩:=k.i
 have aj:=Nat.mul_le_mul O k.b;let ⟨f,l,i,o,aa,ae,g,af,ag⟩:=Ai7 h w nl.type a ad ai b j k.t z B D E G k.s n d t Y ⟨p,0,N⟩ m c e.toList O1 (A5 hb) y M O8 O1
 unfold Oper.wp execOp;simp only[U,resolve,invoke,builtin,Sem.run_bind,Sem.run_pure,Result.andThen_ok,Azy,A1,Axs,ab,ac,aa];refine v f l i o ⟨ae,⟨g.os,g.tape,g.output,g.size,λr q H=>g.block r q λa=>H (Ca.2 a.symm)⟩,λr q=>?_⟩;obtain rfl:r=f:=by simpa[vB,Awu]using q
 exact⟨af.imp Ca.2 id,ag⟩
def crP:BitVec 32:=0x04C11DB7#32
def cPr:BitVec 32:=0xEDB88320#32
def cT(a:BitVec 32):BitVec 32:=(a<<<1) ^^^ (if a.getLsbD 31 then crP else 0#32)
def cR(a:BitVec 32):BitVec 32:=(a>>>1) ^^^ (if a.getLsbD 0 then cPr else 0#32)
def Jf:Nat->BitVec 32->BitVec 32
 |0,r=>r
 |n+1,r=>cR (Jf n r)
def Hz(a:List UInt8):Nat->BitVec 32
 |0=>0xFFFFFFFF#32
 |i+1=>Jf 8 (Hz a i ^^^ BitVec.ofNat 32 (a.getD i 0).toNat)
theorem Al1(a:BitVec 32):(cR a).toNat=if a.toNat % 2=1 then (a.toNat / 2) ^^^ 3988292384 else a.toNat / 2:=by
 unfold cR;have c:a.getLsbD 0=decide (a.toNat % 2=1):=by rw[BitVec.getLsbD,Nat.testBit_zero]
 rw[BitVec.toNat_xor,BitVec.toNat_ushiftRight,c,Nat.shiftRight_eq_div_pow];by_cases b:a.toNat % 2=1
 ·simp only[b,decide_true,if_true];rfl
 ·simp[b]
def Lp(a:List UInt8):Nat:=(~~~ Hz a (L a)).toNat
theorem Agv(a:List UInt8):Lp a<4294967296:=(~~~ Hz a (L a)).isLt
theorem Yq(a:Nat)(b:a<18446744073709551616):IntKind.u64.wrap (a:Int)=(a:Int):=by
 simp only[IntKind.wrap,IntKind.signed,IntKind.bits];simp;omega
theorem Ae0(b:Oy)(a:Nat)(c:a<b.size):b.data.toList.getD a 0=b[a]:=by
 rw[List.getD,Af (by simp_all)];rfl
def GN(a:Int):Bool:=Jh a||M7 a||a==35
def FZ(b:List UInt8):Bool:=b.all λa=>GN a.toNat
def CO(a:Oy):Bool:=decide (0<a.size) && decide (a.size<=16) && Jh (a.data.toList.headD 0).toNat && FZ a.data.toList
theorem Ale(b:Oy)(a:Nat)(c:a<b.size):b.data.toList.take (a+1)=b.data.toList.take a++[b[a]]:=by
 rw[Av (by simpa using c)];rfl
theorem Ak7(b:List UInt8)(a:UInt8):FZ (b++[a])=(FZ b && GN a.toNat):=by
 simp[FZ]
theorem Avp(a:Oy)(b:Nat)(c:b<a.size)(d:GN a[b].toNat=false):FZ a.data.toList=false:=by
 have e:a[b]∈a.data.toList:=by
  have:a[b]=a.data.toList[b]'(by simpa using c):=rfl;grind
 simp only[FZ,List.all_eq_false];grind
theorem En(a:w4=ss):Ending.returned (A w4)=F (A ss):=by rw[a]
theorem Ad3(a:Oy)(b:a.size=0):CO a=false:=by simp[CO,b]
theorem Akd(a:Oy)(b:16<a.size):CO a=false:=by
 have:¬a.size<=16:=O1;simp[CO,this]
theorem Ahk(a:Oy)(b:0<a.size):a.data.toList.headD 0=a[0]:=by
 let ⟨⟨d⟩⟩:=a
 cases d with
 |nil=>simp[ByteArray.size]at b
 |cons c r=>rfl
theorem Adb(a:Oy)(b:0<a.size)(c:a.size<=16):CO a=(Jh a[0].toNat && FZ a.data.toList):=by
 rw[<-Ahk a b];simp[CO,b,c]
theorem K6(a:Oy)(l:Q)(r:a.size<=maxLen):
 Az Aa 105 #[S a] l λc d=>c=F (A (CO a))/\d=l:=by
 unfold maxLen at r;by_cases n:a.size=0
 ·go_enter func105,ntmps105;go_wp2;go_ret;exact⟨En (Ad3 a n).symm,rfl⟩
 ·by_cases p:16<a.size
  ·go_enter func105,ntmps105;go_wp2;go_ret;exact⟨En (Akd a p).symm,rfl⟩
  ·have s:((a.size:Int)==0)=false:=O6;have k:=Adb a O1 O1;have f:O9 (CO a=(Jh a[0].toNat && FZ a.data.toList)):=k;clear k;by_cases i:Jh a[0].toNat=true
   ·go_enter func105,ntmps105;go_wp2_with (first|(go_at_call 150;refine(Uz _ _).mono ?_;rintro c d ⟨rfl,rfl⟩))
    go_loop [20] (λh=>∃b:Nat,b<=a.size/\h=V C b/\O9 (FZ (a.data.toList.take b)=true)) (λh=>a.size-(intOf h).toNat)
    ·exact⟨0,Ai _,rfl,rfl⟩
    ·obtain⟨b,t,rfl,e⟩:=hrel;by_cases j:b<a.size
     ·have g:FZ (a.data.toList.take (b+1))=(FZ (a.data.toList.take b) && GN a[b].toNat):=by
       rw[Ale a b j];exact Ak7 _ _
      have m:GN a[b].toNat=false->FZ a.data.toList=false:=Avp a b j;go_wp2_with (first|(go_at_call 150;refine(Uz _ _).mono ?_;rintro c d ⟨rfl,rfl⟩)|(go_at_call 151;refine(Ail _ _).mono ?_;rintro c d ⟨rfl,rfl⟩))
      case roundEnd=>exact⟨⟨b+1,O1,rfl,by show FZ _=true;rw[g,e.o];simp_all[GN]⟩,by simp[intOf];omega⟩
      case roundEnd=>exact⟨⟨b+1,O1,rfl,by show FZ _=true;rw[g,e.o];simp_all[GN]⟩,by simp[intOf];omega⟩
      case roundEnd=>exact⟨⟨b+1,O1,rfl,by show FZ _=true;rw[g,e.o];simp_all[GN]⟩,by simp[intOf];omega⟩
      go_ret;exact⟨En (by rw[f.o,m (by simp_all[GN])];simp),rfl⟩
     ·go_wp2;go_ret;refine⟨En ?_,rfl⟩;rw[f.o,i];have:=e.o;rw[Aw5 O5]at this;simp[this]
   ·have q:Jh a[0].toNat=false:=by simpa using i
    go_enter func105,ntmps105;go_wp2_with (first|(go_at_call 150;refine(Uz _ _).mono ?_;rintro c d ⟨rfl,rfl⟩))
    go_ret;exact⟨En (by rw[f.o,q];rfl),rfl⟩
def Cy(a b:Oy):Int:=Lib.compareBytes a.data.toList b.data.toList
def Fc(a b:Oy):Bool:=!(Op.bytesLess a.toList b.toList||a.toList==b.toList)
theorem Q3:∀c d:List UInt8,Lib.compareBytes c d<0↔Op.bytesLess c d=true
 |[],[]=>by simp[Lib.compareBytes,Op.bytesLess]
 |[],_::_=>by simp[Lib.compareBytes,Op.bytesLess]
 |_::_,[]=>by simp[Lib.compareBytes,Op.bytesLess]
 |a::c,b::d=>by
  have e:=Q3 c d;simp[Lib.compareBytes,Op.bytesLess];grind
theorem SP:∀c d:List UInt8,Lib.compareBytes c d=0↔c=d
 |[],[]=>by simp[Lib.compareBytes]
 |[],_::_=>by simp[Lib.compareBytes]
 |_::_,[]=>by simp[Lib.compareBytes]
 |a::c,b::d=>by
  have e:=SP c d;simp[Lib.compareBytes];grind
theorem Sq:∀c d:List UInt8,Lib.compareBytes c d=-Lib.compareBytes d c
 |[],[]=>rfl
 |[],_::_=>rfl
 |_::_,[]=>rfl
 |a::c,b::d=>by
  have e:=Sq c d;simp[Lib.compareBytes];grind
theorem WO:∀f d e:List UInt8,Op.bytesLess f d=true->Op.bytesLess d e=true->Op.bytesLess f e=true
 |_,[],e=>by simp[Op.bytesLess]
 |[],b::d,[]=>nofun
 |[],b::d,c::e=>by simp[Op.bytesLess]
 |a::f,b::d,[]=>nofun
 |a::f,b::d,c::e=>by
  have g:=WO f d e;simp[Op.bytesLess,Bab,decide_eq_true_eq,beq_iff_eq];grind
theorem Og(a b:Oy):Fc a b=true↔Cy b a<0:=by
 unfold Fc Cy;rw[Sq,Axe,Axe];have c:=Q3 a.data.toList b.data.toList;have d:=SP a.data.toList b.data.toList;grind
theorem L0{a b c:Oy}(d:Cy a b<0)(e:Cy b c<0):Cy a c<0:=by
 unfold Cy at*;rw[Q3]at*;exact WO _ _ _ d e
theorem KQ(a b:Oy):Cy a b=0↔a=b:=by
 unfold Cy;rw[SP];constructor
 ·let ⟨⟨c⟩⟩:=a
  simp_all
 grind
theorem N0(a b:Oy):Cy a b=-Cy b a:=Sq _ _
theorem le_eq(a b:Oy):(Op.bytesLess a.toList b.toList||a.toList==b.toList)=!Fc a b:=by simp[Fc]
def IB(a:List Dv):Prop:=∀b c (d:b<L a) (e:c<L a),b<c->Cy a[b].Bo a[c].Bo<0
def Gv(a:List Dv)(b:Oy):Bool:=a.any λc=>decide (Cy c.Bo b=0)
theorem Atu(a:List Dv)(c:Oy)(b:Nat)(e:b<L a)(d:Cy a[b].Bo c=0):Gv a c=true:=by
 simp[Gv,List.any_eq_true];grind
theorem Zo(a:List Dv)(c:Oy)(e:∀b (g:b<L a),Cy a[b].Bo c≠0):Gv a c=false:=by
 simp[Gv,Ax9];intro i d;obtain⟨h,f,rfl⟩:=Azt.1 d;grind
def I2(b:List Dv)(c:Oy)(e f:Nat):Prop:=(∀a (d:a<L b),a<e->Cy b[a].Bo c<0)/\∀a (d:a<L b),f<=a->¬Cy b[a].Bo c<0
theorem I2.left(g:IB vs)(f:b<L vs)(h:I2 vs m w s)(c:Cy vs[b].Bo m<0):I2 vs m (b+1) s:=by
 refine⟨λa e i=>?_,h.2⟩;by_cases d:a=b
 ·subst d;exact c
 ·exact L0 (g a b e f O1) c
theorem I2.right(g:IB vs)(e:b<L vs)(h:I2 vs m w s)(d:¬Cy vs[b].Bo m<0):I2 vs m w b:=by
 refine⟨h.1,λa c j f=>?_⟩;by_cases i:b=a
 ·grind
 ·exact d (L0 (g b a e c O1) f)
theorem I2.found(h:IB vs)(c:w<L vs)(e:I2 vs m w w):Gv vs m=(Cy vs[w].Bo m==0):=by
 by_cases b:Cy vs[w].Bo m=0
 ·rw[Atu vs m w c b];simp[b]
 ·rw[Zo vs m ?_]
  ·simp[b]
  ·intro a d i;have k:=e.2 w c .refl;by_cases g:a<w
   ·have:=e.1 a d g;omega
   ·by_cases j:a=w
    ·grind
    ·have f:=h w a c d O1;rw[(KQ _ _).1 i]at f;omega
theorem I2.none{i:Nat}(c:¬i<L vs)(b:I2 vs m i i):Gv vs m=false:=
 Zo vs m λk a=>by have:=b.1 k a O1;omega
abbrev Rd(a:Type):=Except (Nat×Nat) (a×Nat)
structure EF (E:Nat) (a b:Q):Prop where
 os:b.os=a.os
 tape:b.tape=a.tape
 output:b.output=a.output
 size:a.heap.size<=b.heap.size
 block:∀k,k<a.heap.size->k≠E->b.heap[k]?=a.heap[k]?
theorem EF.refl(b:Nat)(a:Q):EF b a a:=⟨rfl,rfl,rfl,Ac _,λ_ _ _=>rfl⟩
theorem EF.trans{c:Nat}{f g h:Q}(a:EF c f g)(b:EF c g h):EF c f h:=
 ⟨b.os.trans a.os,b.tape.trans a.tape,b.output.trans a.output,Ay a.size b.size,λd hb e=>(b.block d (Am hb a.size) e).trans (a.block d hb e)⟩
theorem EF.bW{E:Nat}(a:Ow n q):EF E n q:=⟨a.os,a.tape,a.output,a.size,λc b _=>a.block c b⟩
theorem EF.set(a:EF w n q)(u:X):EF w n (q.setCell ⟨w,s,N⟩ u):=
 a.trans ⟨rfl,rfl,rfl,O2,λc _ b=>AA _ _ _ _ b⟩
theorem Cv(c:s≠b):(⟨w,s,N⟩:Addr)≠⟨w,b,N⟩:=λa=>c (congrArg Addr.off a)
theorem Ajr(a:D=nf):Ending.returned (V yq D)=F (V yq nf):=by rw[a]
def CF(a:Nat):Bool:=a==32||a==10
def Cz(a:Nat):Bool:=a==40||a==41
theorem T4(a:Nat):CF a=true↔a=32\/a=10:=by simp[CF]
theorem Po(a:Nat):Cz a=true↔a=40\/a=41:=by simp[Cz]
def BF(b:Oy)(a:Nat):Nat:=if h:a<b.size then (if CF b[a].toNat=true then BF b (a+1) else a) else a
termination_by b.size-a
theorem Nr(a:w<m.size)(b:CF m[w].toNat=true):BF m w=BF m (w+1):=by rw[BF,dif_pos a,if_pos b]
theorem Mh(a:w<m.size)(b:CF m[w].toNat=false):BF m w=w:=by rw[BF,dif_pos a,if_neg (by simp[b])]
theorem QV{s:Oy}{p:Nat}(a:s.size<=p):BF s p=p:=by rw[BF,dif_neg O1]
theorem PA(s:Oy):∀b p,s.size-p<=b->p<=BF s p/\(p<=s.size->BF s p<=s.size)/\(∀a:BF s p<s.size,CF s[BF s p].toNat=false)
 |0,p,hn=>by
  rw[QV O1];grind
 |b+1,p,hn=>by
  by_cases a:p<s.size
  ·cases hg:CF s[p].toNat with
   |true=>
    have c:=Nr a hg;let ⟨d,e,f⟩:=PA s b (p+1) O1
    grind
   |false=>
    have c:=Mh a hg;grind
  ·have c:=QV (s:=s) (p:=p) O1;grind
theorem Eh(b:Oy)(a:Nat):a<=BF b a:=(PA b _ a .refl).1
theorem HA(a:w<=m.size):BF m w<=m.size:=(PA m _ w .refl).2.1 a
theorem QX{s:Oy}{p:Nat}(a:BF s p<s.size):CF s[BF s p].toNat=false:=(PA s _ p .refl).2.2 a
theorem YH(a:Oy)(b:Nat):BF a (BF a b)=BF a b:=by
 by_cases c:BF a b<a.size
 ·exact Mh c (QX c)
 ·exact QV O1
def Dh(b:Oy)(a:Nat):Nat:=if h:a<b.size then (if CF b[a].toNat=true\/Cz b[a].toNat=true then a else Dh b (a+1)) else a
termination_by b.size-a
theorem Ix{s:Oy}{q:Nat}(a:q<s.size)(b:CF s[q].toNat=false)(hb:Cz s[q].toNat=false):Dh s q=Dh s (q+1):=by rw[Dh,dif_pos a,if_neg (by simp[b,hb])]
theorem Hy(a:w<m.size)(b:CF m[w].toNat=true\/Cz m[w].toNat=true):Dh m w=w:=by rw[Dh,dif_pos a,if_pos b]
theorem IH(a:m.size<=w):Dh m w=w:=by rw[Dh,dif_neg O1]
theorem Sv(b:Oy):∀c a,b.size-a<=c->a<=Dh b a/\(a<=b.size->Dh b a<=b.size)
 |0,a,hn=>by rw[IH O1];omega
 |c+1,a,hn=>by
  by_cases d:a<b.size
  ·by_cases e:CF b[a].toNat=true\/Cz b[a].toNat=true
   ·rw[Hy d e];omega
   ·rw[Ix d O6 O6];let ⟨f,g⟩:=Sv b c (a+1) O1
    omega
  ·rw[IH O1];omega
theorem LU(b:Oy)(a:Nat):a<=Dh b a:=(Sv b _ a .refl).1
theorem Awi(a:w<=m.size):Dh m w<=m.size:=(Sv m _ w .refl).2 a
def HE(b:Oy)(a:Nat):Nat:=if Dh b a=a/\a<b.size then a+1 else Dh b a
theorem Ass(b:Oy)(a:Nat):a<=HE b a:=by unfold HE;split;omega;exact LU b a
theorem UP{s:Oy}{q:Nat}(a:q<=s.size):HE s q<=s.size:=by unfold HE;split;omega;exact Awi a
theorem Tr{s:Oy}{q:Nat}(a:q<s.size):q<HE s q:=by
 unfold HE;split
 ·omega
 ·have:=LU s q;omega
def B6(b:Oy)(a:Nat):Nat:=BF b a
def BC(a:Oy)(b:Nat):Nat:=HE a (BF a b)
def Bq(a:Oy)(b:Nat):Oy:=a.extract (B6 a b) (BC a b)
theorem ZS(a:Oy)(b:Nat):B6 a (BF a b)=B6 a b:=YH a b
theorem KI(a:Oy)(b:Nat):BC a (BF a b)=BC a b:=by unfold BC;rw[YH]
theorem Lr(a:Oy)(b:Nat):Bq a (BF a b)=Bq a b:=by unfold Bq;rw[ZS,KI]
theorem Dr(a:w<=m.size):BC m w<=m.size:=UP (HA a)
theorem Av4(a:w<=m.size):B6 m w<=m.size:=HA a
theorem Pp(b:Oy)(a:Nat):B6 b a<=BC b a:=Ass _ _
theorem L9(a:w<=m.size):(Bq m w).size=BC m w-B6 m w:=by
 unfold Bq;rw[Axu];have:=Dr a;omega
theorem SR(a:B6 m w<m.size):w<BC m w:=by
 have b:=Eh m w;have c:=Tr (q:=BF m w) a;unfold BC;omega
abbrev Pr(a:Type):=Except (Nat×Nat) (a×Nat)
def pb{b c:Type}(f:Pr b)(d:b->Nat->Pr c):Pr c:=match f with|P e=>P e|.ok (a,q)=>d a q
theorem BQ(a:wa)(c:Nat)(b:wa->Nat->Pr n3):pb (.ok (a,c)) b=b a c:=rfl
theorem DR(a:Nat×Nat)(b:wa->Nat->Pr n3):pb (P a:Pr wa) b=P a:=rfl
def BS(b c:Oy)(a:Nat):Pr Unit:=if Bq b a=c then .ok ((),BC b a) else P (2,B6 b a)
structure TX (b:Q) (a:Nat) (l:Oy) (i g d k:Nat) (h e c:X):Prop where
 c0:b.cell? ⟨a,0,N⟩=I (S l)
 c1:b.cell? ⟨a,1,N⟩=I (V C (i:Int))
 c2:b.cell? ⟨a,2,N⟩=I (V C (g:Int))
 c3:b.cell? ⟨a,3,N⟩=I (V C (d:Int))
 c4:b.cell? ⟨a,4,N⟩=I (V C (k:Int))
 c5:b.cell? ⟨a,5,N⟩=I h
 c6:b.cell? ⟨a,6,N⟩=I e
 c7:b.cell? ⟨a,7,N⟩=I c
 f:∀j,j<8->b.frozen? ⟨a,j,N⟩=false
theorem MG(a:m.toList=w0.toList):m=w0:=by
 rw[Axe,Axe]at a;exact Go.WideShapes.bytes_inj a
def Kc(a:Nat):Bool:=decide (97<=a) && decide (a<=122)
def D5(a:Nat):Bool:=decide (48<=a) && decide (a<=57)
def Jz(b:Oy)(a:Nat):Bool:=if h:a<b.size then (Kc b[a].toNat||(decide (a≠0) && D5 b[a].toNat)) && Jz b (a+1) else true
termination_by b.size-a
theorem Rq(a:w<m.size):Jz m w=((Kc m[w].toNat||(decide (w≠0) && D5 m[w].toNat)) && Jz m (w+1)):=by rw[Jz,dif_pos a]
theorem Wv(a:m.size<=w):Jz m w=true:=by rw[Jz,dif_neg O1]
def Wc:List Oy:=[⟨#[109,111,100,117,108,101]⟩,⟨#[105,109,112,111,114,116]⟩,⟨#[100,101,102]⟩,⟨#[108,101,116]⟩,⟨#[108,101,116,114,101,99]⟩,⟨#[99,111,110]⟩,⟨#[99,97,115,101]⟩]
def NP(c:Oy)(a:Nat):Bool:=(Wc.drop a).any λb=>decide (c=b)
def CQ(a:Oy):Bool:=Jz a 0 && !NP a 0 && decide (0<a.size) && decide (a.size<=10)
def Em(b:Oy)(a:Nat):Pr (Oy×Nat):=if CQ (Bq b a)=true then .ok ((Bq b a,B6 b a),BC b a) else P (2,B6 b a)
def I4(a:Oy)(b c:Nat):Option Nat:=if h:b<a.size then (if D5 a[b].toNat=true then I4 a (b+1) (10*c+(a[b].toNat-48)) else N) else I c
termination_by a.size-b
theorem Ain(a:w<m.size)(b:D5 m[w].toNat=true):I4 m w s=I4 m (w+1) (10*s+(m[w].toNat-48)):=by rw[I4,dif_pos a,if_pos b]
theorem Aet(a:w<m.size)(b:D5 m[w].toNat=false):I4 m w s=none:=by rw[I4,dif_pos a,if_neg (by simp[b])]
theorem Y7(a:m.size<=w):I4 m w s=I s:=by rw[I4,dif_neg O1]
def HJ(a:Oy):Bool:=match a[0]? with|some b=>decide (b.toNat=45)|none=>false
def G1(a:Oy):Bool:=match a[0]? with|some b=>decide (b.toNat=48)|none=>false
def CB(a:Oy):Oy:=if HJ a=true then a.extract 1 a.size else a
def Ej(a:Oy):Option Int:=
 if (CB a).size=0\/(G1 (CB a)=true/\¬a=⟨#[48]⟩)\/19<(CB a).size then N else
  match I4 (CB a) 0 0 with
  |none=>N
  |some b=>if HJ a=true then (if b<=9223372036854775808 then I (-(b:Int)) else N) else (if b<9223372036854775808 then I (b:Int) else N)
def D8(b:Oy)(c:Nat)(a:Nat):Pr (Nat×Nat):=match Ej (Bq b a) with
 |some v=>if 0<=v/\v<=(c:Int) then .ok ((v.toNat,B6 b a),BC b a) else P (2,B6 b a)
 |none=>P (2,B6 b a)
def CV(d:Oy)(b:List Oy)(a:Nat):Bool:=(b.drop a).any λc=>decide (c=d)
abbrev Bs:=List (Oy×Nat)
def DP(a:Oy):Nat->Bs->Nat->Pr Bs
 |0,_,p=>P (2,p)
 |f+1,got,p=>if Bq a p=⟨#[41]⟩ then .ok (got,BC a p) else pb (Em a p) λb c=>if CV b.1 (got.map (·.1)) 0=true then P (5,b.2) else DP a f (got++[b]) c
def FN(a:Oy)(b:Nat):Pr Bs:=pb (BS a ⟨#[40]⟩ b) λ_ c=>DP a (a.size+1) [] c
theorem Pj:CQ ⟨#[]⟩=false:=by unfold CQ;rw[show(decide (0<(⟨#[]⟩:Oy).size))=false from rfl];simp
theorem Arr(b:w<=m.size)(a:Em m w=.ok (n0,s)):w<s/\s<=m.size/\n0=(Bq m w,B6 m w)/\s=BC m w:=by
 unfold Em at a;split at a
 ·rename_i d
  simp[Except.ok.injEq]at a;obtain⟨rfl,rfl⟩:=a;refine⟨?_,Dr b,rfl,rfl⟩;refine SR ?_;rcases Aw8 (B6 m w) m.size with c|c
  ·exact c
  ·have e:Bq m w=⟨#[]⟩:=by
    apply Axv;apply Ayf;have f:=L9 b;have g:=Dr b;show(Bq m w).size=0;omega
   rw[e,Pj]at d;cases d
 ·cases a
inductive Ex where
 |num (n:Int)
 |Bo (g:Bool) (t:Oy) (pl:Nat)
 |call (parts:List Ex)
 |lets (r:Bool) (ns:Bs) (es:List Ex) (body:Ex)
 |CE (tag:Nat) (fs:List Ex)
 |case (e:Ex) (F5:List (Nat×Bs×Ex))
 |op (k:Nat) (l r:Ex)
def B8:Oy:=⟨#[40]⟩
def BO:Oy:=⟨#[41]⟩
def Ny:Oy:=⟨#[108,101,116]⟩
def MJ:Oy:=⟨#[108,101,116,114,101,99]⟩
def M0:Oy:=⟨#[99,111,110]⟩
def Nq:Oy:=⟨#[99,97,115,101]⟩
def OX:List Oy:=[⟨#[43]⟩,⟨#[45]⟩,⟨#[42]⟩,⟨#[47]⟩,⟨#[61]⟩,⟨#[60]⟩]
def G9(b:Oy):Option Nat:=OX.findIdx? λa=>decide (b=a)
def DF(b:Oy)(a:Nat):Pr Ex:=
 if CQ (Bq b a)=true then .ok (.Bo false (Bq b a) (B6 b a),BC b a) else
  match Ej (Bq b a) with
  |some v=>.ok (.num v,BC b a)
  |none=>P (2,B6 b a)
section
variable (s:Oy) (E:Nat->Pr Ex)
def Eo:Nat->List Ex->Nat->Pr (List Ex)
 |0,_,p=>P (2,p)
 |f+1,got,p=>if Bq s p=BO then .ok (got,BF s p) else pb (E p) λa b=>Eo f (got++[a]) b
def EZ:Nat->List Ex->Nat->Pr (List Ex)
 |0,_,p=>P (2,p)
 |f+1,got,p=>if Bq s p=BO then .ok (got,BF s p) else if L got=20 then P (3,B6 s p) else pb (E p) λa b=>EZ f (got++[a]) b
def Fs:Nat->Bs->List Ex->Nat->Pr (Bs×List Ex)
 |0,_,_,p=>P (2,p)
 |f+1,ns,es,p=>pb (BS s B8 p) λ_ d=>pb (Em s d) λa e=>if CV a.1 (ns.map (·.1)) 0=true then P (5,a.2) else
  pb (E e) λc g=>pb (BS s BO g) λ_ b=>if Bq s b=BO then .ok ((ns++[a],es++[c]),BF s b) else Fs f (ns++[a]) (es++[c]) b
def Fm:Nat->List (Nat×Bs×Ex)->Nat->Pr (List (Nat×Bs×Ex))
 |0,_,p=>P (2,p)
 |f+1,got,p=>pb (BS s B8 p) λ_ g=>pb (D8 s 255 g) λa h=>if got.any (λe=>decide (e.1=a.1))=true then P (5,a.2) else
  pb (FN s h) λd i=>pb (E i) λc j=>pb (BS s BO j) λ_ b=>if Bq s b=BO then .ok (got++[(a.1,d,c)],BF s b) else Fm f (got++[(a.1,d,c)]) b
def EN(h:Bool)(c:Nat):Pr Ex:=pb (BS s B8 c) λ_ d=>pb (Fs s E (s.size+1) [] [] d) λa e=>pb (BS s BO e) λ_ f=>pb (E f) λb g=>.ok (.lets h a.1 a.2 b,g)
def Gy(b:Nat):Pr Ex:=pb (D8 s 255 b) λe c=>pb (EZ s E (s.size+1) [] c) λa d=>.ok (.CE e.1 a,d)
def G3(c:Nat):Pr Ex:=pb (E c) λa d=>pb (Fm s E (s.size+1) [] d) λb e=>.ok (.case a b,e)
def Hg(b:Nat):Pr Ex:=pb (E b) λf c=>pb (E c) λg d=>pb (Eo s E (s.size+1) [f,g] d) λa e=>.ok (.call a,e)
def Dw(a:Nat):Pr Ex:=
 match G9 (Bq s a) with
 |some k=>pb (E (BC s a)) λb c=>pb (E c) λe d=>.ok (.op k b e,d)
 |none=>
  if Bq s a=Ny then EN s E false (BC s a)
  else if Bq s a=MJ then EN s E true (BC s a)
  else if Bq s a=M0 then Gy s E (BC s a)
  else if Bq s a=Nq then G3 s E (BC s a)
  else Hg s E a
end
def pE(a:Oy):Nat->Nat->Pr Ex
 |0,p=>if Bq a p=B8 then P (3,B6 a p) else DF a p
 |d+1,p=>if Bq a p=B8 then pb (Dw a (pE a d) (BC a p)) λb c=>pb (BS a BO c) λ_ e=>.ok (b,e) else DF a p
theorem Bp{d:Pr wa}{g:wa->Nat->Pr n3}{f:n3}(a:pb d g=.ok (f,w)):∃b c,d=.ok (b,c)/\g b c=.ok (f,w):=by
 match d,a with
 |.ok (b,c),a=>exact⟨b,c,rfl,a⟩
 |P e,a=>cases a
def Ey{g:Type}(c:Oy)(f:Nat->Pr g)(e:Nat):Prop:=∀a,a<=c.size->∀d b,f a=.ok (d,b)->a+e<=b/\b<=c.size
theorem H7(a:w<=m.size)(c:Bq m w≠⟨#[]⟩):w+1<=BC m w/\BC m w<=m.size:=by
 refine⟨?_,Dr a⟩;refine SR ?_;rcases Aw8 (B6 m w) m.size with b|b
 ·exact b
 ·exfalso;apply c;apply Axv;apply Ayf;have d:=L9 a;have e:=Dr a;show(Bq m w).size=0;omega
theorem Cl(d:w0≠⟨#[]⟩):Ey m (BS m w0) 1:=by
 intro f c e g a;unfold BS at a;split at a
 ·rename_i b
  cases a;exact H7 c (b▸d)
 ·cases a
theorem HY:Ey m (Em m) 1:=λe b g f a=>by
 obtain⟨c,d,-⟩:=Arr b a;omega
theorem P6:Ej ⟨#[]⟩=none:=rfl
theorem Ic:Ey m (D8 m w) 1:=by
 intro e d g f a;have c:Bq m e≠⟨#[]⟩:=λb=>by
  unfold D8 at a;rw[b,P6]at a;cases a
 unfold D8 at a;split at a
 ·split at a
  ·cases a;exact H7 d c
  ·cases a
 ·cases a
theorem Aed:Ey m (DF m) 1:=by
 intro e c g f a;have b:Bq m e≠⟨#[]⟩:=λd=>by
  unfold DF at a;rw[d,P6,Pj]at a;simp at a
 unfold DF at a;split at a
 ·cases a;exact H7 c b
 ·split at a
  ·cases a;exact H7 c b
  ·cases a
theorem T7{j:Oy}:∀b e,Ey j (DP j b e) 1
 |0,_=>λg _ d h a=>by cases a
 |b+1,e=>λg f d h a=>by
  rw[DP]at a;split at a
  ·rename_i l
   cases a;exact H7 f (by rw[l];decide)
  ·let ⟨n,i,k,c⟩:=Bp a
   have m:=HY g f n i k;split at c
   ·cases c
   ·have o:=T7 b _ i m.2 d h c;omega
theorem LJ:Ey m (FN m) 2:=by
 intro h f b i c;let ⟨j,a,d,e⟩:=Bp c
 have g:=Cl O4 h f j a d;have k:=T7 _ _ a g.2 b i e;omega
section
variable {s:Oy} {E:Nat->Pr Ex} (hE:Ey s E 1)
include hE
theorem R5:∀b e,Ey s (Eo s E b e) 0
 |0,_=>λc _ d g a=>by cases a
 |b+1,e=>λc f d g a=>by
  rw[Eo]at a;split at a
  ·cases a;exact⟨Eh s c,HA f⟩
  ·let ⟨l,h,i,j⟩:=Bp a
   have k:=hE c f l h i;have m:=R5 b _ h k.2 d g j;omega
theorem RI:∀b e,Ey s (EZ s E b e) 0
 |0,_=>λc _ d g a=>by cases a
 |b+1,e=>λc f d g a=>by
  rw[EZ]at a;split at a
  ·cases a;exact⟨Eh s c,HA f⟩
  ·split at a
   ·cases a
   ·let ⟨l,h,i,j⟩:=Bp a
    have k:=hE c f l h i;have m:=RI b _ h k.2 d g j;omega
theorem Nt:∀b g e,Ey s (Fs s E b g e) 4
 |0,_,_=>λh _ d i a=>by cases a
 |b+1,g,e=>λh q d i a=>by
  let ⟨v,j,m,a⟩:=Bp a
  have r:=Cl O4 h q v j m;let ⟨w,k,n,a⟩:=Bp a
  have t:=HY j r.2 w k n;split at a
  ·cases a
  ·let ⟨x,l,o,a⟩:=Bp a
   have u:=hE k t.2 x l o;let ⟨y,c,p,a⟩:=Bp a
   have f:=Cl O4 l u.2 y c p;split at a
   ·cases a;have B:=Eh s c;have D:=HA f.2;omega
   ·have z:=Nt b _ _ c f.2 d i a;omega
theorem Qb:∀b e,Ey s (Fm s E b e) 5
 |0,_=>λg _ d h a=>by cases a
 |b+1,e=>λg r d h a=>by
  let ⟨x,i,m,a⟩:=Bp a
  have t:=Cl O4 g r x i m;let ⟨y,j,n,a⟩:=Bp a
  have u:=Ic i t.2 y j n;split at a
  ·cases a
  ·let ⟨z,k,o,a⟩:=Bp a
   have v:=LJ j u.2 z k o;let ⟨B,l,p,a⟩:=Bp a
   have w:=hE k v.2 B l p;let ⟨D,c,q,a⟩:=Bp a
   have f:=Cl O4 l w.2 D c q;split at a
   ·cases a;have H:=Eh s c;have K:=HA f.2;omega
   ·have G:=Qb b _ c f.2 d h a;omega
theorem To(o:Bool):Ey s (EN s E o) 1:=by
 intro m i u w a;let ⟨p,b,e,a⟩:=Bp a
 have j:=Cl O4 m i p b e;let ⟨q,c,f,a⟩:=Bp a
 have k:=Nt hE _ _ _ b j.2 q c f;let ⟨r,d,g,a⟩:=Bp a
 have l:=Cl O4 c k.2 r d g;let ⟨t,n,h,a⟩:=Bp a
 have v:=hE d l.2 t n h;cases a;omega
theorem Ajc:Ey s (Gy s E) 1:=by
 intro g e k m a;let ⟨i,b,c,a⟩:=Bp a
 have f:=Ic g e i b c;let ⟨j,h,d,a⟩:=Bp a
 have l:=RI hE _ _ b f.2 j h d;cases a;omega
theorem Ahe:Ey s (G3 s E) 1:=by
 intro g e k m a;let ⟨i,b,c,a⟩:=Bp a
 have f:=hE g e i b c;let ⟨j,h,d,a⟩:=Bp a
 have l:=Qb hE _ _ b f.2 j h d;cases a;omega
theorem Ah5:Ey s (Hg s E) 1:=by
 intro j g o q a;let ⟨l,b,d,a⟩:=Bp a
 have h:=hE j g l b d;let ⟨m,c,e,a⟩:=Bp a
 have i:=hE b h.2 m c e;let ⟨n,k,f,a⟩:=Bp a
 have p:=R5 hE _ _ c i.2 n k f;cases a;omega
theorem Abl:Ey s (Dw s E) 1:=by
 intro f g b d a;have c:=Dr g;have o:=Ay (Eh s f) (Pp s f);unfold Dw at a;split at a
 ·let ⟨m,h,i,a⟩:=Bp a
  have k:=hE _ c m h i;let ⟨n,l,j,a⟩:=Bp a
  have p:=hE h k.2 n l j;cases a;omega
 ·split at a
  ·have e:=To hE _ _ c b d a;omega
  ·split at a
   ·have e:=To hE _ _ c b d a;omega
   ·split at a
    ·have e:=Ajc hE _ c b d a;omega
    ·split at a
     ·have e:=Ahe hE _ c b d a;omega
     ·exact Ah5 hE f g b d a
end
theorem I9(g:Oy):∀d,Ey g (pE g d) 1
 |0=>λe b c f a=>by
  rw[pE]at a;split at a
  ·cases a
  ·exact Aed e b c f a
 |d+1=>λe b c f a=>by
  rw[pE]at a;split at a
  ·rename_i k
   have k0:=H7 b (by rw[k];decide);let ⟨n,h,i,a⟩:=Bp a
   have l:=Abl (I9 g d) _ k0.2 n h i;let ⟨o,m,j,a⟩:=Bp a
   have p:=Cl O4 h l.2 o m j;cases a;omega
  ·exact Aed e b c f a
abbrev BI:=Oy×List Oy×Ex
structure KS where
 Bj:List BJ
 Bn:Int
 Br:List (Oy×Int)
 kn:List Oy
 td:List BI
 z:Nat
def BL(c:Nat)(b:Int)(a:KS):KS:={a with Bj:=a.Bj++[⟨(c:Int),b,[]⟩],Bn:=Fp c b a.Bn,z:=a.z+1}
def Gg(b:Nat)(a:Int):Nat->KS->KS
 |0,c=>c
 |n+1,c=>BL b a (Gg b a n c)
def Cu(c:Oy)(b:List Oy):Int:=match b.findIdx? (λd=>decide (d=c)) with|some a=>(a:Int)|none=>-1
def JH(b:Oy)(a:List (Oy×Int)):Option Int:=(a.reverse.find? λc=>decide (c.1=b)).map (·.2)
def C6(b:Oy)(a:KS):KS:=match JH b a.Br with
 |some p=>BL 2 (Bf (Bf (a.Bn-1)-p)) a
 |none=>BL 1 (Cu b a.kn) a
def ER(b:Int)(a:KS):KS:=BL 5 (Bf (Bf (a.Bn-2)-b)) a
def Iv(a:Int):Nat->List Oy->List (Oy×Int)
 |_,[]=>[]
 |b,t::r=>(t,Bf (a+(b:Int)))::Iv a (b+1) r
def DM(c:Int)(b:Bs)(a:KS):KS:={a with Br:=a.Br++Iv c 0 (b.map (·.1)),z:=a.z+L b}
def CU(b:Nat)(a:KS):KS:=
 let c:={a with Br:=a.Br.take (L a.Br-b)}
 if 0<b then BL 4 (b:Int) c else c
def DE(b:BI)(a:KS):KS:={a with kn:=a.kn++[b.1],td:=a.td++[b],z:=a.z+1}
def F8(b:List Oy)(a:KS):KS:=b.foldl (λa c=>C6 c a) a
theorem Oq(a:Nat)(b:Q):Az Aa 81 #[V .u8 (a:Int)] b λc d=>c=F (A (Cz a))/\d=b:=by
 go_wp2;all_goals
  go_ret;have e:((a:Int)==40)=(a==40):=by rw[Ayw,beq_iff_eq,beq_iff_eq];omega
  have f:((a:Int)==41)=(a==41):=by rw[Ayw,beq_iff_eq,beq_iff_eq];omega
  unfold Cz;try simp_all
theorem Xf(a:Nat)(b:Q):Az Aa 82 #[V .u8 (a:Int)] b λc d=>c=F (A (CF a))/\d=b:=by
 go_wp2;all_goals
  go_ret;have e:((a:Int)==32)=(a==32):=by rw[Ayw,beq_iff_eq,beq_iff_eq];omega
  have f:((a:Int)==10)=(a==10):=by rw[Ayw,beq_iff_eq,beq_iff_eq];omega
  unfold CF;try simp_all
def Ji(a:Oy):Nat:=match a[0]? with|some b=>if Cz b.toNat=true then 1 else Dh a 0|none=>0
theorem Ad8(a:0<m.size)(hb:Cz m[0].toNat=true):Ji m=1:=by unfold Ji;grind
theorem Vu(a:0<m.size)(hb:Cz m[0].toNat=false):Ji m=Dh m 0:=by unfold Ji;grind
theorem Aq0(a:Oy)(k:Q)(i:0<a.size)(r:a.size<=2000):Az Aa 43 #[S a] k λc d=>c=F (V C (Ji a:Int))/\d=k:=by
 cases hb:Cz a[0].toNat with
 |true=>
  have e:=Ad8 i hb;go_enter func43,ntmps43;go_wp2_with (first|(go_at_call 81;refine(Oq _ _).mono ?_;rintro c d ⟨rfl,rfl⟩))
  go_ret;exact⟨by rw[e];rfl,rfl⟩
 |false=>
  have e:=O0 (Vu i hb);go_enter func43,ntmps43;go_wp2_with (first|(go_at_call 81;refine(Oq _ _).mono ?_;rintro c d ⟨rfl,rfl⟩))
  go_loop [3] (λg=>∃b,b<=a.size/\g=V C b/\O9 (Dh a b=Dh a 0)) (λg=>a.size-(intOf g).toNat)
  ·exact⟨0,Ai _,rfl,rfl⟩
  ·obtain⟨b,p,rfl,f⟩:=hrel;by_cases j:b<a.size
   ·have l:(0:Int)<=(b:Int):=O1;have m:(b:Int)<(a.size:Int):=O1;have h:=Hy j;cases hb1:Cz a[b].toNat with
    |true=>
     go_wp2_with (first|(go_at_call 81;refine(Oq _ _).mono ?_;rintro c d ⟨rfl,rfl⟩))
     go_ret;exact⟨by rw[e.o,<-f.o,h (Axf hb1)];rfl,rfl⟩
    |false=>
     cases hg1:CF a[b].toNat with
     |true=>
      go_wp2_with (first|(go_at_call 81;refine(Oq _ _).mono ?_;rintro c d ⟨rfl,rfl⟩)|(go_at_call 82;refine(Xf _ _).mono ?_;rintro c d ⟨rfl,rfl⟩))
      go_ret;exact⟨by rw[e.o,<-f.o,h (Be hg1)];rfl,rfl⟩
     |false=>
      go_wp2_with (first|(go_at_call 81;refine(Oq _ _).mono ?_;rintro c d ⟨rfl,rfl⟩)|(go_at_call 82;refine(Xf _ _).mono ?_;rintro c d ⟨rfl,rfl⟩))
      exact⟨⟨b+1,O1,by go_num,by show _=_;rw[<-(O0 (Ix (s:=a) (q:=b) j)).o hg1 hb1,f.o]⟩,by simp[intOf];omega⟩
   ·have n:¬(b:Int)<(a.size:Int):=O1;go_wp2;go_ret;exact⟨by rw[e.o,<-f.o,IH O1];rfl,rfl⟩
def CH(a:Oy)(b:Nat):List (Oy×Nat):=if _h:B6 a b<a.size then (Bq a b,B6 a b)::CH a (BC a b) else [(⟨#[]⟩,a.size)]
termination_by a.size-b
decreasing_by
 have c:=SR _h;have d:=Eh a b;unfold B6 at _h;omega
theorem Ug{p:Nat}(a:B6 m p<m.size):CH m p=(Bq m p,B6 m p)::CH m (BC m p):=by rw[CH,dif_pos a]
theorem Sx(a:¬B6 m w<m.size):CH m w=[(⟨#[]⟩,m.size)]:=by rw[CH,dif_neg a]
theorem OB(a:Oy)(b:Nat):CH a (BF a b)=CH a b:=by
 rw[CH,ZS,Lr,KI];conv=>rhs;rw[CH]
theorem Al0(a:w<m.size)(b:CF m[w].toNat=true):CH m (w+1)=CH m w:=by
 rw[<-OB m (w+1),<-OB m w,Nr a b]
theorem Aba(a:Oy)(c:Nat):CH a c≠[]:=by
 by_cases b:B6 a c<a.size
 ·rw[Ug b];simp
 ·rw[Sx b];simp
theorem VF(a:w<=m.size):∃d,CH m w=(Bq m w,B6 m w)::d/\(Bq m w≠⟨#[]⟩->d=CH m (BC m w)):=by
 by_cases c:B6 m w<m.size
 ·exact⟨_,Ug c,λ_=>rfl⟩
 ·have f:=Av4 a;have g:=Dr a;have h:=L9 a;have b:Bq m w=⟨#[]⟩:=by
   apply Axv;apply Ayf;show(Bq m w).size=0;omega
  refine⟨[],?_,λe=>absurd b e⟩;rw[Sx c,b,show B6 m w=m.size by omega]
theorem ext_get(a:Oy)(b c:Nat)(d:c<(a.extract b a.size).size)(e:b+c<a.size):(a.extract b a.size)[c]=a[b+c]:=by
 simp[ByteArray.getElem_extract]
theorem SD(a:Oy)(b:Nat)(k:b<=a.size):∀g c,a.size-(b+c)<=g->b+c<=a.size->Dh (a.extract b a.size) c+b=Dh a (b+c)
 |0,c,hn,hk=>by
  rw[IH (by rw[Axu];omega),IH O1];omega
 |g+1,c,hn,hk=>by
  by_cases e:b+c<a.size
  ·have f:c<(a.extract b a.size).size:=by rw[Axu];omega
   have d:=ext_get a b c f e;by_cases j:CF a[b+c].toNat=true\/Cz a[b+c].toNat=true
   ·rw[Hy f (d▸j),Hy e j];omega
   ·have h:CF a[b+c].toNat=false:=O6;have i:Cz a[b+c].toNat=false:=O6;rw[Ix f (d▸h) (d▸i),Ix e h i];exact SD a b k g (c+1) O1 O1
  ·rw[IH (by rw[Axu];omega),IH O1];omega
theorem Al7(e:w<m.size)(b:CF m[w].toNat=true):Ji (m.extract w m.size)=0:=by
 have a:0<(m.extract w m.size).size:=by rw[Axu];omega
 have c:=ext_get m w 0 a O1;have hb:Cz m[w].toNat=false:=by rw[T4]at b;cases hb:Cz m[w].toNat with|false=>rfl|true=>rw[Po]at hb;omega
 have d:(m.extract w m.size)[0].toNat=m[w].toNat:=by rw[c];rfl
 rw[Vu a (d▸hb)];have:=SD m w O1 _ 0 .refl O1;have f:Dh m (w+0)=w:=Hy e (Be b);omega
theorem Ad9(a:w<m.size)(d:CF m[w].toNat=false):w+Ji (m.extract w m.size)=HE m w:=by
 have b:0<(m.extract w m.size).size:=by rw[Axu];omega
 have c:(m.extract w m.size)[0].toNat=m[w].toNat:=by rw[ext_get m w 0 b O1];rfl
 cases hb:Cz m[w].toNat with
 |true=>
  rw[Ad8 b (c▸hb)];unfold HE;rw[if_pos ⟨Hy a (Axf hb),a⟩]
 |false=>
  rw[Vu b (c▸hb)];have:=SD m w O1 _ 0 .refl O1;have e:w<Dh m w:=by
   rw[Ix a d hb];have:=LU m (w+1);omega
  unfold HE;grind
def wC(a:Oy×Nat):List X:=[S a.1,V C (a.2:Int)]
abbrev Se(d:Q)(b:Nat)(c:X)(a:List (Oy×Nat)):Prop:=Cm wC (λ_=>[]) (λ_ _=>True) 127 2 d b c a
theorem EK:Ht (α:=Oy×Nat) (λ_=>[]) (λ_ _=>True):=λ_ _ _ _ _ _=>trivial
theorem Ami:(Aa.info? 127).map (λa=>(a.zero,a.size,a.bytes))=I (I (T #[S ⟨#[]⟩,V C 0]),2,24):=O3
structure JD (c:Oy) (d wr:Q) (b:Nat) (a:List (Oy×Nat)) (f:Option Addr) (e:Nat):Prop where
 le:b<=c.size
 row:Se wr d.heap.size (W f (L a) e) a
 eq:a++CH c b=CH c 0
 len:(L a)<=b
 low:Ow d wr
theorem JD.dm{wr:Q}(a:JD m n wr w sj U s)(b:w<m.size)(c:CF m[w].toNat=true):JD m n wr (w+1) sj U s:=
 ⟨O1,a.row,by rw[Al0 b c];exact a.eq,by have:=a.len;omega,a.low⟩
theorem Cm.cW{d:wa->List X}{f:Q->wa->Prop}(r:Ht (λ_=>[]) f){a g:Q}{j:Nat}{k:X}{b:List wa}{e:Obj}(m:Cm d (λ_=>[]) f wp w a j k b)(p:j<=a.heap.size){x:wa}(t:f (a.alloc e) x)(o:(a.alloc e).grownBy g k.ownBlock){c l:Nat}(n:k.ownBlock=I c\/c=(a.alloc e).heap.size)(q:c<g.heap.size)(s:g.ownsRow 0 wp w (W (I ⟨c,0,N⟩) (L b+1) l) (L b+1) (b.flatMap d++d x)):Cm d (λ_=>[]) f wp w g j (W (I ⟨c,0,N⟩) (L b+1) l) (b++[x]):=by
 have hb:Ow a (a.alloc e):=bA;exact m.push r p (λh i=>hb.block h (m.rg h i).2) hb.size t (λh i=>by cases i) Azi o rfl n q s
theorem P0(hb:Below w n q)(c:w<=q.heap.size)(d:∀a,p.ownBlock=I a->w<=a)(b:(q.alloc v9).grownBy Y p.ownBlock):Below w n Y:=
 (hb.alloc c v9).grown b O5 d
theorem JD.word{s:Oy}{wr:Q}{d:Nat}(a:JD s n wr w sj U b)(e:w<s.size)(j:CF s[w].toNat=false)(v:Ji (s.extract w s.size)=d)(k:(wr.alloc v9).grownBy Y (W U (L sj) b).ownBlock){c f:Nat}(r:(W U (L sj) b).ownBlock=I c\/c=(wr.alloc v9).heap.size)(u:c<Y.heap.size)(x:Y.ownsRow 0 127 2 (W (I ⟨c,0,N⟩) (L sj+1) f) (L sj+1) (sj.flatMap wC++[S (s.extract w (w+d)),V C (w:Int)])):
 JD s n Y (w+d) (sj++[(s.extract w (w+d),w)]) (I ⟨c,0,N⟩) f:=by
 subst v;have o:=Ad9 e j;have g:=Mh e j;have h:BC s w=w+Ji (s.extract w s.size):=by unfold BC;rw[g,<-o]
 have i:B6 s w=w:=g;have y:=Tr e;have z:=UP (s:=s) (q:=w) O1;have t:(sj++[(s.extract w (w+Ji (s.extract w s.size)),w)]).length=L sj+1:=O2;have l:=a.low.size;refine⟨O1,?_,?_,by have:=a.len;omega,P0 a.low l (λm hb=>(a.row.rg m (Ad _ (Ca.2 hb))).1) k⟩
 ·rw[t];exact a.row.cW EK l trivial k r u x
 ·rw[<-a.eq,Ug (p:=w) O1,AG,h,i];unfold Bq;rw[h,i];rfl
def YJ(a:Oy)(d:Q)(f:Ending)(e:Q):Prop:=Ow d e/\∃c b,f=F (W (I ⟨c,0,N⟩) (CH a 0).length b)/\Se e d.heap.size (W (I ⟨c,0,N⟩) (CH a 0).length b) (CH a 0)
theorem JD.fin{wr:Q}(b:JD m n wr m.size sj U w)(e:(wr.alloc v9).grownBy Y (W U (L sj) w).ownBlock){a c:Nat}(i:(W U (L sj) w).ownBlock=I a\/a=(wr.alloc v9).heap.size)(j:a<Y.heap.size)(k:Y.ownsRow 0 127 2 (W (I ⟨a,0,N⟩) (L sj+1) c) (L sj+1) (sj.flatMap wC++[S ⟨#[]⟩,V C (m.size:Int)])):
 YJ m n (F (W (I ⟨a,0,N⟩) (L sj+1) c)) Y:=by
 have g:=b.low.size;have d:CH m 0=sj++[(⟨#[]⟩,m.size)]:=by
  rw[<-b.eq,Sx];have:=Eh m m.size;unfold B6;omega
 have f:(sj++[((⟨#[]⟩,m.size):Oy×Nat)]).length=L sj+1:=O2;refine⟨P0 b.low g (λh hb=>(b.row.rg h (Ad _ (Ca.2 hb))).1) e,a,c,?_,?_⟩
 ·rw[d,f]
 ·rw[d,f];exact b.row.cW EK g trivial e i j k
theorem Alb(s:Oy)(e:Q)(al:s.size<=2000):Az Aa 26 #[S s] e λu n=>YJ s e u n:=by
 obtain⟨G,D,E⟩:=AB.1 Ami;simp only[Aw0]at E;obtain⟨y,z,B⟩:=E;have w:JD s e e 0 [] N 0:=⟨Ai _,Cm.nil _ _,rfl,Ai _,Ae _ _⟩;go_enter func26,ntmps26;go_wp2;go_loopw [3,4] (λab t wr=>∃(c:List (Oy×Nat)) (a:Nat) (g:Option Addr) (f:Nat),ab=W g (L c) f/\t=V C (a:Int)/\O9 (JD s e wr a c g f)) (λ_ t _=>s.size-(intOf t).toNat)
 ·exact⟨[],0,N,0,rfl,rfl,w⟩
 ·clear w;obtain⟨c,a,g,f,rfl,rfl,d⟩:=hrel;rename Q=>wr
  have ah:=d.o.le;have ai:=d.o.len;by_cases j:a<s.size
  ·have ae:(0:Int)<=(a:Int):=O1;have af:(a:Int)<(s.size:Int):=O1;have am:(s.extract a s.size).size=s.size-a:=by rw[Axu];omega
   have x:=λe=>Aq0 (s.extract a s.size) e O1 O1;cases hg:CF s[a].toNat with
   |true=>
    have K:=d.o.dm j hg;have p:=Al7 j hg;clear hg;go_wp2_with (first|(go_at_call 43;refine(x _).mono ?_;rintro u n ⟨rfl,rfl⟩;rw[p]))
    exact⟨⟨c,a+1,g,f,rfl,by go_num,K⟩,by simp[intOf];omega⟩
   |false=>
    obtain⟨b,v⟩:∃b,Ji (s.extract a s.size)=b:=⟨_,rfl⟩;have O:a+b=HE s a:=by rw[<-v];exact Ad9 j hg
    have U:=Tr (s:=s) (q:=a) j;have Y:=UP (s:=s) (q:=a) O1;have aj:0<b:=O1;have ak:a+b<=s.size:=O1;clear O U Y;have H:=O0 hg;have p:=O0 v;clear hg v;have an:(0:Int)<(b:Int):=O1;have ao:(0:Int)<=(a:Int)+(b:Int):=O1;have ap:(a:Int)+(b:Int)<=(s.size:Int):=O1;have aq:(a:Int)<=(a:Int)+(b:Int):=O1;go_wp2_with (first
     |(go_at_call 43;refine(x _).mono ?_;rintro u n ⟨rfl,rfl⟩;rw[p.o])
     |(at_builtin;refine wpList_append_lies _ rfl (.tmp 16) (.tmp 25) 75 rfl 0 127 G _ 2 24 underlying75 D y z B rfl O1 (W g (L c) f) (L c) (c.flatMap wC) rfl (d.o.row.own.alloc _) ⟨n.heap.size,0,N⟩ 1 1 [S (s.extract a (a+b)),V C (a:Int)] rfl rfl (by simpa using A5 (AM n (AW #[S (s.extract a (a+b)),V C (a:Int)] 127))) (by intro ac m;simp at m;rcases m with rfl|rfl<;>rfl) O1 O8 O1 (Ai _) _ rfl ?_;intro M aa ad l i h k;have r:=d.o.word j H.o p.o i h k l;clear l i h k))
    exact⟨⟨_,a+b,_,_,by rw[Aw];rfl,by go_num,r⟩,by simp[intOf];omega⟩
  ·obtain rfl:a=s.size:=O1;have ag:¬(s.size:Int)<(s.size:Int):=O1;go_wp2_with (first
    |(at_builtin;refine wpList_append_lies _ rfl (.tmp 31) (.tmp 35) 75 rfl 0 127 G _ 2 24 underlying75 D y z B rfl O1 (W g (L c) f) (L c) (c.flatMap wC) rfl (d.o.row.own.alloc _) ⟨wr.heap.size,0,N⟩ 1 1 [S ⟨#[]⟩,V C (s.size:Int)] rfl rfl (by simpa using A5 (AM wr (AW #[S ⟨#[]⟩,V C (s.size:Int)] 127))) (by intro ac m;simp at m;rcases m with rfl|rfl<;>rfl) O1 O8 O1 (Ai _) _ rfl ?_;intro M aa ad l i h k;have r:=d.o.fin i h k l;clear l i h k))
   go_ret;exact r
structure SY (a:Q) (b:Nat->Addr):Prop where
 sy:a.cell? ⟨1,0,N⟩=I (Z 447 (J (I (b 12))))
 dp:a.cell? ⟨2,0,N⟩=I (Z 447 (J (I (b 13))))
 tw:a.cell? ⟨4,0,N⟩=I (Z 447 (J (I (b 14))))
 nm:a.cell? ⟨3,0,N⟩=I (Z 447 (J (I (b 5))))
 lg:a.cell? ⟨0,0,N⟩=I (Z 447 (J (I (b 4))))
 es:∃ev,a.cell? ⟨25,0,N⟩=I ev/\(ev=.nilIface\/∃te pe,ev=Z te pe)
 er:∃ev,a.cell? ⟨26,0,N⟩=I ev/\(ev=.nilIface\/∃te pe,ev=Z te pe)
theorem SY.bG{w:Q}(a:SY w M)(hb:Ow w n):SY n M:=by
 let ⟨b,d,f⟩:=a.es
 let ⟨c,e,g⟩:=a.er
 exact⟨Bu hb a.sy,Bu hb a.dp,Bu hb a.tw,Bu hb a.nm,Bu hb a.lg,⟨b,Bu hb d,f⟩,⟨c,Bu hb e,g⟩⟩
structure PB (a f:Q) (c:Nat) (d:Nat->Addr):Prop where
 s:SY a d
 b:Ow a f
 e:a.heap.size<=c
theorem PB.ef{w:Q}{d:Nat}(a:PB n w d M)(c:EF d w q):PB n q d M:=
 ⟨a.s,⟨c.os.trans a.b.os,c.tape.trans a.b.tape,c.output.trans a.b.output,Ay a.b.size c.size,λg f=>(c.block g (Am f a.b.size) (by have:=a.e;omega)).trans (a.b.block g f)⟩,a.e⟩
theorem PB.sy(a:PB n q w M):SY q M:=a.s.bG a.b
theorem Aoy(d:EF w n q){a b:Nat}{c:X}(e:n.cell? ⟨a,b,N⟩=I c)(hb:a≠w):q.cell? ⟨a,b,N⟩=I c:=by
 rwa[Ak (d.block a (AL e) hb)]
theorem JZ(a:EF w n q)(hb:n.heap.size<=s):EF w n (q.setCell ⟨s,b,N⟩ p):=
 ⟨a.os,a.tape,a.output,by have:=a.size;simp;omega,λc e d=>by rw[AA _ _ _ _ (show c≠s by omega)];exact a.block c e d⟩
def Z8(e:Q)(c d:Nat)(b:List (Oy×Nat)):Prop:=∀a (f:a<L b),e.cell? ⟨c,d+a*2,N⟩=I (.string b[a].1)/\e.cell? ⟨c,d+a*2+1,N⟩=I (V C (b[a].2:Int))
structure PS (b:Q) (a d:Nat) (g:Oy) (e:Nat) (gv:X) (h:Nat):Prop where
 c0:∃o c,b.cell? ⟨a,0,N⟩=I (W (I ⟨d,o,N⟩) (CH g e).length c)/\(CH g e).length<=c/\c<=9223372036854775807/\d≠a/\Z8 b d o (CH g e)
 c1:b.cell? ⟨a,1,N⟩=I gv
 c2:b.cell? ⟨a,2,N⟩=I (V C (h:Int))
 f:∀j,j<3->b.frozen? ⟨a,j,N⟩=false
theorem PS.lt(a:PS n w s m b p j):w<n.heap.size:=AL a.c1
theorem PS.dy(a:PS n w s m b p j):s<n.heap.size:=by
 let ⟨i,d,e,f,g,h,c⟩:=a.c0
 exact AL (c 0 (Axd.2 (Aba _ _))).1
theorem PS.cM{l k:Nat}(d:PS n w s m l p k){b j:Nat}{u:X}(g:b≠w)(h:b≠s):PS (n.setCell ⟨b,j,N⟩ u) w s m l p k:=by
 have e:∀c a,c≠b->(n.setCell ⟨b,j,N⟩ u).cell? ⟨c,a,N⟩=n.cell? ⟨c,a,N⟩:=λc a i=>Ah _ _ _ _ O2;let ⟨x,c,y,o,q,t,v⟩:=d.c0
 refine⟨⟨x,c,?_,o,q,t,λa r=>?_⟩,?_,?_,λj i=>by rw[Aq];exact d.f j i⟩
 ·grind
 ·rw[e _ _ (Aym h),e _ _ (Aym h)];exact v a r
 ·rw[e _ _ (Aym g)];exact d.c1
 ·rw[e _ _ (Aym g)];exact d.c2
theorem PS.below(a:PS n w s m b p j)(hb:Ow n q):PS q w s m b p j:=by
 let ⟨t,g,h,i,k,o,d⟩:=a.c0
 refine⟨⟨t,g,Bu hb h,i,k,o,λe c=>⟨Bu hb (d e c).1,Bu hb (d e c).2⟩⟩,Bu hb a.c1,Bu hb a.c2,λr l=>?_⟩;rw[AJ (hb.block w a.lt)];exact a.f r l
theorem PS.BF(a:PS n w s m b p j){c:Nat}(d:CH m c=CH m b):PS n w s m c p j:=⟨by rw[d];exact a.c0,a.c1,a.c2,a.f⟩
theorem PS.turn(g:PS n w s m b p j){i c d:Nat}(q:(CH m d).length<=c)(r:c<=9223372036854775807)(k:s≠w)(u:Z8 n s i (CH m d)):
 PS (n.setCell ⟨w,0,N⟩ (W (I ⟨s,i,N⟩) (CH m d).length c)) w s m d p j:=by
 have h:∀e a,(e≠w\/a≠0)->(n.setCell ⟨w,0,N⟩ (W (I ⟨s,i,N⟩) (CH m d).length c)).cell? ⟨e,a,N⟩=n.cell? ⟨e,a,N⟩:=λe a l=>Ah _ _ _ _ O6;obtain⟨y,x,o,-⟩:=g.c0;refine⟨⟨i,c,Au _ _ _ o,q,r,k,λv t=>?_⟩,?_,?_,λa l=>by rw[Aq];exact g.f a l⟩
 ·rw[h _ _ (Be k),h _ _ (Be k)];exact u v t
 ·rw[h _ _ (Axf O1)];exact g.c1
 ·rw[h _ _ (Axf O1)];exact g.c2
theorem PS.dd(d:PS n w s m b p j)(h:Nat):PS (n.setCell ⟨w,2,N⟩ (V C (h:Int))) w s m b p h:=by
 have g:∀c a,(c≠w\/a≠2)->(n.setCell ⟨w,2,N⟩ (V C h)).cell? ⟨c,a,N⟩=n.cell? ⟨c,a,N⟩:=λc a i=>Ah _ _ _ _ O6;let ⟨u,k,v,l,o,e,r⟩:=d.c0
 refine⟨⟨u,k,?_,l,o,e,λt q=>?_⟩,?_,Au _ _ _ d.c2,λa i=>by rw[Aq];exact d.f a i⟩
 ·grind
 ·rw[g _ _ (Be e),g _ _ (Be e)];exact r t q
 ·rw[g _ _ (Axf O1)];exact d.c1
theorem PS.ew{gv:X}(d:PS n w s m b gv j)(h:X):PS (n.setCell ⟨w,1,N⟩ h) w s m b h j:=by
 have g:∀c a,(c≠w\/a≠1)->(n.setCell ⟨w,1,N⟩ h).cell? ⟨c,a,N⟩=n.cell? ⟨c,a,N⟩:=λc a i=>Ah _ _ _ _ O6;let ⟨t,k,u,l,o,e,q⟩:=d.c0
 refine⟨⟨t,k,?_,l,o,e,λr p=>?_⟩,Au _ _ _ d.c1,?_,λa i=>by rw[Aq];exact d.f a i⟩
 ·grind
 ·rw[g _ _ (Be e),g _ _ (Be e)];exact q r p
 ·rw[g _ _ (Axf O1)];exact d.c2
theorem Hn{a:Q}(h:PS a w s m b p j)(t:b<=m.size):
 Az Aa 46 #[J (I ⟨w,0,N⟩)] a λo u=>o=F (T #[S (Bq m b),V C (B6 m b:Int)])/\Ow a u:=by
 let ⟨K,x,q,D,E,G,i⟩:=h.c0
 obtain⟨M,c,-⟩:=VF t;have r:0<(CH m b).length:=by rw[c];simp
 have k:=i 0 r;have g:(CH m b)[0]=(Bq m b,B6 m b):=by simp[c]
 rw[g]at k;let ⟨e,f⟩:=k
 simp[Nat.zero_mul]at e f;clear i c g h;generalize (CH m b).length=n at*;have H:0<n:=O1;obtain⟨d,l⟩:∃d,d=a.alloc (.cells #[S ⟨#[]⟩,V C 0] 127):=⟨_,rfl⟩;have hb:Ow a d:=by rw[l];exact bA
 have B:=Bu hb q;have y:=Bu hb e;have z:=Bu hb f;subst l;go_wp2;refine AZ (v:=T #[S (Bq m b),V C (B6 m b:Int)]) (by simp[results,results46,go_sem]) rfl ?_;exact⟨rfl,bA⟩
theorem JF{e:Q}(g:PS e w s m b p j)(B:b<=m.size):
 Az Aa 47 #[J (I ⟨w,0,N⟩)] e λd r=>d=F (R #[])/\EF w e r/\(Bq m b≠⟨#[]⟩->PS r w s m (BC m b) p j):=by
 let ⟨D,i,v,x,G,z,o⟩:=g.c0
 let ⟨c,l,h⟩:=VF B
 have k:(CH m b).length=L c+1:=by rw[l];simp
 have t:Bq m b≠⟨#[]⟩->PS (e.setCell ⟨w,0,N⟩ (W (I ⟨s,D+2,N⟩) (L c) (i-1))) w s m (BC m b) p j:=by
  intro a;have d:=h a;rw[d];have K:(CH m (BC m b)).length=L c:=by rw[d]
  refine g.turn O1 O1 z λq H=>?_;have y:q+1<(CH m b).length:=O1;have U:=o (q+1) y;grind
 have u:Bq m b≠⟨#[]⟩->0<L c:=by
  intro a;rw[h a];exact Axd.2 (Aba _ _)
 have E:=g.f 0 O1;rw[k]at v x;clear o l h k;generalize (L c)=n at*;have M:1<=n+1:=O1;have O:n+1<=i:=O1;go_enter func47,ntmps47;go_wp2
 ·refine bE ?_;exact⟨rfl,(EF.refl _ _).set _,λa=>by have:=u a;omega⟩
 ·refine bE ?_;exact⟨rfl,(EF.refl _ _).set _,t⟩
theorem Iz(b c:X)(a:Q):Sem.run Aa (Instr.field 127 (T #[b,c]) 0) a=.ok b a:=O3
theorem Qg(c b:X)(a:Q):Sem.run Aa (Instr.field 127 (T #[c,b]) 1) a=.ok b a:=O3
def Fu(b:Nat->Addr)(c a:Nat):X:=Z 85 (T #[Z 447 (J (I (b c))),V C 0,V C (a:Int)])
theorem R0(b:A0)(d:X)(a:Int)(c:Q):Az Aa 25 #[Z b d,V C a] c λe f=>e=F (Z 85 (T #[Z b d,V C 0,V C a]))/\f=c:=by
 go_enter func25,ntmps25;go_wp2;go_ret;simp
theorem LW(c:Nat->Addr)(d:Nat)(f:PS n w s m b p j)(g:b<=m.size):
 Az Aa 83 #[J (I ⟨w,0,N⟩),Z 447 (J (I (c d)))] n λa h=>a=F (Fu c d (B6 m b))/\Ow n h:=by
 have e:=Hn f g;have i:=Qg;unfold Fu;go_enter func83,ntmps83;go_wp2_with (first
  |(refine e.mono ?_;rintro a l ⟨rfl,k⟩)
  |(refine(R0 _ _ _ _).mono ?_;rintro a o ⟨rfl,rfl⟩))
 go_ret;simp_all
def NZ{e:Type}(d:Nat->Pr e):Prop:=∀c a b,d c=P (a,b)->a≠0
def Skp{d:Type}(c:Oy)(b:Nat->Pr d):Prop:=∀a,b (BF c a)=b a
theorem CC{c:Pr wa}{f:wa->Nat->Pr n3}(a:pb c f=P (w,s)):c=P (w,s)\/∃d b,c=.ok (d,b)/\f d b=P (w,s):=by
 match c,a with
 |.ok (d,b),a=>exact Axf ⟨d,b,rfl,a⟩
 |P e,a=>exact Be (by cases a;rfl)
section
variable {s:Oy} {E:Nat->Pr Ex} (hZ:NZ E)
include hZ
end
section
variable {s:Oy} {E:Nat->Pr Ex} (hK:Skp s E)
include hK
end
def Uu(h:Q)(e:Nat)(g:X)(c:List Oy):Prop:=∃a d f,g=W (I ⟨a,d,N⟩) (L c) f/\a≠e/\∀b (i:b<L c),h.cell? ⟨a,d+b,N⟩=I (.string c[b])
def GB(a:Oy):List Oy->Nat->Pr Unit
 |[],p=>.ok ((),p)
 |t::r,p=>pb (BS a t p) λ_ b=>GB a r b
def Cq(a:Nat):Nat:=if a=2 then 12 else if a=3 then 13 else if a=5 then 14 else if a=4 then 5 else 4
def Js(h:Pr Unit)(e:Nat)(i:Q)(g:Nat->Addr)(f:Nat->Q->Prop)(b:Ending)(d:Q):Prop:=EF e i d/\match h with
 |.ok (_,q)=>b=F .nilIface/\f q d
 |P (c,a)=>b=F (Fu g (Cq c) a)
theorem Tq(a:Bq m w=w0):BS m w0 w=.ok ((),BC m w):=by unfold BS;rw[if_pos a]
theorem Aez(a:¬Bq m w=w0):BS m w0 w=P (2,B6 m w):=by unfold BS;rw[if_neg a]
structure W9 (e g:Nat) (c:Oy) (h:X) (i:Nat) (d:List Oy) (f:Pr Unit) (j wr:Q) (a b:Nat):Prop where
 le:a<=L d
 hq:b<=c.size
 ef:EF e j wr
 ps:(∀t∈d.take a,t≠⟨#[]⟩)->PS wr e g c b h i
 eq:f=GB c (d.drop a) b
theorem Ye(ad:PB n q w M)(h:PS q w s m b p j)(O:b<=m.size)(af:Uu q w y f)(ax:(L f)<=10)(ai:∀t (aj:t+1<L f),f[t]≠⟨#[]⟩):
 Az Aa 44 #[J (I ⟨w,0,N⟩),y] q λe v=>Js (GB m f b) w q M (λd v=>(∀o∈f,o≠⟨#[]⟩)->PS v w s m d p j) e v:=by
 obtain⟨aq,ay,ap,rfl,ak,ah⟩:=af;have Y:O9 (W9 w s m p j f (GB m f b) q q 0 b):=⟨Ai _,O,EF.refl _ _,λ_=>h,rfl⟩;clear h O;generalize GB m f b=R at*;go_enter func44,ntmps44;go_wp2;go_loopw [9] (λu wr=>∃(a d:Nat),a<=L f/\u=V C (a:Int)/\O9 (W9 w s m p j f R q wr a d)) (λu _=>L f-(intOf u).toNat)
 ·grind
 ·clear Y;obtain⟨a,d,aw,rfl,c⟩:=hrel;rename Q=>wr
  have k:=c.o.hq;by_cases K:a<L f
  ·have ar:(0:Int)<=(a:Int):=O1;have au:(a:Int)<(L f:Int):=O1;have z:PS wr w s m d p j:=by
    refine c.o.ps λo g=>?_;obtain⟨t,aj,rfl⟩:=AQ g;grind
   have c0:=Aoy c.o.ef (ah a K) ak;have al:a+1<L f->f[a]≠⟨#[]⟩:=λh=>ai a h;have r:O9 (R=pb (BS m f[a] d) λ_ am=>GB m (f.drop (a+1)) am):=by
    show _=_;rw[c.o.eq,A2 K,GB]
   have D:O9 (f.take (a+1)=f.take a++[f[a]]):=by show _=_;simp
   obtain⟨tk,U⟩:∃o,f[a]=o:=⟨_,rfl⟩;rw[U]at c0 r D al;clear U;have ab:=O0 (Hn z k);have ac:=O0 (ad.ef c.o.ef).sy;have ao:=Iz;go_wp2_with (first
    |(go_at_call 46;refine ab.o.mono ?_;rintro e a0 ⟨rfl,i⟩;have B:=O0 (z.below i);have az:=(ac.o.bG i).sy;have x:=EF.bW (E:=w) i;clear i)
    |(go_at_call 83;refine(LW M 12 B.o k).mono ?_;rintro e an ⟨rfl,ag⟩)
    |(go_at_call 47;refine(JF B.o k).mono ?_;rintro e an ⟨rfl,G,ae⟩;have aa:=O0 G;clear G))
   ·rename_i l
    go_ret;refine⟨(c.o.ef.trans x).trans (EF.bW ag),?_⟩;rw[r.o,Aez (λe=>by rw[e]at l;simp at l),DR];rfl
   ·rename_i l
    have H:=MG (by simpa using l);refine⟨⟨a+1,BC m d,O1,by go_num,?_⟩,by simp[intOf];omega⟩;refine⟨O1,Dr k,(c.o.ef.trans x).trans aa.o,λg=>?_,?_⟩
    ·exact ae (by rw[H];exact g tk (by rw[D.o];simp))
    ·rw[r.o,Tq H,BQ]
  ·obtain rfl:a=L f:=O1;have av:¬(L f:Int)<(L f:Int):=O1;go_wp2;go_ret;refine⟨c.o.ef,?_⟩;rw[c.o.eq,Az8];exact⟨rfl,λg=>c.o.ps (AP▸g)⟩
def Gf(a:Nat)(c:List UInt8):Nat:=c.foldl (λa b=>10*a+(b.toNat-48)) a
theorem Xm(a:Nat):Gf a []=a:=rfl
theorem Q4(b:Nat)(a:UInt8)(c:List UInt8):Gf b (a::c)=Gf (10*b+(a.toNat-48)) c:=by unfold Gf;rw[Baa]
def F4(b:List UInt8):Bool:=b.all λa=>D5 a.toNat
theorem Ac9(b:List UInt8):∀a,a*10 ^ (L b)<=Gf a b:=by
 induction b with
 |nil=>intro a;rw[Xm];simp
 |cons c r ih=>
  intro a;rw[Q4,AO,Bae];grind
theorem Ae5(b:List UInt8):∀a,a<=Gf a b:=by
 intro a;have d:=Ac9 b a;have c:1<=10 ^ (L b):=Nat.pos_of_ne_zero O2;have:=Nat.mul_le_mul_left a c;omega
theorem VP(b:List UInt8):∀a,a<=18446744073709551615->F4 b=true->Lib.parseUintM 18446744073709551615 a b=if Gf a b<=18446744073709551615 then .ok (Gf a b) else .range:=by
 induction b with
 |nil=>intro a f _;rw[Lib.parseUintM,Xm,if_pos f]
 |cons c r ih=>
  intro a f d;simp only[F4,Az2,Bh]at d;have h:48<=c.toNat/\c.toNat<=57:=by
   have:=d.1;simp[D5,decide_eq_true_eq]at this;omega
  rw[Lib.parseUintM,if_pos h,Q4];have i:=Ae5 r (10*a+(c.toNat-48));by_cases g:1844674407370955162<=a
  ·grind
  ·rw[if_neg g];by_cases e:18446744073709551615<a*10+(c.toNat-48)
   ·rw[if_pos e,if_neg O1]
   ·rw[if_neg e,Nat.mul_comm a 10];exact ih _ O1 d.2
theorem X9(b:Oy):∀e a c,b.size-a<=e->I4 b a c=if F4 (b.data.toList.drop a)=true then I (Gf c (b.data.toList.drop a)) else N
 |0,a,c,hk=>by
  rw[Y7 O1,Aye O5];rfl
 |e+1,a,c,hk=>by
  by_cases d:a<b.size
  ·have f:b.data.toList.drop a=b[a]::b.data.toList.drop (a+1):=by
    rw[A2 (by simpa using d)];rfl
   rw[f];cases hd:D5 b[a].toNat with
   |true=>
    rw[Ain d hd,X9 b e (a+1) _ O1];rw[Q4];simp[F4,hd]
   |false=>
    rw[Aet d hd];simp[F4,hd]
  ·rw[Y7 O1,Aye O5];rfl
def HH(a:Oy):Bool:=decide (0<a.size) && !(G1 a && decide (1<a.size)) && F4 a.data.toList
def Q1:Oy:=⟨#[45,48]⟩
theorem Aip(a:G1 m=true)(b:m.size=1):m=⟨#[48]⟩:=by
 unfold G1 at a;rw[getElem?_pos m 0 O1]at a;simp[decide_eq_true_eq]at a;apply Axv;apply Array.ext
 ·exact b
 ·intro d e f;have c:d=0:=by
   grind
  subst c;have:m[0]=48:=Aza.1 (by rw[a];rfl);exact this
theorem Ais(d:0<m.size)(b:F4 m.data.toList=true):Lib.parseIntB 64 m.data.toList=if Gf 0 m.data.toList<9223372036854775808 then .ok (Gf 0 m.data.toList:Int) else .range:=by
 have f:0<L m.data.toList:=by simpa using d
 match hs:m.data.toList with
 |[]=>grind
 |a::r=>
  have c:D5 a.toNat=true:=by
   rw[hs]at b;simp[F4]at b;exact b.1
  have e:48<=a.toNat/\a.toNat<=57:=by
   simp[D5,decide_eq_true_eq]at c;exact c
  unfold Lib.parseIntB;rw[hs]at b;simp[Lib.parseUintB];rw[if_neg (show ¬(a.toNat=43\/a.toNat=45) by omega),if_neg nofun];have:=VP (a::r) 0 O1 b;grind
theorem Am3(d:m.data.toList=45::o)(c:o≠[])(a:F4 o=true):Lib.parseIntB 64 m.data.toList=if Gf 0 o<=9223372036854775808 then .ok (-(Gf 0 o:Int)) else .range:=by
 unfold Lib.parseIntB;simp only[Lib.parseUintB];have b:(45:UInt8).toNat=45:=rfl;have:=VP o 0 O1 a;grind
theorem Anr(b:HJ m=false):∀c,m.data.toList≠45::c:=by
 intro c a;have f:0<m.size:=by
  have:0<L m.data.toList:=by rw[a];simp
  simpa using this
 unfold HJ at b;rw[getElem?_pos m 0 f]at b;simp[decide_eq_false_iff_not]at b;apply b;have d:m.data.toList[0]'(by rw[a];simp)=45:=by simp[a]
 have e:m[0]=m.data.toList[0]'(by rw[a];simp):=rfl;rw[e,d];rfl
theorem SO(a:HJ m=true):m.data.toList=45::(m.extract 1 m.size).data.toList:=by
 unfold HJ at a;by_cases b:0<m.size
 ·rw[getElem?_pos m 0 b]at a;simp[decide_eq_true_eq]at a;have e:m[0]=45:=Aza.1 (by rw[a];rfl);have d:0<L m.data.toList:=by simpa using b
  have c:m.data.toList=m[0]::m.data.toList.drop 1:=by
   have:=A2 d;exact this
  rw[Ayr,Array.toList_extract];conv=>lhs;rw[c]
  congr 1
  rw[List.extract_eq_take_drop];rw[Aw5];simp
 grind
theorem Aj8(a:Oy):(⟨(Lib.trimPrefix a.data.toList [45]).toArray⟩:Oy)=CB a:=by
 unfold Lib.trimPrefix Lib.hasPrefix CB;cases h:HJ a with
 |true=>
  have d:=SO h;have b:List.isPrefixOf [45] a.data.toList=true:=O6;rw[if_pos b,if_pos rfl];have e:a.data.toList.drop ([45]:List UInt8).length=(a.extract 1 a.size).data.toList:=by rw[d];rfl
  rw[e]
 |false=>
  have f:=Anr h;have b:List.isPrefixOf [45] a.data.toList=false:=by
   match hs:a.data.toList with
   |[]=>rfl
   |c::r=>
    grind
  simp_all
theorem Awp:HJ ⟨#[48]⟩=false:=rfl
theorem Aqn:CB ⟨#[48]⟩=⟨#[48]⟩:=rfl
theorem Q6(a:Oy):I4 a 0 0=if F4 a.data.toList=true then I (Gf 0 a.data.toList) else none:=by
 rw[X9 a _ 0 0 .refl,List.drop_zero]
theorem XB(a:HH (CB m)=false\/m=Q1):Ej m=none:=by
 rcases a with a|rfl
 ·unfold Ej;by_cases c:(CB m).size=0\/(G1 (CB m)=true/\¬m=⟨#[48]⟩)\/19<(CB m).size
  ·rw[if_pos c]
  ·rw[if_neg c];have b:F4 (CB m).data.toList=false:=by
    cases b:F4 (CB m).data.toList with
    |false=>rfl
    |true=>
     have d:0<(CB m).size:=O1;unfold HH at a;rw[b]at a;simp only[d,decide_true,Bool.true_and,Bool.and_true,Bool.not_eq_false',Bh,decide_eq_true_eq]at a;by_cases e:m=⟨#[48]⟩
     ·rw[e,Aqn]at a;exact absurd a.2 nofun
     grind
   rw[Q6,if_neg (by simp[b])]
 rfl
theorem Awo:(10:Nat) ^ 19=10000000000000000000:=rfl
theorem Aab(d:F4 m.data.toList=true)(a:G1 m=false)(e:19<m.size):10000000000000000000<=Gf 0 m.data.toList:=by
 have g:19<L m.data.toList:=by simpa using e
 match hs:m.data.toList with
 |[]=>grind
 |c::r=>
  have f:m[0]'(by omega)=c:=by
   have b:m.data.toList[0]'(by omega)=c:=by simp[hs]
   exact b
  unfold G1 at a;rw[getElem?_pos m 0 O1,f]at a;simp[decide_eq_false_iff_not]at a;have j:48<=c.toNat/\c.toNat<=57:=by
   rw[hs]at d;simp[F4,D5,decide_eq_true_eq]at d;omega
  rw[hs,AO]at g;rw[Q4];have h:=Ac9 r (10*0+(c.toNat-48));have b:10 ^ 19<=10 ^ (L r):=Nat.pow_le_pow_right O1 O1;have i:1*10 ^ (L r)<=(10*0+(c.toNat-48))*10 ^ (L r):=Axt _ O1;omega
theorem Art(d:HH (CB m)=true)(k:m≠Q1):Lib.parseIntB 64 m.data.toList=match Ej m with|some v=>.ok v|none=>.range:=by
 unfold HH at d;simp only[Bh,decide_eq_true_eq,Bool.not_eq_true',Azm,decide_eq_false_iff_not]at d;let ⟨⟨h,n⟩,b⟩:=d
 have j:¬(G1 (CB m)=true/\¬m=⟨#[48]⟩):=by
  rintro⟨p,t⟩;have q:(CB m).size=1:=by
   grind
  have r:=Aip p q;cases hn:HJ m with
  |true=>
   apply k;have c:=SO hn;have a:CB m=m.extract 1 m.size:=by unfold CB;rw[if_pos hn]
   rw[<-a,r]at c;apply Axv;apply Array.toList_inj.1;rw[c];rfl
  |false=>
   have a:CB m=m:=by unfold CB;grind
   grind
 cases hn:HJ m with
 |true=>
  have c:=SO hn;have a:CB m=m.extract 1 m.size:=by unfold CB;rw[if_pos hn]
  rw[<-a]at c;have l:(CB m).data.toList≠[]:=by
   intro i;have:(CB m).data.toList.length=0:=by rw[i];rfl
   have s:(CB m).data.toList.length=(CB m).size:=rfl;omega
  rw[Am3 c l b];unfold Ej;by_cases e:19<(CB m).size
  ·have g:G1 (CB m)=false:=O6;have:=Aab b g e;grind
  ·have f:¬((CB m).size=0\/(G1 (CB m)=true/\¬m=⟨#[48]⟩)\/19<(CB m).size):=λo=>by
    grind
   rw[if_neg f,Q6,if_pos b];grind
 |false=>
  have a:CB m=m:=by unfold CB;grind
  rw[a]at h b n j;rw[Ais h b];unfold Ej;rw[a];by_cases e:19<m.size
  ·have g:G1 m=false:=O6;have:=Aab b g e;grind
  ·have f:¬(m.size=0\/(G1 m=true/\¬m=⟨#[48]⟩)\/19<m.size):=λo=>by
    grind
   rw[if_neg f,Q6,if_pos b];grind
def Aiq:Go.Shelf.Ren:=⟨fun|144=>99|143=>147|219=>203|217=>245|225=>246|224=>247|267=>248|266=>275|314=>276|n=>n,fun|9=>9|4=>4|3=>3|5=>5|46=>207|146=>417|51=>204|n=>n,fun|1=>23|n=>n⟩
theorem UX:Go.Proofs.Lays.n144 Aa Aiq:={
 mixed:=O3
 f143:=func147.trans (congrArg I O3)
 f144:=func99.trans (congrArg I O3)
 f217:=func245.trans (congrArg I O3)
 f219:=func203.trans (congrArg I O3)
 f224:=func247.trans (congrArg I O3)
 f225:=func246.trans (congrArg I O3)
 f266:=func275.trans (congrArg I O3)
 f267:=func248.trans (congrArg I O3)
 f314:=func276.trans (congrArg I O3)
 t3:=underlying3
 a3:=isAgg3
 z3:=sizeOf3
 v3:=zeroValue3
 t4:=underlying4
 a4:=isAgg4
 z4:=sizeOf4
 v4:=zeroValue4
 t5:=underlying5
 a5:=isAgg5
 z5:=sizeOf5
 v5:=zeroValue5
 t9:=Awz
 a9:=isAgg9
 z9:=sizeOf9
 v9:=zeroValue9
 t46:=underlying207
 a46:=isAgg207
 z46:=sizeOf207
 v46:=zeroValue207
 t51:=underlying204
 a51:=isAgg204
 z51:=sizeOf204
 v51:=zeroValue204
 t146:=underlying417
 a146:=isAgg417
 z146:=sizeOf417
 v146:=zeroValue417
 g1:=by kernel_rfl}
def Alk:Go.Shelf.Ren:=⟨fun|101=>233|208=>266|206=>283|n=>n,fun|9=>9|4=>4|3=>3|n=>n,fun|n=>n⟩
theorem Ai3:Go.Proofs.Lays.n101 Aa Alk:={
 mixed:=O3
 f101:=func233.trans (congrArg I O3)
 f206:=func283.trans (congrArg I O3)
 f208:=func266.trans (congrArg I O3)
 t3:=underlying3
 a3:=isAgg3
 z3:=sizeOf3
 v3:=zeroValue3
 t4:=underlying4
 a4:=isAgg4
 z4:=sizeOf4
 v4:=zeroValue4
 t9:=Awz
 a9:=isAgg9
 z9:=sizeOf9
 v9:=zeroValue9}
def Aiy:Go.Shelf.Ren:=⟨fun|174=>234|247=>267|245=>268|287=>284|279=>285|280=>286|281=>287|282=>288|321=>296|322=>297|316=>96|171=>6|205=>298|243=>14|246=>24|283=>39|284=>40|285=>41|286=>42|129=>77|317=>76|318=>78|319=>79|320=>80|337=>129|338=>130|n=>n,fun|9=>9|3=>3|2=>2|75=>47|85=>382|4=>4|167=>430|5=>5|53=>120|175=>306|46=>207|168=>432|37=>116|0=>0|210=>443|21=>21|127=>285|145=>449|143=>447|171=>119|173=>123|212=>203|51=>204|20=>20|213=>205|232=>333|233=>334|80=>29|n=>n,fun|15=>25|16=>26|17=>19|18=>21|19=>22|n=>n⟩
theorem VQ:Go.Proofs.LaysC.n174 Aa Aiy:={
 mixed:=O3
 f129:=func77.trans (congrArg I O3)
 f171:=func6.trans (congrArg I O3)
 f174:=func234.trans (congrArg I O3)
 f205:=func298.trans (congrArg I O3)
 f243:=func14.trans (congrArg I O3)
 f245:=func268.trans (congrArg I O3)
 f246:=func24.trans (congrArg I O3)
 f247:=func267.trans (congrArg I O3)
 f279:=func285.trans (congrArg I O3)
 f280:=func286.trans (congrArg I O3)
 f281:=func287.trans (congrArg I O3)
 f282:=func288.trans (congrArg I O3)
 f283:=func39.trans (congrArg I O3)
 f284:=func40.trans (congrArg I O3)
 f285:=func41.trans (congrArg I O3)
 f286:=func42.trans (congrArg I O3)
 f287:=func284.trans (congrArg I O3)
 f316:=func96.trans (congrArg I O3)
 f317:=func76.trans (congrArg I O3)
 f318:=func78.trans (congrArg I O3)
 f319:=func79.trans (congrArg I O3)
 f320:=func80.trans (congrArg I O3)
 f321:=func296.trans (congrArg I O3)
 f322:=func297.trans (congrArg I O3)
 f337:=func129.trans (congrArg I O3)
 f338:=func130.trans (congrArg I O3)
 t0:=underlying0
 a0:=isAgg0
 z0:=sizeOf0
 v0:=zeroValue0
 t2:=underlying2
 a2:=isAgg2
 z2:=sizeOf2
 v2:=zeroValue2
 t3:=underlying3
 a3:=isAgg3
 z3:=sizeOf3
 v3:=zeroValue3
 t4:=underlying4
 a4:=isAgg4
 z4:=sizeOf4
 v4:=zeroValue4
 t5:=underlying5
 a5:=isAgg5
 z5:=sizeOf5
 v5:=zeroValue5
 t9:=Awz
 a9:=isAgg9
 z9:=sizeOf9
 v9:=zeroValue9
 t20:=underlying20
 a20:=isAgg20
 z20:=sizeOf20
 v20:=zeroValue20
 t21:=underlying21
 a21:=isAgg21
 z21:=sizeOf21
 v21:=zeroValue21
 t37:=underlying116
 a37:=isAgg116
 z37:=sizeOf116
 v37:=zeroValue116
 t46:=underlying207
 a46:=isAgg207
 z46:=sizeOf207
 v46:=zeroValue207
 t51:=underlying204
 a51:=isAgg204
 z51:=sizeOf204
 v51:=zeroValue204
 t53:=underlying120
 a53:=isAgg120
 z53:=sizeOf120
 v53:=zeroValue120
 t75:=underlying47
 a75:=isAgg47
 z75:=sizeOf47
 v75:=zeroValue47
 t85:=underlying382
 a85:=isAgg382
 z85:=sizeOf382
 v85:=zeroValue382
 t127:=underlying285
 a127:=isAgg285
 z127:=sizeOf285
 v127:=zeroValue285
 t143:=underlying447
 a143:=isAgg447
 z143:=sizeOf447
 v143:=zeroValue447
 t145:=underlying449
 a145:=isAgg449
 z145:=sizeOf449
 v145:=zeroValue449
 t167:=underlying430
 a167:=isAgg430
 z167:=sizeOf430
 v167:=zeroValue430
 t168:=underlying432
 a168:=isAgg432
 z168:=sizeOf432
 v168:=zeroValue432
 t171:=underlying119
 a171:=isAgg119
 z171:=sizeOf119
 v171:=zeroValue119
 t173:=underlying123
 a173:=isAgg123
 z173:=sizeOf123
 v173:=zeroValue123
 t175:=underlying306
 a175:=isAgg306
 z175:=sizeOf306
 v175:=zeroValue306
 t210:=underlying443
 a210:=isAgg443
 z210:=sizeOf443
 v210:=zeroValue443
 t212:=underlying203
 a212:=isAgg203
 z212:=sizeOf203
 v212:=zeroValue203
 t213:=underlying205
 a213:=isAgg205
 z213:=sizeOf205
 t232:=underlying333
 a232:=isAgg333
 z232:=sizeOf333
 v232:=zeroValue333
 t233:=underlying334
 a233:=isAgg334
 z233:=sizeOf334
 v233:=zeroValue334
 g15:=O3
 g16:=O3
 g17:=O3
 g18:=O3
 g19:=O3
 t80:=underlying29
 a80:=isAgg29
 z80:=sizeOf29
 v80:=zeroValue29
 i0:=O3
 i2:=O3
 i3:=O3
 i4:=O3
 i5:=O3
 i9:=O3
 i20:=O3
 i21:=O3
 i37:=O3
 i46:=O3
 i51:=O3
 i53:=O3
 i75:=O3
 i80:=O3
 i85:=O3
 i127:=O3
 i143:=O3
 i145:=O3
 i167:=O3
 i168:=O3
 i171:=O3
 i173:=O3
 i175:=O3
 i210:=O3
 i212:=O3
 i232:=O3
 i233:=O3
 m15:=O3
 m16:=O3
 m17:=O3
 m18:=O3
 m19:=O3
 c0:=O3
 c2:=O3
 c3:=O3
 c4:=O3
 c5:=O3
 c9:=O3
 c20:=O3
 c21:=O3
 c37:=O3
 c46:=O3
 c51:=O3
 c53:=O3
 c75:=O3
 c80:=O3
 c85:=O3
 c127:=O3
 c143:=O3
 c145:=O3
 c167:=O3
 c168:=O3
 c171:=O3
 c173:=O3
 c175:=O3
 c210:=O3
 c212:=O3
 c213:=O3
 c232:=O3
 c233:=by kernel_rfl}
def Avq:Go.Shelf.Ren:=⟨fun|8=>132|6=>183|n=>n,fun|22=>78|23=>131|25=>273|4=>4|3=>3|0=>0|n=>n,fun|n=>n⟩
theorem Agg:Go.Proofs.SlLaysH0.n8 Aa Avq:={
 mixed:=O3
 f6:=⟨f183.name,O4,func183.trans (congrArg I O3)⟩
 f8:=⟨f132.name,O4,func132.trans (congrArg I O3)⟩
 t0:=underlying0
 a0:=isAgg0
 z0:=sizeOf0
 v0:=zeroValue0
 t3:=underlying3
 a3:=isAgg3
 z3:=sizeOf3
 v3:=zeroValue3
 t4:=underlying4
 a4:=isAgg4
 z4:=sizeOf4
 v4:=zeroValue4
 t22:=underlying78
 a22:=isAgg78
 z22:=sizeOf78
 v22:=zeroValue78
 t25:=underlying273
 a25:=isAgg273
 z25:=sizeOf273
 v25:=zeroValue273}
theorem Hr(a:w4=ss):Ending.returned (A w4)=F (A ss):=by rw[a]
theorem Aqj(a:G1 m=true)(b:1<m.size):HH m=false:=by unfold HH;simp[a,b]
theorem Qj(b c:Oy):decide (b=c)=(b.toList==c.toList):=by
 by_cases a:b=c
 ·subst a;simp
 ·rw[decide_eq_false a];symm;rw[beq_eq_false_iff_ne];exact λd=>a (MG d)
def Kx(a:Oy)(b:Nat):Bool:=F4 (a.data.toList.drop b)
theorem Afc(a:w<m.size):Kx m w=(D5 m[w].toNat && Kx m (w+1)):=by
 unfold Kx F4;rw[A2 (by simpa using a),Az2];rfl
theorem An4(a:Oy):Kx a a.size=true:=by
 unfold Kx;rw[Aye O2];rfl
theorem Al8(a:Oy)(l:Q)(B:a.size<=2000):Az Aa 232 #[S a] l λj u=>j=F (A (HH a))/\u=l:=by
 by_cases m:a.size=0
 ·obtain rfl:a=⟨#[]⟩:=Axv (Ayf m);go_enter func232,ntmps232;go_wp2;all_goals
   go_ret;exact⟨Hr rfl,rfl⟩
 ·have z:0<a.size:=O1;have v:(a.toList==([]:List UInt8))=false:=by
   rw[beq_eq_false_iff_ne];intro j;have n:(L a.toList)=a.size:=by rw[Axe];simp
   grind
  have k:G1 a=decide (a[0].toNat=48):=by unfold G1;grind
  have E:(0:Int)<(a.size:Int):=O1;by_cases g:G1 a=true/\1<a.size
  ·have c:=Aqj g.1 g.2;have f:((a[0].toNat:Int)==48)=true:=by
    grind
   have G:(1:Int)<(a.size:Int):=O1;clear k g;go_enter func232,ntmps232;go_wp2;all_goals
    go_ret;exact⟨Hr c.symm,rfl⟩
  ·have c:O9 (HH a=Kx a 0):=by
    show _=_;unfold HH Kx;grind
   have p:¬a[0].toNat=48\/a.size=1:=by
    grind
   clear k g;have f:((a[0].toNat:Int)==48)=false\/((a[0].toNat:Int)==48)=true/\a.size=1:=by
    grind
   clear p;rcases f with f|⟨f,D⟩;all_goals
    go_enter func232,ntmps232;go_wp2;go_loop [18] (λi=>∃b:Nat,b<=a.size/\i=V C b/\O9 (Kx a 0=Kx a b)) (λi=>a.size-(intOf i).toNat)
    ·exact⟨0,Ai _,rfl,rfl⟩
    ·obtain⟨b,y,rfl,d⟩:=hrel;by_cases r:b<a.size
     ·have n:(0:Int)<=(b:Int):=O1;have w:(b:Int)<(a.size:Int):=O1;have h:=Afc r;cases hd:D5 a[b].toNat with
      |true=>
       have q:48<=a[b].toNat/\a[b].toNat<=57:=by simp only[D5,Bh,decide_eq_true_eq]at hd;exact hd
       have s:¬(a[b].toNat:Int)<48:=O1;have t:¬(57:Int)<(a[b].toNat:Int):=O1;have e:=O0 hd;clear hd;go_wp2;exact⟨⟨b+1,O1,by go_num,by show _=_;rw[d.o,h,e.o];rfl⟩,by simp[intOf];omega⟩
      |false=>
       have q:a[b].toNat<48\/57<a[b].toNat:=by
        simp only[D5,Azm,decide_eq_false_iff_not]at hd;omega
       have e:=O0 hd;clear hd;by_cases s:(a[b].toNat:Int)<48
       ·go_wp2;all_goals
         go_ret;exact⟨Hr (by rw[c.o,d.o,h,e.o];rfl),rfl⟩
       ·have t:(57:Int)<(a[b].toNat:Int):=O1;go_wp2;all_goals
         go_ret;exact⟨Hr (by rw[c.o,d.o,h,e.o];rfl),rfl⟩
     ·obtain rfl:b=a.size:=O1;have x:¬(a.size:Int)<(a.size:Int):=O1;go_wp2;go_ret;exact⟨Hr (by rw[c.o,d.o,An4]),rfl⟩
theorem Asw(a:Oy):NP a 0=((a.toList==[109,111,100,117,108,101])||((a.toList==[105,109,112,111,114,116])||((a.toList==[100,101,102])||((a.toList==[108,101,116])||((a.toList==[108,101,116,114,101,99])||((a.toList==[99,111,110])||(a.toList==[99,97,115,101]))))))):=by
 unfold NP Wc;simp only[List.drop_zero,List.any_cons,List.any_nil,Qj,Bool.or_false,Axe]
theorem Wu(a:Oy)(b:Q):Az Aa 131 #[S a] b λc d=>c=F (A (NP a 0))/\d=b:=by
 go_enter func131,ntmps131;go_wp2;all_goals
  go_ret;refine⟨Hr ?_,rfl⟩;rw[(O0 (Asw a)).o];simp_all
def QE(b:Oy):X:=match G9 b with|some a=>R #[V C (9+(a:Int)),A true]|none=>R #[V C 0,A false]
theorem Aer(a:Oy):QE a=if (a.toList==[43])=true then R #[V C 9,A true] else if (a.toList==[45])=true then R #[V C 10,A true] else if (a.toList==[42])=true then R #[V C 11,A true] else if (a.toList==[47])=true then R #[V C 12,A true] else if (a.toList==[61])=true then R #[V C 13,A true] else if (a.toList==[60])=true then R #[V C 14,A true] else R #[V C 0,A false]:=by
 unfold QE G9 OX;simp only[List.findIdx?_cons,List.findIdx?_nil,Qj,Axe];grind
theorem Awr(a:p=y):Ending.returned p=F y:=by rw[a]
theorem Akh(a:Oy)(b:Q):Az Aa 260 #[S a] b λc d=>c=F (QE a)/\d=b:=by
 go_wp2;all_goals
  go_ret2
  rw[(O0 (Aer a)).o];simp_all
theorem Xv(a:List UInt8)(c:UInt8):decide (0<=Lib.indexByte a c)=a.any λb=>b==c:=by
 induction a with
 |nil=>rfl
 |cons b r ih=>
  rw[Lib.indexByte,List.any_cons];grind
theorem Wg(b:Oy):∀c a,b.size-a<=c->0<a->Jz b a=(b.data.toList.drop a).all λd=>Kc d.toNat||D5 d.toNat
 |0,a,hn,hk=>by
  rw[Wv O1,Aye O5];rfl
 |c+1,a,hn,hk=>by
  by_cases e:a<b.size
  ·have f:a<L b.data.toList:=by simpa using e
   rw[Rq e,Wg b c (a+1) O1 O1,A2 f,Az2];have:decide (a≠0)=true:=decide_eq_true O1;rw[this,Bool.true_and];rfl
  ·rw[Wv O1,Aye O5];rfl
theorem Up(a:UInt8):Jh (a.toNat:Int)=Kc a.toNat:=by
 unfold Jh Kc;grind
theorem Aq6(a:UInt8):M7 (a.toNat:Int)=D5 a.toNat:=by
 unfold M7 D5;grind
theorem VM(a:Oy):(CO a && decide (a.size<=10) && !(a.data.toList.any λd=>d==35) && !NP a 0)=CQ a:=by
 unfold CQ;by_cases b:0<a.size
 ·by_cases h:a.size<=10
  ·rw[Adb a b O1,decide_eq_true b,decide_eq_true h,Bool.and_true,Bool.and_true,Bool.and_true];have k:(Jh a[0].toNat && FZ a.data.toList && !(a.data.toList.any λd=>d==35))=Jz a 0:=by
    have l:0<L a.data.toList:=by simpa using b
    have e:a.data.toList=a[0]::a.data.toList.drop 1:=by
     have:=A2 l;exact this
    rw[Rq b,Wg a _ 1 .refl .refl];simp only[ne_eq,not_true_eq_false,decide_false,Bool.false_and,Bool.or_false];conv=>lhs;rw[e]
    rw[Up];cases hlow:Kc a[0].toNat with
    |false=>rfl
    |true=>
     have j:(a[0]==35)=false:=by
      rw[beq_eq_false_iff_ne];intro f;rw[f]at hlow;exact absurd hlow nofun
     unfold FZ;rw[Az2,List.any_cons,j,Bool.false_or,Bool.true_and];have m:GN a[0].toNat=true:=by unfold GN;rw[Up,hlow];rfl
     rw[m,Bool.true_and,Bool.true_and];generalize a.data.toList.drop 1=r;induction r with
     |nil=>rfl
     |cons c q ih=>
      rw[Az2,List.any_cons,Az2,<-ih];have n:GN c.toNat=(Kc c.toNat||D5 c.toNat||(c==35)):=by
       unfold GN;rw[Up,Aq6];congr 1
       rw[Ayw,beq_iff_eq,beq_iff_eq];constructor
       ·intro o;exact Aza.1 O6
       simp_all
      rw[n];cases hc35:c==35 with
      |false=>grind
      |true=>
       have:=eq_of_beq hc35;subst this;have g:Kc (35:UInt8).toNat=false:=rfl;have i:D5 (35:UInt8).toNat=false:=rfl;rw[g,i];simp
   rw[<-k]
  grind
 ·rw[decide_eq_false b,Ad3 a O1];simp
theorem OH(a:Oy)(d:Q)(l:a.size<=2000):Az Aa 84 #[S a] d λb c=>b=F (A (CQ a))/\c=d:=by
 have h:O9 (CQ a=(CO a && decide (a.size<=10) && !(a.data.toList.any λe=>e==35) && !NP a 0)):=(VM a).symm;have g:∀d,Az Aa 99 #[S a,S ⟨#[35]⟩] d λb c=>b=F (A (a.data.toList.any λe=>e==35))/\c=d:=by
  intro d;have i:=Any.strings_Contains_one UX a 35 d;rw[Xv]at i;exact i
 generalize hx:(a.data.toList.any λe=>e==35)=x at*;clear hx;generalize hv:CQ a=v at*;clear hv;by_cases j:a.size<=10
 ·have k:(a.size:Int)<=10:=O1;have f:=decide_eq_true j;go_enter func84,ntmps84;go_wp2_with (first
   |(go_at_call 105;refine(K6 _ _ O8).mono ?_;rintro b c ⟨rfl,rfl⟩)
   |(go_at_call 99;refine(g _).mono ?_;rintro b c ⟨rfl,rfl⟩)
   |(go_at_call 131;refine(Wu _ _).mono ?_;rintro b c ⟨rfl,rfl⟩))
  all_goals
   go_ret;refine⟨Hr ?_,rfl⟩;rw[h.o,f];simp_all
 ·have k:¬(a.size:Int)<=10:=O1;have f:=decide_eq_false j;go_enter func84,ntmps84;go_wp2_with (first
   |(go_at_call 105;refine(K6 _ _ O8).mono ?_;rintro b c ⟨rfl,rfl⟩)
   |(go_at_call 99;refine(g _).mono ?_;rintro b c ⟨rfl,rfl⟩)
   |(go_at_call 131;refine(Wu _ _).mono ?_;rintro b c ⟨rfl,rfl⟩))
  all_goals
   go_ret;refine⟨Hr ?_,rfl⟩;rw[h.o,f];simp_all
def Ip(b:Option Int)(e:Q)(d:Ending)(f:Q):Prop:=Ow e f/\∃a:Int,d=F (R #[V C a,A b.isSome])/\∀c,b=I c->a=c
theorem Ip.none{w':Q}(hb:Ow n w')(b:w4=false):Ip N n (F (R #[V C D,A w4])) w':=⟨hb,D,by rw[b];rfl,λc a=>by cases a⟩
theorem Ip.some{w':Q}(hb:Ow n w')(b:w4=true):Ip (I D) n (F (R #[V C D,A w4])) w':=⟨hb,D,by rw[b];rfl,λc a=>by cases a;rfl⟩
theorem As2(b:q=n\/∃a,q=Lib.bytesWorld n wp a):Ow n q:=by
 rcases b with rfl|⟨a,rfl⟩
 ·exact Ae _ _
 ·exact Joins.below_bytesWorld _ n wp a .refl
theorem Qs(a:Oy)(y:a.size<=2000)(j:SY n M):Az Aa 186 #[S a] n λb c=>Ip (Ej a) n b c:=by
 have l:∀n,Az Aa 233 #[S a,S ⟨#[45]⟩] n λb c=>b=F (S (CB a))/\c=n:=by
  intro n;have d:=Any.strings_TrimPrefix Ai3 a ⟨#[45]⟩ n;rw[Aj8]at d;exact d
 have w:(CB a).size<=2000:=by
  unfold CB;split
  ·rw[Axu];omega
  exact y
 have i:=O0 (λn=>Al8 (CB a) n w);have z:Q1.toList=[45,48]:=by rw[Axe];rfl
 by_cases hb:HH (CB a)=false\/a=Q1
 ·have t:=XB hb;have x:HH (CB a)=false\/(a.toList==[45,48])=true:=by
   grind
  clear hb j;rw[t];generalize HH (CB a)=nb at*;rcases x with d|d;all_goals
   go_enter func186,ntmps186;go_wp2_with (first
    |(go_at_call 233;refine(l _).mono ?_;rintro b c ⟨rfl,rfl⟩)
    |(go_at_call 232;refine(i.o _).mono ?_;rintro b c ⟨rfl,rfl⟩))
   all_goals
    go_ret2
    exact Ip.none (Ae _ _) rfl
 ·have q:HH (CB a)=true:=O6;have p:=λd=>hb (Axf d);have e:=Art q p;have D:(a.toList==[45,48])=false:=by
   rw[beq_eq_false_iff_ne];intro b;exact p (MG (by rw[b,z]))
  rw[q]at i;clear hb q p;cases hw:Ej a with
  |some v=>
   rw[hw]at e;have k:=λn=>Any.strconv_ParseInt_10_at64_ok VQ a O1 v e n;clear e hw j;go_enter func186,ntmps186;go_wp2_with (first
    |(go_at_call 233;refine(l _).mono ?_;rintro b c ⟨rfl,rfl⟩)
    |(go_at_call 232;refine(i.o _).mono ?_;rintro b c ⟨rfl,rfl⟩)
    |(go_at_call 234;refine(k _).mono ?_;rintro b h ⟨rfl,g⟩;have f:=As2 g;clear g))
   go_quiet (fail);go_wp2;have m:=below_drewN (Ae h.heap.size h) nq;go_ret2
   exact Ip.some (f.trans (m.mono f.size)) rfl
  |none=>
   rw[hw]at e;obtain⟨u,r,s⟩:=j.er;have k:=λn r=>Any.strconv_ParseInt_10_at64_range VQ a O1 e u n r s;clear e hw j s;go_enter func186,ntmps186;go_wp2_with (first
    |(go_at_call 233;refine(l _).mono ?_;rintro b c ⟨rfl,rfl⟩)
    |(go_at_call 232;refine(i.o _).mono ?_;rintro b c ⟨rfl,rfl⟩)
    |(go_at_call 234;refine(k _ r).mono ?_;rintro b h ⟨B,rfl,-,-,g⟩;have f:=O0 g;clear g))
   go_quiet (fail);go_wp2;have m:=below_drewN (Ae h.heap.size h) nq;go_ret2
   exact Ip.none (f.o.trans (m.mono f.o.size)) rfl
def Lw(b:Oy)(a:Nat):Option Int:=match Ej b with|some v=>if 0<=v/\v<=(a:Int) then I v else N|none=>N
theorem XT(c:Oy)(f:Nat)(r:c.size<=2000)(k:SY n M):Az Aa 184 #[S c,V C (f:Int)] n λh s=>Ip (Lw c f) n h s:=by
 have d:=O0 (Qs c r k);have g:O9 (Lw c f=match Ej c with|some v=>if 0<=v/\v<=f then I v else N|none=>N):=rfl;clear k;cases hw:Ej c with
 |none=>
  rw[hw]at d g;rw[g.o];clear hw;go_enter func184,ntmps184;go_wp2_with (first
   |(go_at_call 186;refine d.o.mono ?_;rintro h j ⟨a,i,rfl,-⟩;have m:=O0 a;clear a;simp only[Ay3]))
  go_ret2
  exact Ip.none m.o rfl
 |some v=>
  rw[hw]at d g;clear hw;by_cases e:0<=v/\v<=f
  ·rw[g.o];simp only[e,and_self,if_true];let ⟨l,q⟩:=e
   go_enter func184,ntmps184;go_wp2_with (first
    |(go_at_call 186;refine d.o.mono ?_;rintro h j ⟨a,i,rfl,b⟩;obtain rfl:=b v rfl;clear b;simp only[Ay2]))
   go_ret2
   exact Ip.some a rfl
  ·rw[g.o];simp only[e,if_false];by_cases l:0<=v
   ·have q:¬v<=f:=λp=>e ⟨l,p⟩;clear e;go_enter func184,ntmps184;go_wp2_with (first
     |(go_at_call 186;refine d.o.mono ?_;rintro h j ⟨a,i,rfl,b⟩;obtain rfl:=b v rfl;clear b;simp only[Ay2]))
    go_ret2
    exact Ip.none a rfl
   ·clear e;go_enter func184,ntmps184;go_wp2_with (first
     |(go_at_call 186;refine d.o.mono ?_;rintro h j ⟨a,i,rfl,b⟩;obtain rfl:=b v rfl;clear b;simp))
    go_ret2
    exact Ip.none a rfl
def E4{f:Type}(l:Pr f)(g:Nat)(m:Q)(j:Nat->Addr)(i:X)(h:f->Nat->X->Q->Prop)(b:Ending)(e:Q):Prop:=EF g m e/\match l with
 |.ok (a,q)=>∃d,b=F (R #[d,.nilIface])/\h a q d e
 |P (c,k)=>b=F (R #[i,Fu j (Cq c) k])
theorem E4.ok{c:Pr wa}{a:wa->Nat->X->Q->Prop}{b:wa}(e:c=.ok (b,s))(d:EF w n q)(f:a b s y q):E4 c w n M p a (F (R #[y,.nilIface])) q:=⟨d,O6⟩
theorem E4.bad{a:Pr wa}{c:wa->Nat->X->Q->Prop}(d:a=P (s,b))(e:EF w n q)(f:y=Fu M (Cq s) b):E4 a w n M p c (F (R #[p,y])) q:=⟨e,by rw[d,f]⟩
theorem Ss(a:w<=m.size)(b:m.size<=2000):(Bq m w).size<=2000:=by rw[L9 a];have:=Dr a;omega
theorem Aiu(b:Oy)(c a:Nat):D8 b c a=match Lw (Bq b a) c with|some v=>.ok ((v.toNat,B6 b a),BC b a)|none=>P (2,B6 b a):=by
 unfold D8 Lw;grind
theorem Amf(a:Lw m w=I D):m≠⟨#[]⟩/\0<=D/\D<=(w:Int):=by
 refine⟨λb=>?_,?_⟩
 ·unfold Lw at a;rw[b,P6]at a;cases a
 ·unfold Lw at a;grind
theorem SB(e:Nat)(Y:m.size<=2000)(y:PB n q w M)(t:PS q w s m b p j)(i:b<=m.size):
 Az Aa 135 #[J (I ⟨w,0,N⟩),V C (e:Int)] q λc v=>E4 (D8 m e b) w q M (V C 0) (λae H u v=>u=V C (ae.1:Int)/\H<=m.size/\PS v w s m H p j) c v:=by
 have x:=Hn t i;have k:=O0 (Aiu m e b);have l:=O0 y.sy;have G:=Ss i Y;have af:=Iz;clear y;cases hu:Lw (Bq m b) e with
 |none=>
  rw[hu]at k;have r:=O0 hu;clear hu;go_enter func135,ntmps135;go_wp2_with (first
   |(go_at_call 46;refine x.mono ?_;rintro c ab ⟨rfl,d⟩;have g:=O0 (XT (Bq m b) e G (l.o.bG d));have f:=O0 d;clear d;rw[r.o]at g)
   |(go_at_call 184;refine g.o.mono ?_;rintro c ac ⟨h,aa,rfl,-⟩;have a:=f.o.trans (h.mono f.o.size);clear h;have ag:=(l.o.bG a).sy;simp)
   |(go_at_call 83;refine(LW M 12 (t.below a) i).mono ?_;rintro c ad ⟨rfl,B⟩;have K:=O0 (a.trans (B.mono a.size));clear B))
  go_ret2
  exact E4.bad k.o (EF.bW K.o) rfl
 |some u=>
  rw[hu]at k;have E:=Amf hu;have r:=O0 hu;clear hu;go_enter func135,ntmps135;go_wp2_with (first
   |(go_at_call 46;refine x.mono ?_;rintro c ab ⟨rfl,d⟩;have g:=O0 (XT (Bq m b) e G (l.o.bG d));have f:=O0 d;clear d;rw[r.o]at g)
   |(go_at_call 184;refine g.o.mono ?_;rintro c ac ⟨h,aa,rfl,D⟩;obtain rfl:=D u rfl;have a:=f.o.trans (h.mono f.o.size);clear h D;simp)
   |(go_at_call 47;refine(JF (t.below a) i).mono ?_;rintro c ad ⟨rfl,z,U⟩;have O:=O0 ((EF.bW a).trans z);clear z))
  go_ret2
  exact E4.ok k.o O.o ⟨by simp only;rw[Int.toNat_of_nonneg E.2.1];rfl,Dr i,U E.1⟩
def CZ(e:Q)(h:X)(b:Bs):Prop:=∃f g,h=W f (L b) g/\(b≠[]->∃c d,f=I ⟨c,d,N⟩/\c<e.heap.size/\∀a (i:a<L b),e.cell? ⟨c,d+a*2,N⟩=I (.string b[a].1)/\e.cell? ⟨c,d+a*2+1,N⟩=I (V C (b[a].2:Int)))
variable{h:Bs}
theorem CZ.bG{w:Q}(e:CZ w p h)(hb:Ow w n):CZ n p h:=by
 obtain⟨k,c,rfl,f⟩:=e;refine⟨k,c,rfl,λj=>?_⟩;obtain⟨d,o,rfl,g,b⟩:=f j;exact⟨d,o,rfl,Am g hb.size,λi a=>⟨Bu hb (b i a).1,Bu hb (b i a).2⟩⟩
theorem Awq(b c:X)(a:Q):Sem.run Aa (Instr.field 131 (T #[b,c]) 0) a=.ok b a:=O3
theorem Anb(c b:Oy)(g:Int)(d:Nat)(a:Q)(f:a.cell? ⟨d,0,N⟩=I (S b)):Az Aa 133 #[T #[S c,V C g],J (I ⟨d,0,N⟩)] a λe i=>e=F (A (decide (c=b)))/\Ow a i:=by
 have j:=λh=>Bu ((Ae a.heap.size a).alloc .refl h) f;go_wp2;go_ret;exact⟨Hr (O0 (Qj c b)).o.symm,bA⟩
def Ajq(a:Oy×Nat):List X:=[S a.1,V C (a.2:Int)]
theorem Amq(b:Bs)(k:X)(f:Oy)(d:Nat)(c:Q)(D:(L b)<=100000)(q:CZ c k b)(y:c.cell? ⟨d,0,N⟩=I (S f)):
 Az Aa 132 #[k,.func (.func 133) #[] #[J (I ⟨d,0,N⟩)]] c λi l=>i=F (A (CV f (b.map (·.1)) 0))/\Ow c l:=by
 obtain⟨E,n,rfl,u⟩:=q;by_cases r:b=[]
 ·go_wp2_with (go_in)
  go_loop [8] (λe=>e=V C 0) (λ_=>0)
  ·rfl
  ·obtain rfl:=hrel;go_wp2;go_ret;exact⟨Hr rfl,Ae _ _⟩
 ·obtain⟨p,B,rfl,v,z⟩:=u r;have x:=AnyQ.slices_ContainsFunc Agg 2 (by intro c;rfl) (by intro c;rfl) Ajq (λ_=>rfl) (λg=>decide (g.1=f)) 133 #[J (I ⟨d,0,N⟩)] O2 p B (L b) n b c (λm g hb=>by
   have:=Anb g.1 f g.2 d m (Bu hb y);exact this.mono λ_ _ ⟨s,t⟩=>⟨s,hb.trans (t.mono hb.size)⟩) .refl O1 v (by
   intro h w e G a;have j:=z h w;have o:b[h]! =b[h]:=O6;rw[o]at a;match e,a with
   |0,a=>cases a;exact j.1
   |1,a=>cases a;exact j.2
   |e+2,a=>cases a)
  apply x.mono;rintro i l ⟨rfl,hb⟩;refine⟨Hr ?_,hb⟩;unfold CV;grind
theorem Pm(b:Bs)(g:X)(c:Oy)(a:Q)(l:(L b)<=100000)(f:CZ a g b):
 Az Aa 85 #[g,S c] a λd e=>d=F (A (CV c (b.map (·.1)) 0))/\Ow a e:=by
 obtain⟨m,i,rfl,-⟩:=id f;have h:Az Aa 132 #[W m (L b) i,.func (.func 133) #[] #[J (I ⟨a.heap.size,0,N⟩)]] (a.alloc (.cells #[S c] 9)) λd e=>d=F (A (CV c (b.map (·.1)) 0))/\Ow a e:=by
  have hb:Ow a (a.alloc (.cells #[S c] 9)):=bA;exact(Amq b _ c a.heap.size _ l (f.bG hb) O2).mono λ_ _ ⟨j,k⟩=>⟨j,hb.trans (k.mono O2)⟩
 go_enter func85,ntmps85;go_wp2_with (first
  |(apply h.mono;rintro d o ⟨rfl,n⟩))
 go_ret;simp_all
def V2(w:Q)(b:Nat)(x y:X):Prop:=w.cell? ⟨b,0,N⟩=I x/\w.cell? ⟨b,1,N⟩=I y/\w.frozen? ⟨b,0,N⟩=false/\w.frozen? ⟨b,1,N⟩=false
theorem V2.lt(a:V2 n w p y):w<n.heap.size:=AL a.1
theorem V2.bG{w:Q}{b:Nat}(a:V2 w b p y)(hb:Ow w n):V2 n b p y:=by
 have c:=hb.block b a.lt;exact⟨Bu hb a.1,Bu hb a.2.1,by rw[AJ c];exact a.2.2.1,by rw[AJ c];exact a.2.2.2⟩
theorem V2.ef{w:Q}{b d:Nat}{x y:X}(a:V2 w b x y)(e:EF d w n)(f:b≠d):V2 n b x y:=by
 have c:=e.block b a.lt f;exact⟨by rw[Ak c];exact a.1,by rw[Ak c];exact a.2.1,by rw[AJ c];exact a.2.2.1,by rw[AJ c];exact a.2.2.2⟩
theorem V2.put(a:V2 n w p y)(b c:X):V2 ((n.setCell ⟨w,0,N⟩ b).setCell ⟨w,1,N⟩ c) w b c:=by
 refine⟨?_,Au _ _ _ (by rw[Ah _ _ _ _ (Cv O1)];exact a.2.1),?_,?_⟩
 ·rw[Ah _ _ _ _ (Cv O1)];exact Au _ _ _ a.1
 ·rw[Aq,Aq];exact a.2.2.1
 ·rw[Aq,Aq];exact a.2.2.2
theorem V2.cM{b c j:Nat}{u:X}(a:V2 n b p y)(d:b≠c):V2 (n.setCell ⟨c,j,N⟩ u) b p y:=by
 refine⟨?_,?_,?_,?_⟩
 ·rw[Ah _ _ _ _ O2];exact a.1
 ·rw[Ah _ _ _ _ O2];exact a.2.1
 ·rw[Aq];exact a.2.2.1
 ·rw[Aq];exact a.2.2.2
def Dg(e:Oy)(b:List Oy)(c:Nat):Pr (Oy×Nat):=pb (Em e c) λa d=>if CV a.1 b 0=true then P (5,a.2) else .ok (a,d)
theorem Ahw{others:List Oy}(a:CQ (Bq m w)=false):Dg m others w=P (2,B6 m w):=by unfold Dg Em;rw[if_neg (by simp[a]),DR]
theorem Aqo{others:List Oy}(a:CQ (Bq m w)=true)(b:CV (Bq m w) others 0=true):Dg m others w=P (5,B6 m w):=by unfold Dg Em;rw[if_pos a,BQ,if_pos b]
theorem Aj9{others:List Oy}(a:CQ (Bq m w)=true)(b:CV (Bq m w) others 0=false):Dg m others w=.ok ((Bq m w,B6 m w),BC m w):=by unfold Dg Em;rw[if_pos a,BQ,if_neg (by simp[b])]
theorem ZM(a:CQ m=true):m≠⟨#[]⟩:=λb=>by rw[b,Pj]at a;cases a
theorem VT{w:Q}{x:Nat}{v:X}(g:Bs)(a4:m.size<=2000)(am:(L g)<=100000)(aj:PB n w x M)(i:PS w x s m b p j)(y:b<=m.size)(af:CZ w v g):
 Az Aa 45 #[J (I ⟨x,0,N⟩),v] w λe r=>E4 (Dg m (g.map (·.1)) b) x w M (T #[S ⟨#[]⟩,V C 0]) (λay ar v r=>v=T #[S ay.1,V C (ay.2:Int)]/\ar<=m.size/\PS r x s m ar p j) e r/\(∀ai ah,Dg m (g.map (·.1)) b=P (ai,ah)->Ow w r):=by
 obtain⟨a9,a8,rfl,-⟩:=id af;have ab:=λa (hb:Ow w a)=>Hn (i.below hb) y;have ae:=O0 aj.sy;have ag:=Ss y a4;have a6:=Iz;have a7:=Qg;have U:=i.lt;have al:=i.dy;clear aj;have t:∀c,Ow w (w.alloc c):=λc=>bA;have ac:O9 (V2 (w.alloc (.cells #[S ⟨#[]⟩,V C 0] 131)) w.heap.size (S ⟨#[]⟩) (V C 0)):=⟨O2,O2,O2,O2⟩;cases hw:CQ (Bq m b) with
 |false=>
  have u:=Ahw (others:=g.map (·.1)) hw;have a3:=O0 hw;clear hw;go_enter func45,ntmps45;go_wp2_with (first
   |(go_at_call 46;refine(ab _ (t _)).mono ?_;rintro e a ⟨rfl,f⟩;have h:Ow w a:=(t _).trans (f.mono O2);have d:∀c,Ow w (a.alloc c):=(λc=>h.alloc h.size _);have aB:=λc=>(ae.o.bG (d c)).sy;have B:=O0 (ac.o.bG f);clear f)
   |(go_at_call 84;refine(OH _ _ ag).mono ?_;rintro e r ⟨rfl,rfl⟩;rw[a3.o])
   |(go_at_call 83;refine(LW M 12 (i.below (d _)) y).mono ?_;rintro e Y ⟨rfl,q⟩;have z:Ow w Y:=(d _).trans (q.mono (d _).size);have o:=(B.o.bG bA).bG q;obtain⟨an,ao,ap,aq⟩:=id o;clear q))
  obtain⟨D,G,-,-⟩:=o.put (S ⟨#[]⟩) (V C 0);refine AZ (v:=R #[T #[S ⟨#[]⟩,V C 0],Fu M 12 (B6 m b)]) (by simp[results,results45,go_sem,D,G]) rfl ?_;exact⟨E4.bad u (EF.bW ((z.setCell (Ac _) _).setCell (Ac _) _)) rfl,λ_ _ _=>(z.setCell (Ac _) _).setCell (Ac _) _⟩
 |true=>
  cases hi:CV (Bq m b) (g.map (·.1)) 0 with
  |true=>
   have u:=Aqo (others:=g.map (·.1)) hw hi;have aa:=O0 hi;clear hi;go_enter func45,ntmps45;go_wp2_with (first
    |(go_at_call 46;refine(ab _ (t _)).mono ?_;rintro e a ⟨rfl,f⟩;have h:Ow w a:=(t _).trans (f.mono O2);have d:∀c,Ow w (a.alloc c):=(λc=>h.alloc h.size _);have B:=ac.o.bG f;clear f)
    |(go_at_call 84;refine(OH _ _ ag).mono ?_;rintro e r ⟨rfl,rfl⟩;rw[hw])
    |(go_at_call 85;refine(Pm g _ _ _ am (af.bG (d _))).mono ?_;rintro e H ⟨rfl,k⟩;have l:Ow w H:=(d _).trans (k.mono (d _).size);have ad:=O0 ((B.bG bA).bG k);have K:V2 H a.heap.size (S (Bq m b)) (V C (B6 m b:Int)):=V2.bG (w:=a.alloc (.cells #[S (Bq m b),V C (B6 m b:Int)] 127)) ⟨O2,O2,O2,O2⟩ k;obtain⟨au,av,aw,ax⟩:=id K;have a5:=(ae.o.bG l).tw;clear k;rw[aa.o])
    |(go_at_call 83;refine(LW M 14 (i.below l) y).mono ?_;rintro e Y ⟨rfl,q⟩;have z:Ow w Y:=l.trans (q.mono l.size);have o:=ad.o.bG q;obtain⟨an,ao,ap,aq⟩:=id o;clear q))
   obtain⟨D,G,-,-⟩:=o.put (S ⟨#[]⟩) (V C 0);refine AZ (v:=R #[T #[S ⟨#[]⟩,V C 0],Fu M 14 (B6 m b)]) (by simp[results,results45,go_sem,D,G]) rfl ?_;exact⟨E4.bad u (EF.bW ((z.setCell (Ac _) _).setCell (Ac _) _)) rfl,λ_ _ _=>(z.setCell (Ac _) _).setCell (Ac _) _⟩
  |false=>
   have u:=Aj9 (others:=g.map (·.1)) hw hi;have aa:=O0 hi;have a0:=ZM hw;clear hi;go_enter func45,ntmps45;go_wp2_with (first
    |(go_at_call 46;refine(ab _ (t _)).mono ?_;rintro e a ⟨rfl,f⟩;have h:O9 (Ow w a):=(t _).trans (f.mono O2);have d:∀c,Ow w (a.alloc c):=(λc=>h.o.alloc h.o.size _);have B:=ac.o.bG f;clear f)
    |(go_at_call 84;refine(OH _ _ ag).mono ?_;rintro e r ⟨rfl,rfl⟩;rw[hw])
    |(go_at_call 85;refine(Pm g _ _ _ am (af.bG (d _))).mono ?_;rintro e H ⟨rfl,k⟩;have l:O9 (Ow w H):=(d _).trans (k.mono (d _).size);have ad:=O0 ((B.bG bA).bG k);have K:O9 (V2 H a.heap.size (S (Bq m b)) (V C (B6 m b:Int))):=V2.bG (w:=a.alloc (.cells #[S (Bq m b),V C (B6 m b:Int)] 127)) ⟨O2,O2,O2,O2⟩ k;obtain⟨au,av,aw,ax⟩:=id K.o;have a5:=(ae.o.bG l.o).tw;clear k;rw[aa.o])
    |(go_at_call 47;refine(JF (i.below l.o) y).mono ?_;rintro e Y ⟨rfl,O,ak⟩;have az:=(EF.bW (E:=x) l.o).trans O;have a1:=O0 (ak a0);have a2:=K.o.ef O (Aws (Am U h.o.size));have o:=ad.o.ef O (Aws U);obtain⟨an,ao,ap,aq⟩:=id o;obtain⟨au,av,aw,ax⟩:=id a2;clear O ak))
   obtain⟨D,G,-,-⟩:=o.put (S (Bq m b)) (V C (B6 m b:Int));refine AZ (v:=R #[T #[S (Bq m b),V C (B6 m b:Int)],.nilIface]) (by simp[results,results45,go_sem,D,G]) rfl ?_;refine⟨E4.ok u ?_ ⟨rfl,Dr y,?_⟩,λai ah i=>by rw[u]at i;cases i⟩
   ·exact JZ (JZ az (Ac _)) (Ac _)
   ·exact(a1.o.cM (Aws U) (Aws al)).cM (Aws U) (Aws al)
theorem Tp(a:Bs)(o:m.size<=2000)(k:(L a)<=100000)(h:PB n q w M)(c:PS q w s m b p j)(l:b<=m.size)(i:CZ q y a):
 Az Aa 45 #[J (I ⟨w,0,N⟩),y] q λg d=>E4 (Dg m (a.map (·.1)) b) w q M (T #[S ⟨#[]⟩,V C 0]) (λf e y d=>y=T #[S f.1,V C (f.2:Int)]/\e<=m.size/\PS d w s m e p j) g d:=
 (VT a o k h c l i).mono λ_ _ c=>c.1
def He(b:Nat->Addr)(c a:Nat):X:=T #[Z 447 (J (I (b c))),V C 0,V C (a:Int)]
variable{xq:Pr Unit}
theorem Js.bY(a:Js xq w n M yi n2 q)(c:xq=P (s,b)):n2=F (Z 85 (He M (Cq s) b))/\EF w n q:=by
 subst c;exact⟨a.2,a.1⟩
theorem Js.isOk(a:Js xq w n M yi n2 q)(b:xq=.ok (x3,s)):n2=F .nilIface/\EF w n q/\yi s q:=by
 subst b;exact⟨a.2.1,a.1,a.2.2⟩
theorem E4.bY{c:Pr wa}{d:wa->Nat->X->Q->Prop}(a:E4 c w n M p d n2 q)(e:c=P (s,b)):n2=F (R #[p,Z 85 (He M (Cq s) b)])/\EF w n q:=by
 subst e;exact⟨a.2,a.1⟩
theorem E4.isOk{d:Pr wa}{b:wa->Nat->X->Q->Prop}{e:wa}(c:E4 d w n M p b n2 q)(g:d=.ok (e,s)):∃a,n2=F (R #[a,.nilIface])/\EF w n q/\b e s a q:=by
 subst g;let ⟨a,h,f⟩:=c.2;exact⟨a,h,c.1,f⟩
theorem Ang(b c:Oy)(a:Nat):GB b [c] a=BS b c a:=by
 show pb (BS b c a) (λ_ d=>.ok ((),d))=_;match BS b c a with
 |P e=>rfl
 |.ok ((),d)=>rfl
theorem KY(d:Oy)(t:PB n q w M)(i:PS q w s m b p j)(l:b<=m.size)(x:d≠⟨#[]⟩):
 Az Aa 44 #[J (I ⟨w,0,N⟩),W (I ⟨q.heap.size,0,N⟩) 1 1] (q.alloc (.cells #[S d] 9)) λh g=>Js (BS m d b) w q M (λf g=>f<=m.size/\PS g w s m f p j) h g:=by
 have hb:Ow q (q.alloc (.cells #[S d] 9)):=bA;have k:EF w q (q.alloc (.cells #[S d] 9)):=EF.bW hb;have v:Uu (q.alloc (.cells #[S d] 9)) w (W (I ⟨q.heap.size,0,N⟩) 1 1) [d]:=⟨q.heap.size,0,1,rfl,Aws i.lt,λo u=>by
  have:o=0:=O6;subst this;simp⟩
 refine(Ye (t.ef k) (i.below hb) l v O2 (λo u=>nofun)).mono ?_;rintro h g ⟨r,e⟩;rw[Ang]at e;refine⟨k.trans r,?_⟩;match hr:BS m d b with
 |P (c,a)=>grind
 |.ok ((),f)=>
  rw[hr]at e;refine⟨e.1,(Cl x b l () f hr).2,e.2 λz y=>?_⟩;grind
abbrev Dy(d:Q)(b:Nat)(c:X)(a:Bs):Prop:=Cm wC (λ_=>[]) (λ_ _=>True) 131 2 d b c a
theorem L4:(Aa.info? 131).map (λa=>(a.zero,a.size,a.bytes))=I (I (T #[S ⟨#[]⟩,V C 0]),2,24):=O3
theorem Ab8(b:Bs)(a:Nat)(d:a<L b):(b.flatMap wC)[a*2]?=I (.string b[a].1)/\(b.flatMap wC)[a*2+1]?=I (V C (b[a].2:Int)):=K2 (λc:Oy×Nat=>Value.string c.1) (λc=>Value.int C c.2) b a d
theorem Dy.nm{l:Bs}(a:Dy n w p l):CZ n p l:=by
 obtain⟨g,c,rfl⟩:=a.slice;refine⟨g,c,rfl,λm=>?_⟩;rcases U6 a.own with⟨b,o⟩|⟨d,h,b,-,k⟩
 ·grind
 ·cases b;refine⟨d,0,rfl,(a.rg d (Ad _ (by rw[EV];simp))).2,λf e=>?_⟩;let ⟨i,j⟩:=Ab8 l f e
  grind
theorem Cm.ef{g:wa->List X}{e:wa->List Nat}{d:Q->wa->Prop}{i:Nat}(m:Ht e d){w k:Q}{c f:Nat}{j:X}{l:List wa}(a:Cm g e d wp i w c j l)(h:EF f w k)(n:f<c):Cm g e d wp i k c j l:=
 a.fr m h.size λb hb=>h.block b (a.rg b hb).2 (by have:=(a.rg b hb).1;omega)
theorem JS:BO.toList=[41]:=by rw[Axe];rfl
theorem Rg:B8.toList=[40]:=by rw[Axe];rfl
theorem IU(b:w0.toList=o)(a:m=w0):(m.toList==o)=true:=by rw[a,b];simp
theorem IA(c:w0.toList=o)(b:¬m=w0):(m.toList==o)=false:=by
 rw[beq_eq_false_iff_ne];intro a;exact b (MG (by rw[a,c]))
def KE:X->Nat
 |W _ n _=>n
 |_=>0
structure Oj (d g:Nat) (c:Oy) (h:X) (i:Nat) (f:Pr Bs) (e wr:Q) (a:Bs) (b:Nat) (k:Option Addr) (j:Nat):Prop where
 hq:b<=c.size
 ps:PS wr d g c b h i
 row:Dy wr e.heap.size (W k (L a) j) a
 ef:EF d e wr
 eq:f=DP c (c.size+1-L a) a b
 len:(L a)<=b
theorem Uv(f:EF w n q)(i:∀c,p.ownBlock=I c->n.heap.size<=c)(b:(q.alloc v9).grownBy Y p.ownBlock):EF w n Y:=by
 have a:EF w n (q.alloc v9):=f.trans (EF.bW bA);refine⟨b.os.trans a.os,b.tape.trans a.tape,b.output.trans a.output,Ay a.size b.size,λe d g=>?_⟩;rw[b.block e (Am d a.size) (λh=>O6)];exact a.block e d g
theorem PS.push(t:PS n w s m b p j)(k:∀d,y.ownBlock=I d->d≠w/\d≠s)(h:(n.alloc v9).grownBy q y.ownBlock):PS q w s m b p j:=by
 have a:PS (n.alloc v9) w s m b p j:=t.below bA;have c:=h.block w a.lt (λe=>(k w e.symm).1 rfl);have g:=h.block s a.dy (λe=>(k s e.symm).2 rfl);let ⟨D,r,E,u,v,z,l⟩:=a.c0
 refine⟨⟨D,r,?_,u,v,z,λo i=>⟨?_,?_⟩⟩,?_,?_,λB x=>?_⟩
 ·rwa[Ak c]
 ·rw[Ak g];exact(l o i).1
 ·rw[Ak g];exact(l o i).2
 ·rw[Ak c];exact a.c1
 ·rw[Ak c];exact a.c2
 ·rw[AJ c];exact a.f B x
theorem Aj6(a:Bq m s=BO):DP m (w+1) h s=.ok (h,BC m s):=by exact if_pos a
theorem Acu(c:¬Bq m s=BO):DP m (w+1) h s=pb (Dg m (h.map (·.1)) s) λa b=>DP m w (h++[a]) b:=by
 refine(if_neg c).trans ?_;unfold Dg;match Em m s with
 |P e=>rfl
 |.ok (a,b)=>
  show(if CV a.1 (h.map (·.1)) 0=true then _ else _)=pb (if CV a.1 (h.map (·.1)) 0=true then _ else _) _;split<;>rfl
theorem Oj.push{d h:Nat}{b:Oy}{l:X}{o:Nat}{r:Pr Bs}{j wr i k:Q}{a:Bs}{f g:Nat}{q:Option Addr}{p:Nat}{x:Oy×Nat}{w:Obj}(c:Oj d h b l o r j wr a f q p)(z:d<j.heap.size)(ab:h<j.heap.size)(H:¬Bq b f=BO)(v:Dg b (a.map (·.1)) f=.ok (x,g))(m:EF d wr i)(B:PS i d h b g l o)(n:(i.alloc w).grownBy k (W q (L a) p).ownBlock){e t:Nat}(D:(W q (L a) p).ownBlock=I e\/e=(i.alloc w).heap.size)(G:e<k.heap.size)(K:k.ownsRow 0 131 2 (W (I ⟨e,0,N⟩) (L a+1) t) (L a+1) (a.flatMap wC++[S x.1,V C (x.2:Int)])):
 Oj d h b l o r j k (a++[x]) g (I ⟨e,0,N⟩) t:=by
 have E:(a++[x]).length=L a+1:=O2;have u:=c.row.ef EK m z;have O:=λs hb=>(u.rg s (Ad _ (Ca.2 hb))).1;have ac:=c.len;have M:f+1<=g/\g<=b.size:=by
  let ⟨Y,U,y,aa⟩:=Bp v
  have:=HY f c.hq Y U y;grind
 refine⟨M.2,B.push (λs hb=>⟨O6,O6⟩) n,?_,Uv (c.ef.trans m) O n,?_,O1⟩
 ·rw[E];exact u.cW EK (Ay c.ef.size m.size) trivial n D G K
 ·rw[c.eq,show b.size+1-L a=(b.size+1-(a++[x]).length)+1 by omega,Acu H,v,BQ]
theorem Zu(a9:m.size<=2000)(ab:PB n q w M)(z:PS q w s m b p j)(a6:b<=m.size):
 Az Aa 136 #[J (I ⟨w,0,N⟩)] q λg H=>E4 (FN m b) w q M (W N 0 0) (λaC h ar H=>h<=m.size/\PS H w s m h p j/\Dy H q.heap.size ar aC) g H:=by
 have ac:=z.lt;have a1:=z.dy;have aa:=KY B8 ab z a6 O4;have au:=O0 ab;obtain⟨aB,a5,an⟩:=AB.1 L4;simp only[Aw0]at an;obtain⟨a2,a3,a4⟩:=an;clear ab z;have aD:=Iz;match d:BS m B8 b with
 |P (c,a)=>
  have x:FN m b=P (c,a):=by
   show pb (BS m B8 b) _=_;rw[d,DR]
  have U:=O0 d;clear d;go_enter func136,ntmps136;go_wp2_with (first
   |(go_at_call 44;refine aa.mono ?_;rintro g i d;obtain⟨rfl,B⟩:=d.bY U.o;clear d))
  go_ret2
  exact E4.bad x B rfl
 |.ok ((),q0)=>
  have x:FN m b=DP m (m.size+1) [] q0:=by
   show pb (BS m B8 b) _=_;rw[d,BQ]
  have U:=O0 d;clear d;go_enter func136,ntmps136;go_wp2_with (first
   |(go_at_call 44;refine aa.mono ?_;rintro g i d;obtain⟨rfl,B,a7,ak⟩:=d.isOk U.o;clear d))
  have ai:Oj w s m p j (DP m (m.size+1) [] q0) q i [] q0 N 0:=⟨a7,ak,Cm.nil _ _,B,rfl,Ai _⟩;generalize DP m (m.size+1) [] q0=R at*;clear ak aa;go_loopw [5] (λaf wr=>∃(e:Bs) (h:Nat) (G:Option Addr) (D:Nat),af=W G (L e) D/\O9 (Oj w s m p j R q wr e h G D)) (λaf _=>m.size+1-KE af)
  ·exact⟨[],q0,N,0,rfl,ai⟩
  ·clear ai B;obtain⟨e,h,G,D,rfl,f⟩:=hrel;rename Q=>wr
   have ae:=f.o.hq;have aF:=f.o.len;have O:=Hn f.o.ps ae;have ah:=au.o.ef f.o.ef;by_cases t:Bq m h=BO
   ·have Y:R=.ok (e,BC m h):=by
     show _=_;rw[f.o.eq,show m.size+1-L e=(m.size-L e)+1 by omega,Aj6 t]
    have a0:=IU JS t;have az:=O0 (λi (hb:Ow wr i)=>KY BO (ah.ef (EF.bW hb)) (f.o.ps.below hb) ae O4);have ay:=Tq t;clear t;go_wp2_with (first
     |(go_at_call 46;refine O.mono ?_;rintro g i ⟨rfl,r⟩;have k:=O0 r;clear r)
     |(go_at_call 44;refine(az.o _ k.o).mono ?_;rintro g K d;obtain⟨rfl,l,a8,ad⟩:=d.isOk ay;have v:=(EF.bW (E:=w) k.o).trans l;clear d l))
    go_ret2
    exact E4.ok (x.trans Y) (f.o.ef.trans v) ⟨a8,ad,f.o.row.ef EK v ac⟩
   ·have a0:=IA JS t;have av:=O0 t;have ax:R=pb (Dg m (e.map (·.1)) h) λu ag=>DP m (m.size-L e) (e++[u]) ag:=by
     show _=_;rw[f.o.eq,show m.size+1-L e=(m.size-L e)+1 by omega,Acu t]
    have aj:=O0 (λi (hb:Ow wr i)=>Tp e a9 O1 (ah.ef (EF.bW hb)) (f.o.ps.below hb) ae (f.o.row.nm.bG hb));clear t;match hx:Dg m (e.map (·.1)) h with
    |P (c,a)=>
     have Y:R=P (c,a):=by show _=_;rw[ax,hx,DR]
     have y:=O0 hx;clear hx;go_wp2_with (first
      |(go_at_call 46;refine O.mono ?_;rintro g i ⟨rfl,r⟩;have k:=O0 r;clear r)
      |(go_at_call 45;refine(aj.o _ k.o).mono ?_;rintro g K d;obtain⟨rfl,l⟩:=d.bY y.o;have v:=(EF.bW (E:=w) k.o).trans l;clear d l))
     go_ret2
     exact E4.bad (x.trans Y) (f.o.ef.trans (v.trans (EF.bW bA))) rfl
    |.ok (u,ag)=>
     have y:=O0 hx;clear hx;go_wp2_with (first
      |(go_at_call 46;refine O.mono ?_;rintro g i ⟨rfl,r⟩;have k:=O0 r;clear r)
      |(go_at_call 45;refine(aj.o _ k.o).mono ?_;rintro g K d;obtain⟨ar,rfl,l,rfl,aG,ad⟩:=d.isOk y.o;have v:=(EF.bW (E:=w) k.o).trans l;clear d l)
      |(at_builtin;refine wpList_append_lies _ rfl (.tmp 27) (.tmp 29) 78 rfl 0 131 aB _ 2 24 underlying78 a5 a2 a3 a4 rfl O1 (W G (L e) D) (L e) (e.flatMap wC) rfl (((f.o.row.ef EK v ac).own.alloc _).alloc _) ⟨K.heap.size+1,0,N⟩ 1 1 [S u.1,V C (u.2:Int)] rfl rfl (by simpa using A5 (AM (K.alloc (AW #[S u.1,V C (u.2:Int)] 131)) (AW #[S u.1,V C (u.2:Int)] 131))) (by intro aI aq;simp at aq;rcases aq with rfl|rfl<;>rfl) O1 O8 O1 (Ai _) _ rfl ?_;intro aE aH aJ ap am al ao;have aw:=O0 (f.o.push ac a1 av.o y.o (v.trans (EF.bW bA)) (ad.below bA) am al ao ap);clear ap am al ao))
     exact⟨⟨_,ag,_,_,by rw[Aw];rfl,aw.o⟩,by simp[KE];omega⟩
theorem Wd:ET 180 184 2 16:=.of underlying180 (z:=T #[V C 0,V C 0]) O3 rfl O1 O1
theorem Xu:ET 95 182 3 40:=.of underlying95 (z:=T #[V C 0,V C 0,W N 0 0]) O3 rfl O1 O1
theorem Xj:ET 56 97 4 56:=.of underlying56 (z:=T #[S ⟨#[]⟩,V C 0,A false,W N 0 0]) O3 rfl O1 O1
theorem V8:ET 55 94 2 24:=.of underlying55 (z:=T #[S ⟨#[]⟩,V C 0]) O3 rfl O1 O1
theorem CW{T:A0}(d:w6.underlying wp=I (.struct xr))(a:(w6.info? wp).map (·.zero)=I (I p))(c:T≠wp)(f:X)(g:A0)(b:Q):Sem.run w6 (Axg (Z T f) g wp true) b=.ok (R #[p,A false]) b:=by
 let ⟨h,a,e⟩:=AB.1 a
 simp[Axg,run_underlying d,c,zeroValue,typeInfo,a,e]
theorem Hk{P:Program}(c:P.underlying wp=I (.struct xr))(b:X)(d:A0)(a:Q):Sem.run P (Axg (Z wp b) d wp true) a=.ok (R #[b,A true]) a:=by
 simp[Axg,run_underlying c]
theorem Pa:(Aa.info? 339).map (·.zero)=I (I (T #[V C 0])):=O3
theorem Ko:(Aa.info? 131).map (·.zero)=I (I (T #[S ⟨#[]⟩,V C 0])):=O3
theorem Of:(Aa.info? 352).map (·.zero)=I (I (T #[.nilIface,W N 0 0])):=O3
theorem J3:(Aa.info? 290).map (·.zero)=I (I (T #[A false,W N 0 0,W N 0 0,.nilIface])):=O3
theorem YS:(Aa.info? 392).map (·.zero)=I (I (T #[V C 0,W N 0 0])):=O3
theorem OI:(Aa.info? 294).map (·.zero)=I (I (T #[.nilIface,W N 0 0])):=O3
theorem Ve:(Aa.info? 350).map (·.zero)=I (I (T #[V C 0,.nilIface,.nilIface])):=O3
def Ez:Ex->Bs
 |.lets _ ns _ _=>ns
 |_=>[]
def BK:Ex->List Ex
 |.call ps=>ps
 |.lets _ _ es b=>es++[b]
 |.CE _ fs=>fs
 |.case e _=>[e]
 |.op _ l r=>[l,r]
 |_=>[]
def CA:Ex->List (Nat×Bs×Ex)
 |.case _ F5=>F5
 |_=>[]
structure NF (d c:Nat) (a b:Q):Prop where
 os:b.os=a.os
 tape:b.tape=a.tape
 output:b.output=a.output
 size:a.heap.size<=b.heap.size
 block:∀k,k<a.heap.size->k<c->k≠d->b.heap[k]?=a.heap[k]?
def left(c:Oy)(a:Nat)(b:Q):Nat:=match b.cell? ⟨a,3,N⟩,b.cell? ⟨a,1,N⟩ with|some (V _ e),I (V _ q)=>if e=0 then c.size+1-q.toNat else 0|_,_=>0
def fl{a:Type}(c b:Nat)(d:Pr a):Pr a:=match d with|.ok _=>P (c,b)|P e=>P e
def Aqy:Go.Shelf.Ren:=⟨fun|171=>6|243=>14|246=>24|283=>39|284=>40|285=>41|286=>42|129=>77|317=>76|318=>78|319=>79|320=>80|337=>129|338=>130|n=>n,fun|3=>3|9=>9|2=>2|4=>4|171=>119|0=>0|53=>120|37=>116|5=>5|173=>123|212=>203|51=>204|20=>20|213=>205|46=>207|232=>333|233=>334|n=>n,fun|17=>19|18=>21|19=>22|n=>n⟩
theorem Ag2:Go.Proofs.LaysM.n171 Aa Aqy:={
 mixed:=O3
 f129:=func77.trans (congrArg I O3)
 f171:=func6.trans (congrArg I O3)
 f243:=func14.trans (congrArg I O3)
 f246:=func24.trans (congrArg I O3)
 f283:=func39.trans (congrArg I O3)
 f284:=func40.trans (congrArg I O3)
 f285:=func41.trans (congrArg I O3)
 f286:=func42.trans (congrArg I O3)
 f317:=func76.trans (congrArg I O3)
 f318:=func78.trans (congrArg I O3)
 f319:=func79.trans (congrArg I O3)
 f320:=func80.trans (congrArg I O3)
 f337:=func129.trans (congrArg I O3)
 f338:=func130.trans (congrArg I O3)
 t0:=underlying0
 a0:=isAgg0
 z0:=sizeOf0
 v0:=zeroValue0
 t2:=underlying2
 a2:=isAgg2
 z2:=sizeOf2
 v2:=zeroValue2
 t3:=underlying3
 a3:=isAgg3
 z3:=sizeOf3
 v3:=zeroValue3
 t4:=underlying4
 a4:=isAgg4
 z4:=sizeOf4
 v4:=zeroValue4
 t5:=underlying5
 a5:=isAgg5
 z5:=sizeOf5
 v5:=zeroValue5
 t9:=Awz
 a9:=isAgg9
 z9:=sizeOf9
 v9:=zeroValue9
 t20:=underlying20
 a20:=isAgg20
 z20:=sizeOf20
 v20:=zeroValue20
 t37:=underlying116
 a37:=isAgg116
 z37:=sizeOf116
 v37:=zeroValue116
 t46:=underlying207
 a46:=isAgg207
 z46:=sizeOf207
 v46:=zeroValue207
 t51:=underlying204
 a51:=isAgg204
 z51:=sizeOf204
 v51:=zeroValue204
 t53:=underlying120
 a53:=isAgg120
 z53:=sizeOf120
 v53:=zeroValue120
 t171:=underlying119
 a171:=isAgg119
 z171:=sizeOf119
 v171:=zeroValue119
 t173:=underlying123
 a173:=isAgg123
 z173:=sizeOf123
 v173:=zeroValue123
 t212:=underlying203
 a212:=isAgg203
 z212:=sizeOf203
 v212:=zeroValue203
 t213:=underlying205
 a213:=isAgg205
 z213:=sizeOf205
 t232:=underlying333
 a232:=isAgg333
 z232:=sizeOf333
 v232:=zeroValue333
 t233:=underlying334
 a233:=isAgg334
 z233:=sizeOf334
 v233:=zeroValue334
 g17:=O3
 g18:=O3
 g19:=O3
 i0:=O3
 i2:=O3
 i3:=O3
 i4:=O3
 i5:=O3
 i9:=O3
 i20:=O3
 i37:=O3
 i46:=O3
 i51:=O3
 i53:=O3
 i171:=O3
 i173:=O3
 i212:=O3
 i232:=O3
 i233:=O3
 m17:=O3
 m18:=O3
 m19:=by kernel_rfl}
theorem Qe(a:Int)(d:-9223372036854775808<=a)(e:a<=9223372036854775807)(b:Q)(f:Lib.TabIs Aa b "internal/strconv.uint64pow10" .u64 Lib.pow10Tab):
 Az Aa 6 #[V C a] b λc i=>c=F (S ⟨(Lib.itoa a).toArray⟩)/\∃g h,i=Sort.grow (b.drewN g) h:=Any.strconv_Itoa Ag2 a d e b f
def Aky:Go.Shelf.Ren:=⟨fun|190=>103|125=>139|258=>149|128=>195|129=>77|302=>212|303=>213|304=>214|305=>215|306=>216|307=>217|308=>218|309=>219|310=>220|333=>252|329=>236|330=>237|334=>253|335=>254|336=>255|344=>278|n=>n,fun|31=>25|9=>9|3=>3|46=>207|0=>0|51=>204|53=>120|4=>4|183=>342|182=>341|131=>259|5=>5|218=>384|222=>388|228=>404|229=>328|n=>n,fun|n=>n⟩
theorem Aue:Go.Proofs.Lays.n190 Aa Aky:={
 mixed:=O3
 f125:=func139.trans (congrArg I O3)
 f128:=func195.trans (congrArg I O3)
 f129:=func77.trans (congrArg I O3)
 f190:=func103.trans (congrArg I O3)
 f258:=func149.trans (congrArg I O3)
 f302:=func212.trans (congrArg I O3)
 f303:=func213.trans (congrArg I O3)
 f304:=func214.trans (congrArg I O3)
 f305:=func215.trans (congrArg I O3)
 f306:=func216.trans (congrArg I O3)
 f307:=func217.trans (congrArg I O3)
 f308:=func218.trans (congrArg I O3)
 f309:=func219.trans (congrArg I O3)
 f310:=func220.trans (congrArg I O3)
 f329:=func236.trans (congrArg I O3)
 f330:=func237.trans (congrArg I O3)
 f333:=func252.trans (congrArg I O3)
 f334:=func253.trans (congrArg I O3)
 f335:=func254.trans (congrArg I O3)
 f336:=func255.trans (congrArg I O3)
 f344:=func278.trans (congrArg I O3)
 t0:=underlying0
 a0:=isAgg0
 z0:=sizeOf0
 v0:=zeroValue0
 t3:=underlying3
 a3:=isAgg3
 z3:=sizeOf3
 v3:=zeroValue3
 t4:=underlying4
 a4:=isAgg4
 z4:=sizeOf4
 v4:=zeroValue4
 t5:=underlying5
 a5:=isAgg5
 z5:=sizeOf5
 v5:=zeroValue5
 t9:=Awz
 a9:=isAgg9
 z9:=sizeOf9
 v9:=zeroValue9
 t31:=underlying25
 a31:=isAgg25
 z31:=sizeOf25
 v31:=zeroValue25
 t46:=underlying207
 a46:=isAgg207
 z46:=sizeOf207
 v46:=zeroValue207
 t51:=underlying204
 a51:=isAgg204
 z51:=sizeOf204
 v51:=zeroValue204
 t53:=underlying120
 a53:=isAgg120
 z53:=sizeOf120
 v53:=zeroValue120
 t131:=underlying259
 a131:=isAgg259
 z131:=sizeOf259
 v131:=zeroValue259
 t182:=underlying341
 a182:=isAgg341
 z182:=sizeOf341
 v182:=zeroValue341
 t183:=underlying342
 a183:=isAgg342
 z183:=sizeOf342
 v183:=zeroValue342
 t218:=underlying384
 a218:=isAgg384
 z218:=sizeOf384
 v218:=zeroValue384
 t222:=underlying388
 a222:=isAgg388
 z222:=sizeOf388
 v222:=zeroValue388
 t228:=underlying404
 a228:=isAgg404
 z228:=sizeOf404
 v228:=zeroValue404
 t229:=underlying328
 a229:=isAgg328
 z229:=sizeOf328
 v229:=zeroValue328}
def Afv:Go.Shelf.Ren:=⟨fun|6=>93|15=>139|14=>138|28=>195|29=>77|20=>187|21=>188|22=>189|23=>190|24=>191|25=>192|26=>193|27=>194|46=>235|47=>236|48=>237|49=>238|50=>239|57=>269|n=>n,fun|22=>55|24=>94|25=>233|3=>3|39=>207|0=>0|53=>204|55=>120|4=>4|46=>342|45=>341|50=>259|5=>5|9=>9|66=>384|70=>388|76=>404|77=>328|n=>n,fun|n=>n⟩
theorem Aau:Go.Proofs.SlLaysF0.n6 Aa Afv:={
 mixed:=O3
 f6:=⟨f93.name,O4,func93.trans (congrArg I O3)⟩
 f14:=⟨f138.name,O4,func138.trans (congrArg I O3)⟩
 f15:=func139.trans (congrArg I O3)
 f20:=⟨f187.name,O4,func187.trans (congrArg I O3)⟩
 f21:=⟨f188.name,O4,func188.trans (congrArg I O3)⟩
 f22:=⟨f189.name,O4,func189.trans (congrArg I O3)⟩
 f23:=⟨Tryz.f190.name,O4,func190.trans (congrArg I O3)⟩
 f24:=⟨f191.name,O4,func191.trans (congrArg I O3)⟩
 f25:=⟨f192.name,O4,func192.trans (congrArg I O3)⟩
 f26:=⟨f193.name,O4,func193.trans (congrArg I O3)⟩
 f27:=⟨f194.name,O4,func194.trans (congrArg I O3)⟩
 f28:=func195.trans (congrArg I O3)
 f29:=func77.trans (congrArg I O3)
 f46:=⟨f235.name,O4,func235.trans (congrArg I O3)⟩
 f47:=func236.trans (congrArg I O3)
 f48:=func237.trans (congrArg I O3)
 f49:=⟨f238.name,O4,func238.trans (congrArg I O3)⟩
 f50:=⟨f239.name,O4,func239.trans (congrArg I O3)⟩
 f57:=⟨f269.name,O4,func269.trans (congrArg I O3)⟩
 t0:=underlying0
 a0:=isAgg0
 z0:=sizeOf0
 v0:=zeroValue0
 t3:=underlying3
 a3:=isAgg3
 z3:=sizeOf3
 v3:=zeroValue3
 t4:=underlying4
 a4:=isAgg4
 z4:=sizeOf4
 v4:=zeroValue4
 t5:=underlying5
 a5:=isAgg5
 z5:=sizeOf5
 v5:=zeroValue5
 t9:=Awz
 a9:=isAgg9
 z9:=sizeOf9
 v9:=zeroValue9
 t22:=underlying55
 a22:=isAgg55
 z22:=sizeOf55
 v22:=zeroValue55
 t25:=underlying233
 a25:=isAgg233
 z25:=sizeOf233
 v25:=zeroValue233
 t39:=underlying207
 a39:=isAgg207
 z39:=sizeOf207
 v39:=zeroValue207
 t45:=underlying341
 a45:=isAgg341
 z45:=sizeOf341
 v45:=zeroValue341
 t46:=underlying342
 a46:=isAgg342
 z46:=sizeOf342
 v46:=zeroValue342
 t50:=underlying259
 a50:=isAgg259
 z50:=sizeOf259
 v50:=zeroValue259
 t53:=underlying204
 a53:=isAgg204
 z53:=sizeOf204
 v53:=zeroValue204
 t55:=underlying120
 a55:=isAgg120
 z55:=sizeOf120
 v55:=zeroValue120
 t66:=underlying384
 a66:=isAgg384
 z66:=sizeOf384
 v66:=zeroValue384
 t70:=underlying388
 a70:=isAgg388
 z70:=sizeOf388
 v70:=zeroValue388
 t76:=underlying404
 a76:=isAgg404
 z76:=sizeOf404
 v76:=zeroValue404
 t77:=underlying328
 a77:=isAgg328
 z77:=sizeOf328
 v77:=zeroValue328}
def Awj:Go.Shelf.Ren:=⟨fun|6=>100|15=>139|14=>148|28=>195|29=>77|20=>204|21=>205|22=>206|23=>207|24=>208|25=>209|26=>210|27=>211|46=>249|47=>236|48=>237|49=>250|50=>251|57=>277|n=>n,fun|22=>56|24=>97|25=>243|3=>3|39=>207|0=>0|53=>204|55=>120|4=>4|46=>342|45=>341|50=>259|5=>5|9=>9|66=>384|70=>388|76=>404|77=>328|n=>n,fun|n=>n⟩
theorem Ad4:Go.Proofs.SlLaysF0.n6 Aa Awj:={
 mixed:=O3
 f6:=⟨f100.name,O4,func100.trans (congrArg I O3)⟩
 f14:=⟨f148.name,O4,func148.trans (congrArg I O3)⟩
 f15:=func139.trans (congrArg I O3)
 f20:=⟨f204.name,O4,func204.trans (congrArg I O3)⟩
 f21:=⟨Tryz.f205.name,O4,func205.trans (congrArg I O3)⟩
 f22:=⟨Tryz.f206.name,O4,func206.trans (congrArg I O3)⟩
 f23:=⟨f207.name,O4,func207.trans (congrArg I O3)⟩
 f24:=⟨Tryz.f208.name,O4,func208.trans (congrArg I O3)⟩
 f25:=⟨f209.name,O4,func209.trans (congrArg I O3)⟩
 f26:=⟨f210.name,O4,func210.trans (congrArg I O3)⟩
 f27:=⟨f211.name,O4,func211.trans (congrArg I O3)⟩
 f28:=func195.trans (congrArg I O3)
 f29:=func77.trans (congrArg I O3)
 f46:=⟨f249.name,O4,func249.trans (congrArg I O3)⟩
 f47:=func236.trans (congrArg I O3)
 f48:=func237.trans (congrArg I O3)
 f49:=⟨f250.name,O4,func250.trans (congrArg I O3)⟩
 f50:=⟨f251.name,O4,func251.trans (congrArg I O3)⟩
 f57:=⟨f277.name,O4,func277.trans (congrArg I O3)⟩
 t0:=underlying0
 a0:=isAgg0
 z0:=sizeOf0
 v0:=zeroValue0
 t3:=underlying3
 a3:=isAgg3
 z3:=sizeOf3
 v3:=zeroValue3
 t4:=underlying4
 a4:=isAgg4
 z4:=sizeOf4
 v4:=zeroValue4
 t5:=underlying5
 a5:=isAgg5
 z5:=sizeOf5
 v5:=zeroValue5
 t9:=Awz
 a9:=isAgg9
 z9:=sizeOf9
 v9:=zeroValue9
 t22:=underlying56
 a22:=isAgg56
 z22:=sizeOf56
 v22:=zeroValue56
 t25:=underlying243
 a25:=isAgg243
 z25:=sizeOf243
 v25:=zeroValue243
 t39:=underlying207
 a39:=isAgg207
 z39:=sizeOf207
 v39:=zeroValue207
 t45:=underlying341
 a45:=isAgg341
 z45:=sizeOf341
 v45:=zeroValue341
 t46:=underlying342
 a46:=isAgg342
 z46:=sizeOf342
 v46:=zeroValue342
 t50:=underlying259
 a50:=isAgg259
 z50:=sizeOf259
 v50:=zeroValue259
 t53:=underlying204
 a53:=isAgg204
 z53:=sizeOf204
 v53:=zeroValue204
 t55:=underlying120
 a55:=isAgg120
 z55:=sizeOf120
 v55:=zeroValue120
 t66:=underlying384
 a66:=isAgg384
 z66:=sizeOf384
 v66:=zeroValue384
 t70:=underlying388
 a70:=isAgg388
 z70:=sizeOf388
 v70:=zeroValue388
 t76:=underlying404
 a76:=isAgg404
 z76:=sizeOf404
 v76:=zeroValue404
 t77:=underlying328
 a77:=isAgg328
 z77:=sizeOf328
 v77:=zeroValue328}
theorem QP(b:X)(a:Q):(callFunc 50 #[Z 447 b]).run Aa a=.ok (.value (Z 216 (T #[J (I ⟨27,447,N⟩)]))) a:=O3
theorem RT(a:Q):(callFunc 328 #[T #[J (I ⟨27,447,N⟩)]]).run Aa a=.ok (.value (A true)) a:=O3
theorem RU(a:X)(b:Q):(Go.method 577 216 a "Comparable").run Aa b=.ok (328,a) b:=O3
theorem RZ:(Aa.info? 447).map (·.comparable)=I true:=O3
theorem QM:(Aa.info? 449).map (·.size)=I 1:=O3
theorem ZV(b:X)(c:A0)(a:Q):(Axg (Z 447 b) c 218 true).run Aa a=.ok (R #[.nilIface,A false]) a:=run_typeAssert_lacksB underlying218 O3 O3 b c a
theorem SA(b:X)(c:A0)(a:Q):(Axg (Z 447 b) c 221 true).run Aa a=.ok (R #[.nilIface,A false]) a:=run_typeAssert_lacksB underlying221 O3 O3 b c a
theorem Vk(b:X)(c:A0)(a:Q):(Axg (Z 447 b) c 223 true).run Aa a=.ok (R #[.nilIface,A false]) a:=run_typeAssert_lacksB underlying223 O3 O3 b c a
theorem Xq(b:X)(c:A0)(a:Q):(Axg (Z 85 b) c 218 true).run Aa a=.ok (R #[.nilIface,A false]) a:=run_typeAssert_lacksB underlying218 O3 O3 b c a
theorem Aco(a:X)(c:A0)(b:Q):(Axg (Z 85 a) c 221 true).run Aa b=.ok (R #[Z 85 a,A true]) b:=run_typeAssert_hasB underlying221 O3 a c b
theorem XX(a:X)(b:Q):(Go.method 577 85 a "Unwrap").run Aa b=.ok (321,a) b:=O3
theorem Ag4(a:Addr)(b:Q):
 Az Aa 29 #[Z 447 (J (I a)),Z 447 (J (I a))] b λc g=>c=F (A true)/\g=b:=by
 let ⟨j,e,d⟩:=AB.1 RZ
 let ⟨k,f,i⟩:=AB.1 QM
 have m:=QP;have cT:=RT;have l:=RU;have h:=run_eql_iface_ptr_same (P:=Aa) b a underlying47 underlying447 e d f;go_enter func29,ntmps29;go_wp2;apply wp_loop_rounds 1;rw[rounds_succ];go_wp2;go_ret;simp
theorem Aku(b c:Addr)(d cb:Array X)(k tb:A0)(a:Q)(j:b≠c)(f:a.heap[b.block]?=I (.cells d k (0,0)))(hb:a.heap[c.block]?=I (.cells cb tb (0,0))):
 Az Aa 29 #[Z 447 (J (I b)),Z 447 (J (I c))] a λe l=>e=F (A false)/\l=a:=by
 let ⟨o,h,g⟩:=AB.1 RZ
 let ⟨p,i,n⟩:=AB.1 QM
 have s:=QP;have cT:=RT;have q:=RU;have r:=ZV;have t:=SA;have u:=Vk;have m:=run_eql_iface_ptr_other (P:=Aa) a underlying47 underlying447 h g i O1 j f hb;go_enter func29,ntmps29;go_wp2;apply wp_loop_rounds 1;rw[rounds_succ];go_wp2;go_ret;simp
theorem Abn(a:X)(b c:Int)(d:Q):
 Az Aa 321 #[T #[a,V C b,V C c]] d λe f=>e=F a/\f=d.alloc (.cells #[a,V C b,V C c] 85):=by
 go_wp2;go_ret;simp
theorem Apg(b:Addr)(h i:Int)(a:Q):
 Az Aa 29 #[Z 85 (T #[Z 447 (J (I b)),V C h,V C i]),Z 447 (J (I b))] a λc d=>c=F (A true)/\Ow a d:=by
 let ⟨n,f,e⟩:=AB.1 RZ
 let ⟨o,g,l⟩:=AB.1 QM
 have s:=QP;have cT:=RT;have p:=RU;have r:=Xq;have t:=Aco;have q:=XX;have k:=λa=>run_eql_iface_ptr_same a b underlying47 underlying447 f e g;have m:=λj=>run_eql_iface_types 85 447 j (J (I b)) underlying47 nofun a;go_enter func29,ntmps29;go_wp2;refine wp_loop_rounds 2 ?_;rw[rounds_succ];go_wp2_with (first|go_in|(go_at_call 321;refine(Abn _ _ _ _).mono ?_;rintro c d ⟨rfl,rfl⟩))
 rw[rounds_succ];go_wp2;go_ret;exact⟨rfl,bA⟩
theorem Aty(c:X)(a:Q):
 Az Aa 30 #[.nilIface,c] a λb d=>b=F (A false)/\d=a:=by
 go_wp2;go_ret;simp
theorem Zg(b:Addr)(a:Q):(ReflectliteValue.unpack (Z 87 (J (I b)))).run Aa a
 =.ok (T #[J (I ⟨27,87,N⟩),J (I ⟨a.heap.size,0,N⟩),V .u64 150]) (a.alloc (.cells #[J (I b)] 87)):=O3
theorem Z3(b:Addr)(a:Q):(ReflectliteValue.methodAny (ReflectliteValue.valueError "reflectlite.Value.Type" 0) (λc _ _ _=>ReflectliteType.toType c) #[T #[J (I ⟨27,87,N⟩),J (I b),V .u64 150]]).run Aa a
 =.ok (Z 216 (T #[J (I ⟨27,87,N⟩)])) a:=rfl
theorem Aas(a:X)(b:Q):(Go.method 577 216 (T #[a]) "Kind").run Aa b=.ok (317,a) b:=O3
theorem Aah(a:Q):((ReflectliteType.abiMethod λc=>Functor.map (λb:Nat=>Value.int IntKind.u8 (b:Int)) (Rtype.kind c)) #[J (I ⟨27,87,N⟩)]).run Aa a=.ok (V .u8 22) a:=O3
theorem WX(a:Q):((ReflectliteType.abiMethod λc=>Functor.map (λb:Nat=>Value.int IntKind.u8 (b:Int)) (Rtype.kind c)) #[J (I ⟨27,85,N⟩)]).run Aa a=.ok (V .u8 25) a:=O3
theorem W7(d:Sem X)(b:A0->Addr->Nat->Nat->Sem X)(c:X):
 ReflectliteValue.method d b #[c]=(do match <-ReflectliteValue.parts c with|none=>d|some (t,a,fl)=>b t a fl (fl % 32)):=rfl
theorem X6(a:Addr)(b:Q):(ReflectliteValue.parts (T #[J (I ⟨27,87,N⟩),J (I a),V .u64 150])).run Aa b=.ok (I (87,a,150)) b:=O3
theorem Ys(b d:Addr)(a:Q)(c:a.cell? b=I (J (I d))):
 (ReflectliteValue.method (ReflectliteValue.valueError "reflectlite.Value.IsNil" 0) ReflectliteValue.isNil #[T #[J (I ⟨27,87,N⟩),J (I b),V .u64 150]]).run Aa a=.ok (A false) a:=by
 rw[W7];simp[Sem.run_bind,X6,Result.andThen];simp[ReflectliteValue.isNil,loadVar,isAgg,underlying,underlying87,c,Result.andThen]
theorem Ack(a:X)(b:Q):(Go.method 577 216 (T #[a]) "Elem").run Aa b=.ok (329,T #[a]) b:=O3
theorem Z6(a:X)(b:Q):(Go.method 577 216 (T #[a]) "Implements").run Aa b=.ok (330,T #[a]) b:=O3
theorem Aa5(a:X)(b:Q):(Go.method 577 216 (T #[a]) "AssignableTo").run Aa b=.ok (327,T #[a]) b:=O3
theorem Wj(a:Q):(ReflectliteType.method ReflectliteType.elem #[T #[J (I ⟨27,87,N⟩)]]).run Aa a=.ok (Z 216 (T #[J (I ⟨27,85,N⟩)])) a:=O3
theorem Z2(a:Q):(ReflectliteType.relation "Implements" ReflectliteType.implements_ #[T #[J (I ⟨27,85,N⟩)],Z 216 (T #[J (I ⟨27,47,N⟩)])]).run Aa a=.ok (A true) a:=O3
theorem Alw(b:X)(a:Q):(ReflectliteType.typeOf #[Z 85 b]).run Aa a=.ok (Z 216 (T #[J (I ⟨27,85,N⟩)])) a:=rfl
theorem Ae4(b:X)(a:Q):(ReflectliteType.typeOf #[Z 447 b]).run Aa a=.ok (Z 216 (T #[J (I ⟨27,447,N⟩)])) a:=rfl
theorem Aou(a:Q):(ReflectliteType.relation "AssignableTo" ReflectliteType.assignableTo #[T #[J (I ⟨27,85,N⟩)],Z 216 (T #[J (I ⟨27,85,N⟩)])]).run Aa a=.ok (A true) a:=O3
theorem Agb(a:Q):(ReflectliteType.relation "AssignableTo" ReflectliteType.assignableTo #[T #[J (I ⟨27,447,N⟩)],Z 216 (T #[J (I ⟨27,85,N⟩)])]).run Aa a=.ok (A false) a:=O3
theorem Avs(b c d:X)(a:Q):(ReflectliteValue.unpack (Z 85 (T #[b,c,d]))).run Aa a
 =.ok (T #[J (I ⟨27,85,N⟩),J (I ⟨a.heap.size,0,N⟩),V .u64 153]) (a.alloc (.cells #[b,c,d] 85)):=O3
theorem As8(a:Q):(Rtype.elem? 87).run Aa a=.ok (I 85) a:=O3
theorem Atq(a:Addr)(b:Q):(ReflectliteValue.mk 85 a ReflectliteValue.flagAddr).run Aa b=.ok (T #[J (I ⟨27,85,N⟩),J (I a),V .u64 409]) b:=O3
theorem Alo(b c:Addr)(a:Q)(d:a.cell? b=I (J (I c))):
 (ReflectliteValue.method (ReflectliteValue.valueError "reflectlite.Value.Elem" 0) ReflectliteValue.elem #[T #[J (I ⟨27,87,N⟩),J (I b),V .u64 150]]).run Aa a
  =.ok (T #[J (I ⟨27,85,N⟩),J (I c),V .u64 409]) a:=by
 rw[W7];simp[Sem.run_bind,X6,Result.andThen];simp[ReflectliteValue.elem,loadVar,isAgg,underlying,underlying87,d,Result.andThen,As8,Atq]
theorem Aug(a:Addr)(b:Q):(ReflectliteValue.parts (T #[J (I ⟨27,85,N⟩),J (I a),V .u64 409])).run Aa b=.ok (I (85,a,409)) b:=O3
theorem Aoi(a:Addr)(b:Q):(ReflectliteValue.parts (T #[J (I ⟨27,85,N⟩),J (I a),V .u64 153])).run Aa b=.ok (I (85,a,153)) b:=O3
theorem Agd(a:Q):(Rtype.directlyAssignable 85 85).run Aa a=.ok true a:=rfl
def Ke(d:Region.Mode)(c:Array Oper):Bool:=(AV c.size).all λb=>match c[b]? with|some o=>o.after.all λa=>!Region.binds d a||decide (a.on<b)|none=>false
theorem Afg(f:Ke w9 wk=true){b:Nat}{e:Oper}(d:wk[b]?=I e):∀a∈e.after,Region.binds w9 a=true->a.on<b:=by
 intro a g hb;have c:=Axk.1 f b (Ayo.2 (A9.1 d).1);rw[d]at c;have h:=Array.all_eq_true'.1 c a g;grind
theorem M8(f:Ke w9 wk=true){c:Array Bool}(m:c.size=wk.size):∀b,b<wk.size->c.getD b true=false->Ba w9 wk c≠[]:=by
 intro b;induction b using Nat.strongRecOn with
 |_ b ih=>
  intro h j;have d:=Axz h;by_cases e:∀a∈wk[b].after,Region.binds w9 a=true->c.getD a.on false=true
  ·have l:=mem_ready.2 ⟨j,_,d,e⟩;grind
  ·have i:∃a,a∈wk[b].after/\Region.binds w9 a=true/\c.getD a.on false=false:=by
    grind
   let ⟨a,g,hb,n⟩:=i
   have k:=Afg f d a g hb;grind
theorem Ae7(d:Ke w9 wk=true){b:Array Bool}(f:b.size=wk.size)(c:Ba w9 wk b=[]):∀a,a<wk.size->b.getD a false=true:=by
 intro a e;cases hx:b.getD a false with
 |true=>rfl
 |false=>exact absurd c (M8 d f a e (getD_in O1 hx))
def K5(c:Program)(g:Array Oper)(b:Exit->Act->Q->Prop)(f d:Nat):Exit->Act->Q->Prop
 |.normal,a,w=>wpOps c g b (List.range' f d) a w
 |e,a,w=>b e a w
theorem ZL(a:wpOp w6 wk (K5 w6 wk nh w s) b v6 ws n):wpOp w6 wk nh b v6 ws n:=by
 unfold wpOp at*;split
 ·grind
 ·rename_i g d
  simp[d]at a;split
  ·rename_i f
   simp only[f,if_true]at a;rcases a with a|a
   ·refine .inl ?_;unfold Oper.wp at*;generalize (execOp ws.eval g).run w6 n=r at*;cases r with
    |ok nx w'=>
     cases nx<;>simp[Oper.upon]at a ⊢<;>first|exact a|exact Calls.mono a (λc h e=>by cases c<;>exact e)
    |halt x w'=>cases x<;>simp[Oper.upon]at a ⊢<;>exact a
   ·exact .inr a
  grind
def EP:Array Bool->Nat->Nat->Array Bool
 |l,_,0=>l
 |l,n,k+1=>(EP l (n+1) k).setIfInBounds n true
theorem RM:∀a c b,(EP b c a).size=b.size
 |0,_,_=>rfl
 |a+1,c,b=>by rw[EP,Azv,RM a]
theorem NH:∀e d c b a,b<d->(EP c d e).getD b a=c.getD b a
 |0,_,_,_,_,_=>rfl
 |e+1,d,c,b,a,h=>by rw[EP,A3 a O1,NH e (d+1) c b a O1]
theorem Tb:∀d b e a c,b<=a->a<b+d->a<e.size->(EP e b d).getD a c=true
 |0,_,_,_,_,h1,h2,_=>O1
 |d+1,b,e,a,c,h1,h2,h3=>by
  rw[EP];by_cases f:b=a
  ·subst f;rw[Aw9,Aya (by rw[RM];exact h3)];rfl
  ·rw[A3 c f,Tb d (b+1) e a c O1 O1 h3]
theorem Aka(a:vf.getD b false=true):(EP vf s w).getD b false=true:=by
 induction w generalizing s with
 |zero=>exact a
 |succ w ih=>exact getD_set_true ih
theorem U5:∀c b d a,a<b->(EP d b c).setIfInBounds a true=EP (d.setIfInBounds a true) b c
 |0,_,_,_,_=>rfl
 |c+1,b,d,a,h=>by rw[EP,EP,Array.setIfInBounds_comm _ _ O1,U5 c (b+1) d a O1]
theorem Acm(g:b<w)(c:b∈Ba w9 wk vf):b∈Ba w9 wk (EP vf w s):=by
 let ⟨d,i,h,e⟩:=mem_ready.1 c
 exact mem_ready.2 ⟨by rw[NH _ _ _ _ _ g];exact d,i,h,λa f hb=>Aka (e a f hb)⟩
theorem Z5(x:Ke w9 wk=true):∀e a c h j,a+e=wk.size->Region.chainB w9 wk a=true->c.size=wk.size->(∀b,b<a->c.getD b true=true)->(∀g,a<=g->g<wk.size->c.getD g true=false)->
 wpOps w6 wk nh (List.range' a e) h j->∀d,e<=d->wpAny w6 w9 wk nh d c h j:=by
 intro e;induction e with
 |zero=>
  intro a c h j D _ m w _ i d _;refine wpAny_done ?_ i d;cases hr:Ba w9 wk c with
  |nil=>rfl
  |cons n l=>
   have p:n∈Ba w9 wk c:=by rw[hr];simp
   obtain⟨G,H,q,-⟩:=mem_ready.1 p;grind
 |succ e ih=>
  intro a c h j D o m w r i d U;obtain⟨k,rfl⟩:∃k,d=k+1:=⟨d-1,O1⟩;rw[List.range'_succ,wpOps_cons]at i;refine⟨λu=>absurd u (M8 x m a O1 (r a .refl O1)),λb y=>?_⟩;let ⟨G,H,q,ad⟩:=mem_ready.1 y
  have B:=(A9.1 q).1;have Y:a<=b:=by
   grind
  obtain rfl:b=a:=by
   rcases Aw8 a b with v|v
   ·exfalso;have f:=Axk.1 o b (Ayo.2 B);simp[Bab,decide_eq_true_eq]at f;rcases f with f|f
    ·omega
    ·let ⟨ae,aa,M,O,hb,ab⟩:=Region.waitsFor_spec f
     grind
   ·omega
  refine wpOp_mono (λs K t=>ih (b+1) _ s K O1 ?_ (by simpa using m) (λn p=>?_) (λg ac E=>?_) t k O1) i
  ·unfold Region.chainB at o ⊢;grind
  ·by_cases z:b=n
   ·simp_all
   ·rw[A3 true z];grind
  ·rw[A3 true O1];exact r g O1 E
theorem Ahz(B:w+(s+1)=wk.size)(n:Ke w9 wk=true)(H:Region.sinkB w9 wk w=true)(p:Region.chainB w9 wk w=true):∀(e:Nat) (a:Array Bool) (d:Act) (f:Q),HeadInv w9 wk w a->
 wpAnyH w6 w9 wk (K5 w6 wk nh w (s+1)) sf e (EP a w (s+1)) d f->wpAny w6 w9 wk nh (e+(s+1)) a d f:=by
 have r:∀e a d f,HeadInv w9 wk w a->(∀b,b<w->a.getD b true=true)->K5 w6 wk nh w (s+1) .normal d f->wpAny w6 w9 wk nh (e+(s+1)) a d f:=
  λe a d f c g u=>Z5 n (s+1) w a d f B p c.size g c.tail u _ O1
 have E:∀a,HeadInv w9 wk w a->(∀b,b<w->a.getD b true=true)->Ba w9 wk (EP a w (s+1))=[]:=by
  intro a c g;cases hr:Ba w9 wk (EP a w (s+1)) with
  |nil=>rfl
  |cons j l=>
   have z:j∈Ba w9 wk (EP a w (s+1)):=by rw[hr];simp
   obtain⟨k,aa,G,-⟩:=mem_ready.1 z;have Y:=(A9.1 G).1;by_cases q:j<w
   ·rw[NH _ _ _ _ _ q,g j q]at k;cases k
   ·rw[Tb _ _ _ _ _ O1 O1 (by rw[c.size];omega)]at k;cases k
 have K:∀a,HeadInv w9 wk w a->Ba w9 wk a≠[]:=λa c=>M8 n c.size w O1 (c.tail w .refl O1);intro e;induction e with
 |zero=>
  intro a d f c h;refine r 0 a d f c (λb i=>?_) h.2;cases hx:a.getD b true with
  |true=>rfl
  |false=>exact absurd h.1 (M8 n (by rw[RM];exact c.size) b O1 (by rwa[NH _ _ _ _ _ i]))
 |succ e ih=>
  intro a d f c h;by_cases g:∀b,b<w->a.getD b true=true
  ·exact r (e+1) a d f c g (h.1 (E a c g))
  ·have D:∃b,b<w/\a.getD b true=false:=by
    grind
   let ⟨O,y,M⟩:=D
   rw[show e+1+(s+1)=(e+(s+1))+1 by omega];refine⟨λx=>absurd x (K a c),λb i=>?_⟩;have o:b<w:=by
    rcases Aw8 b w with m|m
    ·exact m
    ·exact absurd i (tail_waits H p O1 c _ O rfl y M b m)
   refine ZL (wpOp_mono (λt U v=>?_) (h.2 b (Acm o i)));refine ih _ t U (c.set i o) ?_;rw[<-U5 _ _ _ _ o];exact v.2
theorem VH(c:Nat):HeadInv w9 wk c (Array.replicate wk.size false):=by
 refine⟨O2,λf g d a=>?_,λh e b=>by simp[b]⟩;rw[getD_replicate_false]at a;cases a
theorem Ans{S:Q->Prop}(a b:Nat)(g:w6.follows .mixedOrders=true)(h:a+(b+1)=wk.size)(f:Ke .any wk=true)(i:Region.sinkB .any wk a=true)(e:Region.chainB .any wk a=true)(d:S n.drew)(c:S n.drew->wpAnyH w6 .any wk (K5 w6 wk nh a (b+1)) S a (EP (Array.replicate wk.size false) a (b+1)) ws n.drew):(Code.region w wk true).wp w6 nh ws n:=by
 refine wp_region_any g ?_;have j:=Ahz h f i e a (Array.replicate wk.size false) ws n.drew (VH a) (c d);simp_all
theorem count_set:∀(a:List Bool) i,a[i]?=I false->(a.set i true).count false+1=a.count false
 |[],i,h=>by simp at h
 |b::a,0,h=>O6
 |b::a,i+1,h=>by
  grind
theorem Akf(x:Ke w9 wk=true)(g:Array Bool->Act->Q->Prop)(z:∀a c d b f,g a c d->wk[b]?=I f->a.getD b true=false->(∀r∈f.after,Region.binds w9 r=true->a.getD r.on false=true)->wpOp w6 wk nh b (λk i=>sf i/\g (a.setIfInBounds b true) k i) c d)(t:∀a c d,g a c d->(∀b,b<wk.size->a.getD b false=true)->nh .normal c d):
 ∀e a c d,a.size=wk.size->a.toList.count false<=e->g a c d->wpAnyH w6 w9 wk nh sf e a c d:=by
 intro e;induction e with
 |zero=>
  intro a c d p w h;have m:∀b,b<wk.size->a.getD b false=true:=by
   intro b u;cases hx:a.getD b false with
   |true=>rfl
   |false=>
    have D:false∈a.toList:=by
     have n:b<a.size:=O1;have:a[b]=false:=by simp_all
     grind
    grind
  refine⟨?_,t _ _ _ h m⟩;cases hr:Ba w9 wk a with
  |nil=>rfl
  |cons j l=>
   have y:j∈Ba w9 wk a:=by rw[hr];simp
   obtain⟨q,f,o,-⟩:=mem_ready.1 y;grind
 |succ e ih=>
  intro a c d p w h;refine⟨λv=>t _ _ _ h (Ae7 x p v),λb u=>?_⟩;let ⟨q,f,o,m⟩:=mem_ready.1 u
  refine wpOp_mono (λk i s=>⟨s.1,ih _ k i (by simpa using p) ?_ s.2⟩) (z a c d b f h o q m);have n:b<a.size:=by have:=(A9.1 o).1;omega
  have B:=count_set a.toList b (by
   rw[Azn,Axz n];simpa[n]using q)
  rw[Array.toList_setIfInBounds];omega
structure DV (c:List Nat) (b a:Act):Prop where
 defers:a.defers=b.defers
 size:a.tmps.size=b.tmps.size
 it:∀k,k∉c->a.tmps[k]?=b.tmps[k]?
theorem DV.refl(b:List Nat)(a:Act):DV b a a:=⟨rfl,rfl,λ_ _=>rfl⟩
theorem DV.put{a:Act}(b:DV t ws a){c:Nat}(h:c∈t)(f:X):DV t ws (a.put (I c) f):=
 ⟨b.defers,by rw[<-b.size];exact Azv,λe d=>by
  rw[<-b.it e d];exact Array.getElem?_setIfInBounds_ne (λg=>d O6)⟩
theorem DV.eval(b:DV t ws xs){a:Nat}(c:a∉t):xs.eval (.tmp a)=ws.eval (.tmp a):=by
 show xs.tmps.getD a Aw7=ws.tmps.getD a Aw7;rw[Aw9,Aw9,b.it a c]
theorem IE(b:w<ws.tmps.size)(a:X):(ws.put (I w) a).eval (.tmp w)=a:=by
 show(ws.tmps.setIfInBounds w a).getD w Aw7=a;simp_all
theorem F0(b:w≠s)(a:X):(ws.put (I w) a).eval (.tmp s)=ws.eval (.tmp s):=by
 show(ws.tmps.setIfInBounds w a).getD s Aw7=ws.tmps.getD s Aw7;simp_all
theorem DV.first(a:DV (w::t) ws xs):DV t (ws.put (I w) (xs.eval (.tmp w))) xs:=by
 refine⟨a.defers,by rw[a.size];exact Azv.symm,λb f=>?_⟩;show _=(ws.tmps.setIfInBounds w (xs.eval (.tmp w)))[b]?;by_cases c:w=b
 ·subst c;by_cases d:w<ws.tmps.size
  ·rw[Aya d];show _=I (xs.tmps.getD w Aw7);have e:w<xs.tmps.size:=by rw[a.size];omega
   simp_all
  ·rw[Bal (by rw[a.size];omega),Bal O6]
 ·rw[Array.getElem?_setIfInBounds_ne c];exact a.it b (λg=>O6)
theorem UV:∀{D:List Nat} {b a:Act},DV D b a->a=D.foldl (λd c=>d.put (I c) (a.eval (.tmp c))) b
 |[],b,a,h=>by
  let ⟨i,e⟩:=b
  let ⟨g,c⟩:=a
  obtain rfl:c=e:=h.defers;obtain rfl:g=i:=Array.ext_getElem? λf=>h.it f nofun;rfl
 |c::D,b,a,h=>UV (D:=D) h.first
theorem Y6{e i:Type}{d:e->i}:∀{c:List e},(c.map d).Nodup->∀{a b:e},a∈c->b∈c->d a=d b->a=b
 |[],_,_,_,h,_,_=>by cases h
 |x::c,hn,a,b,ha,hb,he=>by
  rw[A1,Axj]at hn;rcases AX.1 ha with j|f
  ·grind
  ·rcases AX.1 hb with k|g
   ·grind
   ·exact Y6 hn.2 f g he
theorem Af5(h:wk[w]?=I nl)(f:nl.dst=I s)(j:Region.noSelect wk=true)(g:Region.free w9 wk vf w=true)(i:(Ba w9 wk vf).contains w=true)(d:∀a ws n,nh (.panic a) (ws.put (I s) p) n->nh (.panic a) ws n)(k:YieldsIf w6 wk sf nl p ws)(e:sf n)(c:wpAnyH w6 w9 wk nh sf b (vf.setIfInBounds w true) (ws.put (I s) p) n):wpAnyH w6 w9 wk nh sf (b+1) vf ws n:=by
 rw[<-f]at d c;exact wpAnyH_take h j g i d k e c
theorem YD(c f:Operand)(a:A0)(h:nl.op=.call {callee:=.builtin .append,args:=#[c,f],argTypes:=#[a,a]}){d e b:X}(i:xn c=d)(j:xn f=e)(g:(Builtin.append_ #[a,a] nl.type #[d,e]).run w6 n=.ok b q):(execOp xn nl).run w6 n=.ok (.value b) q:=by
 unfold execOp;simp only[h,resolve,invoke,builtin,Sem.run_bind,Sem.run_pure,Result.andThen_ok,Azy,A1,Axs,i,j,g]
theorem Ld(i:List Nat){c e:Nat}{f:Oper}{v:X}{h:Nat}{d:Array Bool}{a:Act}{b:Q}(_:i.find? (λs=>!(d.getD s true))=I c)(o:wk[c]?=I f)(m:f.dst=I e)(q:Region.noSelect wk=true)(n:Region.free w9 wk d c=true)(p:(Ba w9 wk d).contains c=true)(k:∀g a b,nh (.panic g) (a.put (I e) v) b->nh (.panic g) a b)(r:YieldsIf w6 wk sf f v a)(l:sf b)(j:wpAnyH w6 w9 wk nh sf h (d.setIfInBounds c true) (a.put (I e) v) b):wpAnyH w6 w9 wk nh sf (h+1) d a b:=Af5 o m q n p k r l j
def FH(a b:Int)(c:List Co)(d:Nat):List Int:=if a=19\/a=20 then [] else if a=18 then [b] else if a=17 then c.map (·.BU) else [(d:Int)+1]
def Kn(c:BJ->Nat->Bool)(b:List BJ):Option Nat:=(AV (L b)).find? λa=>match b[a]? with|some x=>c x a|none=>false
theorem Aa7(d:BJ->Nat->Bool)(b:List BJ)(a:Nat)(f:a<L b)(g:d b[a] a=true)(hb:∀c e,c<a->d b[c] c=false):Kn d b=I a:=by
 unfold Kn;rw[List.find?_range_eq_some];grind
theorem Qy(c:BJ->Nat->Bool)(b:List BJ)(hb:∀a d,c b[a] a=false):Kn c b=none:=by
 unfold Kn;grind
theorem Abo(d:BJ->Nat->Bool)(c:List BJ)(b:Nat)(g:b<L c)(f:∀a e,a<b->d c[a] a=false)(h:d c[b] b=false):∀a e,a<b+1->d c[a] a=false:=by
 grind
def Ane:Option Nat->X
 |some a=>R #[V C (a:Int),A true]
 |none=>R #[V C 0,A false]
def PL(c:Int)(b:BJ)(_:Nat):Bool:=(b.op==1) && decide (c<=b.a)
theorem Qc(a:p=y):Ending.returned p=F y:=by rw[a]
theorem Alg(o:X)(c:List BJ)(e:Int)(f:Q)(m:Fy f o c):
 Az Aa 117 #[o,V C e] f λq h=>q=F (Ane (Kn (PL e) c))/\Ow f h:=by
 obtain⟨r,y,rfl,B,n⟩:=m.open;have p:∀h,Ow f h->MZ h r c:=n;clear n m;go_enter func117,ntmps117;go_wp2;go_loopw [10] (λk wr=>∃b,b<=L c/\k=V C b/\O9 (∀d g,d<b->PL e c[d] d=false)/\Ow f wr) (λk _=>L c-(intOf k).toNat)
 ·exact⟨0,Ai _,rfl,λ_ _ g=>absurd g nofun,Ae _ _⟩
 ·obtain⟨b,z,rfl,i,hb⟩:=hrel;by_cases j:b<L c
  ·obtain⟨v,D,u,t,s,rfl,c0,w,x,_⟩:=p _ hb b j;have l:PL e c[b] b=((c[b].op==1) && decide (e<=c[b].a)):=rfl;generalize c[b].op=op at*;generalize c[b].a=a at*;go_wp2;any_goals
    go_ret2
    exact⟨by rw[Aa7 _ _ b j (by rw[l];simp_all) i.o];rfl,hb.alloc hb.size _⟩
   all_goals exact⟨⟨b+1,O1,by go_num,Abo _ _ b j i.o (by rw[l];simp_all),hb.alloc hb.size _⟩,by simp[intOf];omega⟩
  ·go_wp2;go_ret2
   exact⟨by rw[Qy _ _ (λd g=>i.o d g O1)];rfl,hb⟩
structure C3 (b:Q) (a:Nat) (c d e:X):Prop where
 c0:b.cell? ⟨a,0,N⟩=I c
 c1:b.cell? ⟨a,1,N⟩=I d
 c2:b.cell? ⟨a,2,N⟩=I e
 lt:a<b.heap.size
theorem C3.new(a:Q)(b c d:X)(e:A0):C3 (a.alloc (.cells #[b,c,d] e)) a.heap.size b c d:=⟨CS a #[b,c,d] e 0 _ rfl,CS a #[b,c,d] e 1 _ rfl,CS a #[b,c,d] e 2 _ rfl,O2⟩
structure C2 (b:Q) (a:Nat) (c d:X):Prop where
 c0:b.cell? ⟨a,0,N⟩=I c
 c1:b.cell? ⟨a,1,N⟩=I d
 lt:a<b.heap.size
theorem C2.bG{w:Q}{b:Nat}(a:C2 w b p y)(hb:Ow w n):C2 n b p y:=⟨Bu hb a.c0,Bu hb a.c1,Am a.lt hb.size⟩
theorem C2.new(a:Q)(b c:X)(d:A0):C2 (a.alloc (.cells #[b,c] d)) a.heap.size b c:=⟨CS a #[b,c] d 0 _ rfl,CS a #[b,c] d 1 _ rfl,O2⟩
def Mg(c b a:Int):Int:=if c=9 then Bf (b+a) else if c=10 then Bf (b-a) else if c=11 then Bf (b*a) else if c=12 then (if a=0 then 0 else Bf (b.tdiv a)) else if (c=13/\b=a)\/(c=14/\b<a) then 1 else 0
def QJ(a:Int):Bool:=decide (a=13\/a=14)
def PG(a b:Int):Bool:=!decide (a=12/\b=0)
def HF(a b:Int):Int:=if a<0 then 0 else if b<a then b else a
theorem Aib(b a:Int)(c:Q)(f:0<=a):Az Aa 37 #[V C b,V C a] c λd e=>d=F (V C (HF b a))/\e=c:=by
 rw[show HF b a=max 0 (min b a) by unfold HF;omega];go_wp2;go_ret;simp
end Go.Proofs.YtpkbnogifdlcmaaGreatDoor
