import Derived.Test.YtcacpmkdfnmhaaaGreatDoorVarintJ
import Derived.Lib.AppendStr
import Derived.Lib.MinMax
set_option linter.unusedSimpArgs false
set_option maxRecDepth 100000
set_option maxHeartbeats 8000000
open Go renaming Calls->Av,TypeId->AX,Value->X,World->Q
open Go.Ending renaming returned->F
open Go.IntKind renaming i64->C
open Go.Proofs.Tryz renaming prog->Aa
open Go.RowKit renaming wrap64->Bc
open Go.Value renaming bool->A,int->V,slice->W,string->S
open List renaming length->L
open Option renaming none->N,some->I
namespace Go.Proofs.YtcacpmkdfnmhaaaGreatDoor
open Go.RowKit Go.Sort Go.Lib
variable{wx:Program}
theorem V7(c:Q)(m:Nat)(i j p d:AX)(e:TypeInfo)(s:wx.underlying i=I (.slice d))(t:wx.underlying j=I .string)(q:wx.info? d=I e)(x:e.zero=I (V .u8 0))(w:e.size=1)(v:e.bytes=1)(f a h:Nat)(l:List X)(r:c.ownsRow m d 1 (W (I ⟨f,0,N⟩) a h) a l)(b:ByteArray)(G:0<a+b.size)(E:a+b.size<=140737488355328)(B:m<=c.heap.size):
 ∃g n k,(Builtin.append_ #[i,j] p #[W (I ⟨f,0,N⟩) a h,S b]).run wx c=.ok (W (I ⟨g,0,N⟩) (a+b.size) n) k/\k.ownsRow m d 1 (W (I ⟨g,0,N⟩) (a+b.size) n) (a+b.size) (l++strCells b)/\
  c.grownBy k (I f)/\(g=f\/g=c.heap.size):=by
 obtain⟨af,k,H,u,z,-⟩:=run_append_own_string c m i j p d e s t q x w v _ a l r b O8 E B;obtain⟨g,n,rfl,-,-⟩:=u.form G;refine⟨g,n,k,H,u,z,?_⟩;rcases r.2 with⟨o,-⟩|⟨U,O,y,o,Y,D,ac,aa,ab,ad⟩
 ·cases o
 ·simp[Value.slice.injEq,Addr.mk.injEq,and_true,true_and]at o;obtain⟨rfl,rfl⟩:=o;by_cases M:a+b.size<=h
  ·have K:=run_append_room_string c i j p d e s t q w f a h y D b M O1;grind
  ·have ae:(L l)=a:=by grind
   have K:=run_append_grow_string c i j p d e (V .u8 0) s t q x ⟨f,0,N⟩ a h l O6 (r.cells rfl) b O1 O1 (by rw[v];exact growslice_fits O1 O1);grind
def tb(b:ByteArray):List Nat:=b.data.toList.map λa=>a.toNat
def nb(a:ByteArray):List Nat:=vb a.size++tb a
end Go.Proofs.YtcacpmkdfnmhaaaGreatDoor
namespace Go.Proofs.YtcacpmkdfnmhaaaGreatDoor
open Go.RowKit
def Lm(c b a:Int):Int:=if c=9 then Bc (b+a) else if c=10 then Bc (b-a) else if c=11 then Bc (b*a) else if c=12 then (if a=0 then 0 else Bc (b.tdiv a)) else if (c=13/\b=a)\/(c=14/\b<a) then 1 else 0
def PI(a:Int):Bool:=decide (a=13\/a=14)
def NC(a b:Int):Bool:=!decide (a=12/\b=0)
def FT(a b:Int):Int:=if a<0 then 0 else if b<a then b else a
theorem Ap6(b a:Int)(c:Q)(f:0<=a):Av Aa 25 #[V C b,V C a] c λd e=>d=F (V C (FT b a))/\e=c:=by
 rw[show FT b a=max 0 (min b a) by unfold FT;omega];go_wp2;go_ret;simp
theorem Aey(c:List Bx)(y vb:X)(f:Q)(o:D9 f y c)(q:D9 f vb c):
 Av Aa 22 #[y,vb] f λad d=>ad=F (A true)/\Below f.heap.size f d:=by
 obtain⟨ag,au,rfl,a2,u⟩:=o.open;obtain⟨ah,av,rfl,-,v⟩:=q.open;have D:O9 (∀d,Below f.heap.size f d->LZ d ag c):=u;have G:O9 (∀d,Below f.heap.size f d->LZ d ah c):=v;clear o q u v;go_enter Tryz.func22,Tryz.ntmps22;go_wp2;go_loopw [5] (λg wr=>∃b:Nat,b<=L c/\g=V C b/\Below f.heap.size f wr) (λg _=>L c-(intOf g).toNat)
 case atStart=>exact⟨0,Ak _,rfl,Ae _ _⟩
 case round=>
  obtain⟨b,az,rfl,hb⟩:=hrel;by_cases x:b<L c
  ·obtain⟨Y,ae,i,M,k,rfl,ak,al,z,p⟩:=D.o _ hb b x;obtain⟨aa,af,j,O,l,rfl,am,an,B,r⟩:=G.o _ hb b x;obtain⟨U,K,m,a3,s⟩:=p.open;obtain⟨rfl,rfl,rfl⟩:i=U/\M=c[b].alts.length/\k=K:=by simpa using m
   obtain⟨ac,ab,n,-,t⟩:=r.open;obtain⟨rfl,rfl,rfl⟩:j=ac/\O=c[b].alts.length/\l=ab:=by simpa using n
   have E:O9 (∀d,Below wr.heap.size wr d->Mn d i c[b].alts):=s;have H:O9 (∀d,Below wr.heap.size wr d->Mn d j c[b].alts):=t;have a0:(0:Int)<=(b:Int):=O1;have a1:(b:Int)<(L c:Int):=O1;clear p r s t m n;generalize c[b].op=op at*;generalize c[b].a=a at*;generalize c[b].alts=alts at*;rename Q=>W0
   go_wp2;go_quiet (fail);go_wp2;go_loopw [6] (λg wr=>∃e:Nat,e<=L alts/\g=V C e/\O9 (Below W0.heap.size W0 wr)/\wr.cell? ⟨Y,ae+b*3+2,N⟩=I (W i (L alts) k)/\wr.cell? ⟨aa,af+b*3+2,N⟩=I (W j (L alts) l)) (λg _=>L alts-(intOf g).toNat)
   case atStart=>exact⟨0,Ak _,rfl,below_drewN (Ae _ _) _,z,B⟩
   case round=>
    obtain⟨e,aw,rfl,h,ai,aj⟩:=hrel;clear ak al z am an B;by_cases w:e<L alts
    ·obtain⟨ao,aq,rfl,a6,a7⟩:=E.o _ h.o e w;obtain⟨ap,ar,rfl,a4,a5⟩:=H.o _ h.o e w;have ax:(0:Int)<=(e:Int):=O1;have ay:(e:Int)<(L alts:Int):=O1;generalize alts[e].tag=tg at*;generalize alts[e].tgt=tto at*;go_wp2;go_quiet (fail);go_wp2;exact⟨⟨e+1,O1,rfl,below_drewN h.o _,ai,aj⟩,by simp[intOf];omega⟩
    ·go_wp2;exact⟨⟨b+1,O1,rfl,hb.trans (h.o.mono hb.size)⟩,by simp[intOf];omega⟩
  ·go_wp2;go_ret;simp_all
theorem Akl(e:BA)(Y vb:X)(a:Q)(an:EK a Y e)(ao:EK a vb e):
 Av Aa 13 #[Y,vb] a λp c=>p=F (A true)/\Below a.heap.size a c:=by
 obtain⟨ia,a1,rfl,aB,w,u⟩:=an;obtain⟨ib,gb,rfl,-,x,v⟩:=ao;obtain⟨K,aq,rfl,a8,D⟩:=w.open;obtain⟨i,q,rfl,a9,z⟩:=u.open;obtain⟨M,ar,rfl,-,E⟩:=x.open;obtain⟨j,r,rfl,-,B⟩:=v.open;have ag:O9 (∀c,Below a.heap.size a c->NG c K e.Bu):=D;have ah:O9 (∀c,Below a.heap.size a c->NG c M e.Bu):=E;have ae:O9 (∀c,Below a.heap.size a c->OQ c i e.Bs):=z;have af:O9 (∀c,Below a.heap.size a c->OQ c j e.Bs):=B;clear w u x v D z E B;generalize e.name=nm at*;generalize e.Bu=Bu at*;generalize e.Bs=Bs at*;go_enter Tryz.func13,Tryz.ntmps13;go_wp2;go_loopw [5] (λf wr=>∃b:Nat,b<=L Bu/\f=V C b/\O9 (Below a.heap.size a wr)/\wr.cell? ⟨a.heap.size,1,N⟩=I (W K (L Bu) aq)/\wr.cell? ⟨a.heap.size,2,N⟩=I (W i (L Bs) q)/\wr.cell? ⟨a.heap.size+1,1,N⟩=I (W M (L Bu) ar)/\wr.cell? ⟨a.heap.size+1,2,N⟩=I (W j (L Bs) r)/\a.heap.size+1<wr.heap.size) (λf _=>L Bu-(intOf f).toNat)
 case atStart=>exact⟨0,Ak _,rfl,bA.alloc O2 _,O2,O2,O2,O2,O2⟩
 case round=>
  obtain⟨b,a5,rfl,hb,O,l,U,m,k⟩:=hrel;by_cases H:b<L Bu
  ·obtain⟨n,au,rfl,aa,ay,-⟩:=ag.o _ hb.o b H;obtain⟨o,av,rfl,ab,az,-⟩:=ah.o _ hb.o b H;have a6:(0:Int)<=(b:Int):=O1;have a7:(b:Int)<(L Bu:Int):=O1;generalize Bu[b].name=n0 at*;generalize Bu[b].arity=a0 at*;go_wp2;go_quiet (fail);go_wp2;exact⟨⟨b+1,O1,rfl,below_drewN hb.o _,O,l,U,m,k⟩,by simp[intOf];omega⟩
  ·go_wp2;go_loopw [6] (λf wr=>∃b:Nat,b<=L Bs/\f=V C b/\O9 (Below a.heap.size a wr)/\wr.cell? ⟨a.heap.size,2,N⟩=I (W i (L Bs) q)/\wr.cell? ⟨a.heap.size+1,2,N⟩=I (W j (L Bs) r)/\a.heap.size+1<wr.heap.size) (λf _=>L Bs-(intOf f).toNat)
   case atStart=>exact⟨0,Ak _,rfl,hb,l,m,k⟩
   case round=>
    obtain⟨d,a2,rfl,g,aw,ax,aC⟩:=hrel;clear O l U m k hb;by_cases G:d<L Bs
    ·obtain⟨n,au,al,aj,cc,rfl,aa,ay,aG,aH,s,-⟩:=ae.o _ g.o d G;obtain⟨o,av,am,ak,ai,rfl,ab,az,aI,aJ,t,-⟩:=af.o _ g.o d G;have ac:O9 (D9 wr (W al aj cc) Bs[d].code):=s;have ad:O9 (D9 wr (W am ak ai) Bs[d].code):=t;have a3:(0:Int)<=(d:Int):=O1;have a4:(d:Int)<(L Bs:Int):=O1;have ap:=g.o.size;have aD:n<wr.heap.size:=AG aa;have aE:o<wr.heap.size:=AG ab;clear s t;generalize Bs[d].name=n0 at*;generalize Bs[d].arity=a0 at*;generalize Bs[d].exp=e0 at*;generalize Bs[d].code=code at*;go_wp2_with (first|(go_at_call 22;refine(Aey code _ _ _ ?_ ?_).mono ?_;exact ac.o.bE (bA.alloc O2 _);exact ad.o.bE (bA.alloc O2 _);rintro p aF ⟨rfl,y⟩;obtain⟨aK,aL⟩:=Ea y))
     have h:=(bA.alloc O2 _).trans (y.mono O5);exact⟨⟨d+1,O1,rfl,g.o.trans (h.mono ap),Bn h aw,Bn h ax,by have:=h.size;omega⟩,by simp[intOf];omega⟩
    ·go_wp2;go_ret;exact⟨rfl,g.o⟩
theorem Aa9(a:Int)(b:Nat)(i:Q)(l:-9223372036854775808<=a)(m:a<=9223372036854775807)(p:0<b)(o:b<=1000000):Av Aa 6 #[V C a,V C b] i λc k=>∃h,h<b/\c=F (V C h)/\k=i:=by
 have f:0<(b:Int):=O1;have g:(b:Int)≠0:=O1;by_cases n:a<0
 ·go_enter Tryz.func6,Tryz.ntmps6;go_wp2;go_ret;have d:=Int.emod_nonneg (-(a+1)) g;have j:=Int.emod_lt_of_pos (-(a+1)) f;have c:-(a+1).tmod b=(((-(a+1)) % b).toNat:Int):=by
   rw[<-Int.neg_tmod,Int.tmod_eq_emod_of_nonneg O1,Int.toNat_of_nonneg d]
  exact⟨(-(a+1) % b).toNat,O1,congrArg (λe=>Ending.returned (V C e)) c,rfl⟩
 ·go_enter Tryz.func6,Tryz.ntmps6;go_wp2;go_ret;have d:=Int.emod_nonneg a g;have j:=Int.emod_lt_of_pos a f;exact⟨(a % b).toNat,O1,congrArg (λe=>Ending.returned (V C e)) (Int.toNat_of_nonneg d).symm,rfl⟩
end Go.Proofs.YtcacpmkdfnmhaaaGreatDoor
