import Derived.Test.YtnghccjoicmabaaGreatDoorEye5J
import Derived.Test.YtnghccjoicmabaaGreatDoorKindJ
import Derived.Lib.SmallJoins
import Derived.Deep.RegionHeldLaw
set_option maxRecDepth 100000
set_option maxHeartbeats 8000000
open Except renaming error->P
open Go renaming Calls->Adg,Value->X,World->Q,below_drewN->Aeu,maxLen->Aed,wpList_append_lies->Adl
open Go.Act renaming eval->Aef
open Go.ByteArray renaming toList_eq->Adw
open Go.Ending renaming returned->F
open Go.IntKind renaming i64->C
open Go.Obj renaming cells->Adi
open Go.Proofs.Tryz renaming prog->Acs
open Go.Value renaming agg->T,bool->A,iface->Z,int->V,pointer->J,slice->W,string->S,tuple->R
open Go.World renaming news_of_block->Adu
open Or renaming inl->Ads,inr->Ad7
namespace Go.Proofs.YtnghccjoicmabaaGreatDoor
open Go.RowKit Go.Sort
variable{w2 se:Bool}{s wn:ByteArray}{w v b d x K wi w5 vd vx n3:Nat}{m q j f wv:Value}{p n h w0 vm v7:World}{we:Int}{M:TypeId}{o:Nat->Addr}{wd ve:Type}{l:Av}{sr:Pr Unit}{xl:Nat->World->Prop}{ns:Ending}{s5:Unit}{vf:List UInt8}{nv:Obj}{t wg w9:List Nat}{sa:Pr Ex}{n9:Option Nat}{nw:Nat->Pr Ex}{N:Ex}{wh:List Ex}{nh:ByteArray×Nat}{xa:Pr ((ByteArray×Nat)×Ex)}{r ny:KS}{wx:Es}{wq:List (Nat×Av×Ex)}{ss:Nat×Av×Ex}
theorem Ez(a:w2=se):Ending.returned (A w2)=F (A se):=by rw[a]
theorem ID(a:Bw s=true)(b:1<s.size):Hg s=false:=by unfold Hg;simp[a,b]
theorem I7(b c:ByteArray):decide (b=c)=(b.toList==c.toList):=by
 by_cases a:b=c
 ·subst a;simp
 ·rw[decide_eq_false a];symm;rw[beq_eq_false_iff_ne];exact λd=>a (Bl d)
def HA(a:ByteArray)(b:Nat):Bool:=Dr (a.data.toList.drop b)
theorem PD(a:w<s.size):HA s w=(BR s[w].toNat && HA s (w+1)):=by
 unfold HA Dr;rw[Adv (by simpa using a),Acd];rfl
theorem R4(a:ByteArray):HA a a.size=true:=by
 unfold HA;rw[Acn (by simp)];rfl
theorem Ma(a:ByteArray)(l:Q)(z:a.size<=2000):Adg Acs 195 #[S a] l λj t=>j=F (A (Hg a))/\t=l:=by
 by_cases m:a.size=0
 ·obtain rfl:a=⟨#[]⟩:=Abx (Abh m);go_enter Tryz.func195,Tryz.ntmps195;go_wp2;all_goals
   go_ret;exact⟨Ez rfl,rfl⟩
 ·have y:0<a.size:=by omega
  have u:(a.toList==([]:List UInt8))=false:=by
   rw[beq_eq_false_iff_ne];intro j;have n:a.toList.length=a.size:=by rw[Adw];simp
   grind
  have k:Bw a=decide (a[0].toNat=48):=by unfold Bw;grind
  have D:(0:Int)<(a.size:Int):=by omega
  by_cases g:Bw a=true/\1<a.size
  ·have c:=hid (ID g.1 g.2);have f:((a[0].toNat:Int)==48)=true:=by
    grind
   have E:(1:Int)<(a.size:Int):=by omega
   clear k g;go_enter Tryz.func195,Tryz.ntmps195;go_wp2;all_goals
    go_ret;exact⟨Ez c.out.symm,rfl⟩
  ·have c:Hid (Hg a=HA a 0):=by
    show _=_;unfold Hg HA;grind
   have o:¬a[0].toNat=48\/a.size=1:=by
    grind
   clear k g;have f:((a[0].toNat:Int)==48)=false\/((a[0].toNat:Int)==48)=true/\a.size=1:=by
    grind
   clear o;rcases f with f|⟨f,B⟩;all_goals
    go_enter Tryz.func195,Tryz.ntmps195;go_wp2;go_loop [18] (λi=>∃b:Nat,b<=a.size/\i=V C b/\Hid (HA a 0=HA a b)) (λi=>a.size-(intOf i).toNat)
    case atStart=>exact⟨0,Ac0 _,rfl,rfl⟩
    case round=>
     obtain⟨b,x,rfl,d⟩:=hrel;by_cases q:b<a.size
     ·have n:(0:Int)<=(b:Int):=by omega
      have v:(b:Int)<(a.size:Int):=by omega
      have h:=hid (PD q);cases hd:BR a[b].toNat with
      |true=>
       have p:48<=a[b].toNat/\a[b].toNat<=57:=by simp only[BR,Ael,decide_eq_true_eq]at hd;exact hd
       have r:¬(a[b].toNat:Int)<48:=by omega
       have s:¬(57:Int)<(a[b].toNat:Int):=by omega
       have e:=hid hd;clear hd;go_wp2;exact⟨⟨b+1,by omega,by go_num,by show _=_;rw[d.out,h.out,e.out];rfl⟩,by simp[intOf];omega⟩
      |false=>
       have p:a[b].toNat<48\/57<a[b].toNat:=by
        simp only[BR,Bool.and_eq_false_iff,decide_eq_false_iff_not]at hd;omega
       have e:=hid hd;clear hd;by_cases r:(a[b].toNat:Int)<48
       ·go_wp2;all_goals
         go_ret;exact⟨Ez (by rw[c.out,d.out,h.out,e.out];rfl),rfl⟩
       ·have s:(57:Int)<(a[b].toNat:Int):=by omega
        go_wp2;all_goals
         go_ret;exact⟨Ez (by rw[c.out,d.out,h.out,e.out];rfl),rfl⟩
     ·obtain rfl:b=a.size:=by omega
      have w:¬(a.size:Int)<(a.size:Int):=by omega
      go_wp2;go_ret;exact⟨Ez (by rw[c.out,d.out,R4]),rfl⟩
theorem Abn(a:ByteArray):DW a 0=((a.toList==[109,111,100,117,108,101])||((a.toList==[105,109,112,111,114,116])||((a.toList==[100,101,102])||((a.toList==[108,101,116])||((a.toList==[108,101,116,114,101,99])||((a.toList==[99,111,110])||(a.toList==[99,97,115,101]))))))):=by
 unfold DW Px;simp only[Agx,Aha,List.any_nil,I7,Bool.or_false,Adw]
theorem FV(a:ByteArray)(b:Q):Adg Acs 118 #[S a] b λc d=>c=F (A (DW a 0))/\d=b:=by
 go_enter Tryz.func118,Tryz.ntmps118;go_wp2;all_goals
  go_ret;refine⟨Ez ?_,rfl⟩;rw[(hid (Abn a)).out];simp_all
def Rt(b:ByteArray):X:=match CC b with|some a=>R #[V C (9+(a:Int)),A true]|none=>R #[V C 0,A false]
theorem Z5(a:ByteArray):Rt a=if (a.toList==[43])=true then R #[V C 9,A true] else if (a.toList==[45])=true then R #[V C 10,A true] else if (a.toList==[42])=true then R #[V C 11,A true] else if (a.toList==[47])=true then R #[V C 12,A true] else if (a.toList==[61])=true then R #[V C 13,A true] else if (a.toList==[60])=true then R #[V C 14,A true] else R #[V C 0,A false]:=by
 unfold Rt CC E0;simp only[List.findIdx?_cons,List.findIdx?_nil,I7,Adw];grind
theorem Acf(a:m=q):Ending.returned m=F q:=by rw[a]
theorem EY(a:ByteArray)(b:Q):Adg Acs 209 #[S a] b λc d=>c=F (Rt a)/\d=b:=by
 go_wp2;all_goals
  go_ret2
  rw[(hid (Z5 a)).out];simp_all
theorem RL(a:List UInt8)(c:UInt8):decide (0<=Lib.indexByte a c)=a.any λb=>b==c:=by
 induction a with
 |nil=>rfl
 |cons b r ih=>
  rw[Lib.indexByte,Aha];grind
theorem Re(b:ByteArray):∀c a,b.size-a<=c->0<a->Kn b a=(b.data.toList.drop a).all λd=>Fu d.toNat||BR d.toNat
 |0,a,hn,hk=>by
  rw[Mf (by omega),Acn (by simp;omega)];rfl
 |c+1,a,hn,hk=>by
  by_cases e:a<b.size
  ·have f:a<b.data.toList.length:=by simpa using e
   rw[FU e,Re b c (a+1) (by omega) (by omega),Adv f,Acd];have:decide (a≠0)=true:=decide_eq_true (by omega);rw[this,Bool.true_and];rfl
  ·rw[Mf (by omega),Acn (by simp;omega)];rfl
theorem H1(a:UInt8):CV (a.toNat:Int)=Fu a.toNat:=by
 unfold CV Fu;grind
theorem SB(a:UInt8):HG (a.toNat:Int)=BR a.toNat:=by
 unfold HG BR;grind
theorem Qz(a:ByteArray):(nmB a && decide (a.size<=10) && !(a.data.toList.any λd=>d==35) && !DW a 0)=AM a:=by
 unfold AM;by_cases b:0<a.size
 ·by_cases h:a.size<=10
  ·rw[MA a b (by omega),decide_eq_true b,decide_eq_true h,Ahb,Ahb,Ahb];have k:(CV a[0].toNat && CA a.data.toList && !(a.data.toList.any λd=>d==35))=Kn a 0:=by
    have l:0<a.data.toList.length:=by simpa using b
    have e:a.data.toList=a[0]::a.data.toList.drop 1:=by
     have:=Adv l;exact this
    rw[FU b,Re a _ 1 .refl .refl];simp only[ne_eq,not_true_eq_false,decide_false,Bool.false_and,Bool.or_false];conv=>lhs;rw[e]
    rw[H1];cases hlow:Fu a[0].toNat with
    |false=>rfl
    |true=>
     have j:(a[0]==35)=false:=by
      rw[beq_eq_false_iff_ne];intro f;rw[f]at hlow;exact absurd hlow nofun
     unfold CA;rw[Acd,Aha,j,Bool.false_or,Bool.true_and];have m:LP a[0].toNat=true:=by unfold LP;rw[H1,hlow];rfl
     rw[m,Bool.true_and,Bool.true_and];generalize a.data.toList.drop 1=r;induction r with
     |nil=>rfl
     |cons c q ih=>
      rw[Acd,Aha,Acd,<-ih];have n:LP c.toNat=(Fu c.toNat||BR c.toNat||(c==35)):=by
       unfold LP;rw[H1,SB];congr 1
       rw[Ahg,beq_iff_eq,beq_iff_eq];constructor
       ·intro o;exact Ahc.1 (by grind)
       simp_all
      rw[n];cases hc35:c==35 with
      |false=>grind
      |true=>
       have:=eq_of_beq hc35;subst this;have g:Fu (35:UInt8).toNat=false:=rfl;have i:BR (35:UInt8).toNat=false:=rfl;rw[g,i];simp
   rw[<-k]
  grind
 ·rw[decide_eq_false b,Jt a (by omega)];simp
theorem DK(a:ByteArray)(d:Q)(l:a.size<=2000):Adg Acs 92 #[S a] d λb c=>b=F (A (AM a))/\c=d:=by
 have h:Hid (AM a=(nmB a && decide (a.size<=10) && !(a.data.toList.any λe=>e==35) && !DW a 0)):=(Qz a).symm;have g:Hid (∀d,Adg Acs 73 #[S a,S ⟨#[35]⟩] d λb c=>b=F (A (a.data.toList.any λe=>e==35))/\c=d):=by
  intro d;have i:=Any.strings_Contains_one Tryz.eh a 35 d;rw[RL]at i;exact i
 generalize hx:(a.data.toList.any λe=>e==35)=x at*;clear hx;generalize hv:AM a=v at*;clear hv;by_cases j:a.size<=10
 ·have k:(a.size:Int)<=10:=by omega
  have f:=decide_eq_true j;go_enter Tryz.func92,Tryz.ntmps92;go_wp2_with (first
   |(go_at_call 117;refine(Jn _ _ (by unfold Aed;omega)).mono ?_;rintro b c ⟨rfl,rfl⟩)
   |(go_at_call 73;refine(g.out _).mono ?_;rintro b c ⟨rfl,rfl⟩)
   |(go_at_call 118;refine(FV _ _).mono ?_;rintro b c ⟨rfl,rfl⟩))
  all_goals
   go_ret;refine⟨Ez ?_,rfl⟩;rw[h.out,f];simp_all
 ·have k:¬(a.size:Int)<=10:=by omega
  have f:=decide_eq_false j;go_enter Tryz.func92,Tryz.ntmps92;go_wp2_with (first
   |(go_at_call 117;refine(Jn _ _ (by unfold Aed;omega)).mono ?_;rintro b c ⟨rfl,rfl⟩)
   |(go_at_call 73;refine(g.out _).mono ?_;rintro b c ⟨rfl,rfl⟩)
   |(go_at_call 118;refine(FV _ _).mono ?_;rintro b c ⟨rfl,rfl⟩))
  all_goals
   go_ret;refine⟨Ez ?_,rfl⟩;rw[h.out,f];simp_all
def H2(b:Option Int)(d:Q)(e:Ending)(f:Q):Prop:=Below d.heap.size d f/\∃a:Int,e=F (R #[V C a,A b.isSome])/\∀c,b=some c->a=c
theorem H2.none{a:Q}{n:Int}{b:Bool}(e:Below a.heap.size a p)(d:b=false):H2 none a (F (R #[V C n,A b])) p:=⟨e,n,by rw[d];rfl,λv c=>by cases c⟩
theorem H2.some{b:Bool}(d:Below n.heap.size n p)(c:b=true):H2 (some we) n (F (R #[V C we,A b])) p:=⟨d,we,by rw[c];rfl,λe a=>by cases a;rfl⟩
theorem OB(b:p=n\/∃a,p=Lib.bytesWorld n M a):Below n.heap.size n p:=by
 rcases b with rfl|⟨a,rfl⟩
 ·exact Acv _ _
 ·exact Joins.below_bytesWorld _ n M a .refl
theorem Ew(a:ByteArray)(z:a.size<=2000)(j:SY n o):Adg Acs 171 #[S a] n λb c=>H2 (Aw a) n b c:=by
 have m:Hid (∀n,Adg Acs 196 #[S a,S ⟨#[45]⟩] n λb c=>b=F (S (Bb a))/\c=n):=by
  intro n;have d:=Any.strings_TrimPrefix Tryz.fc a ⟨#[45]⟩ n;rw[Vm]at d;exact d
 have x:(Bb a).size<=2000:=by
  unfold Bb;split
  ·rw[Aac];omega
  exact z
 have i:=hid (λn=>Ma (Bb a) n x);have B:RP.toList=[45,48]:=by rw[Adw];rfl
 by_cases k:Hg (Bb a)=false\/a=RP
 ·have u:=hid (Ls k);have y:Hg (Bb a)=false\/(a.toList==[45,48])=true:=by
   grind
  clear k j;rw[u.out];generalize Hg (Bb a)=nb at*;rcases y with d|d;all_goals
   go_enter Tryz.func171,Tryz.ntmps171;go_wp2_with (first
    |(go_at_call 196;refine(m.out _).mono ?_;rintro b c ⟨rfl,rfl⟩)
    |(go_at_call 195;refine(i.out _).mono ?_;rintro b c ⟨rfl,rfl⟩))
   all_goals
    go_ret2
    exact H2.none (Acv _ _) rfl
 ·have r:Hg (Bb a)=true:=by grind
  have q:=λd=>k (Ad7 d);have e:=Su r q;have E:(a.toList==[45,48])=false:=by
   rw[beq_eq_false_iff_ne];intro b;exact q (Bl (by rw[b,B]))
  rw[r]at i;clear k r q;cases hw:Aw a with
  |some v=>
   rw[hw]at e;have l:=hid (λn=>Any.strconv_ParseInt_10_at64_ok Tryz.eo a (by omega) v e n);clear e hw j;go_enter Tryz.func171,Tryz.ntmps171;go_wp2_with (first
    |(go_at_call 196;refine(m.out _).mono ?_;rintro b c ⟨rfl,rfl⟩)
    |(go_at_call 195;refine(i.out _).mono ?_;rintro b c ⟨rfl,rfl⟩)
    |(go_at_call 197;refine(l.out _).mono ?_;rintro b h ⟨rfl,g⟩;have f:=hid (OB g);clear g))
   go_quiet (fail);go_wp2;have p:=Aeu (Acv h.heap.size h) nq;go_ret2
   exact H2.some (f.out.trans (p.mono f.out.size)) rfl
  |none=>
   rw[hw]at e;obtain⟨w,s,t⟩:=j.er;have l:=hid (λn s=>Any.strconv_ParseInt_10_at64_range Tryz.eo a (by omega) e w n s t);clear e hw j t;go_enter Tryz.func171,Tryz.ntmps171;go_wp2_with (first
    |(go_at_call 196;refine(m.out _).mono ?_;rintro b c ⟨rfl,rfl⟩)
    |(go_at_call 195;refine(i.out _).mono ?_;rintro b c ⟨rfl,rfl⟩)
    |(go_at_call 197;refine(l.out _ s).mono ?_;rintro b h ⟨D,rfl,-,-,g⟩;have f:=hid g;clear g))
   go_quiet (fail);go_wp2;have p:=Aeu (Acv h.heap.size h) nq;go_ret2
   exact H2.none (f.out.trans (p.mono f.out.size)) rfl
def Yn(b:ByteArray)(a:Nat):Option Int:=match Aw b with|some v=>if 0<=v/\v<=(a:Int) then some v else none|none=>none
theorem OA(d:ByteArray)(g:Nat)(r:d.size<=2000)(l:SY n o):Adg Acs 169 #[S d,V C (g:Int)] n λi s=>H2 (Yn d g) n i s:=by
 have e:=hid (Ew d r l);have h:Hid (Yn d g=match Aw d with|some v=>if 0<=v/\v<=g then some v else none|none=>none):=rfl;clear l;cases hw:Aw d with
 |none=>
  rw[hw]at e h;rw[h.out];clear hw;go_enter Tryz.func169,Tryz.ntmps169;go_wp2_with (first
   |(go_at_call 171;refine e.out.mono ?_;rintro i k ⟨a,j,rfl,-⟩;have c:=hid a;clear a;simp only[Option.isSome_none]))
  go_ret2
  exact H2.none c.out rfl
 |some v=>
  rw[hw]at e h;clear hw;by_cases f:0<=v/\v<=g
  ·rw[h.out];simp only[f,and_self,if_true];let ⟨m,q⟩:=f
   go_enter Tryz.func169,Tryz.ntmps169;go_wp2_with (first
    |(go_at_call 171;refine e.out.mono ?_;rintro i k ⟨a,j,rfl,b⟩;obtain rfl:=b v rfl;have c:=hid a;clear a b;simp only[Option.isSome_some]))
   go_ret2
   exact H2.some c.out rfl
  ·rw[h.out];simp only[f,if_false];by_cases m:0<=v
   ·have q:¬v<=g:=λp=>f ⟨m,p⟩;clear f;go_enter Tryz.func169,Tryz.ntmps169;go_wp2_with (first
     |(go_at_call 171;refine e.out.mono ?_;rintro i k ⟨a,j,rfl,b⟩;obtain rfl:=b v rfl;have c:=hid a;clear a b;simp only[Option.isSome_some]))
    go_ret2
    exact H2.none c.out rfl
   ·clear f;go_enter Tryz.func169,Tryz.ntmps169;go_wp2_with (first
     |(go_at_call 171;refine e.out.mono ?_;rintro i k ⟨a,j,rfl,b⟩;obtain rfl:=b v rfl;have c:=hid a;clear a b;simp))
    go_ret2
    exact H2.none c.out rfl
def EG{f:Type}(l:Pr f)(g:Nat)(m:Q)(j:Nat->Addr)(i:X)(h:f->Nat->X->Q->Prop)(b:Ending)(e:Q):Prop:=EF g m e/\match l with
 |.ok (a,q)=>∃d,b=F (R #[d,.nilIface])/\h a q d e
 |P (c,k)=>b=F (R #[i,Ll j (Dm c) k])
theorem EG.ok{c:Pr wd}{a:wd->Nat->X->Q->Prop}{b:wd}(e:c=.ok (b,v))(d:EF w n p)(f:a b v q p):EG c w n o m a (F (R #[q,.nilIface])) p:=⟨d,by grind⟩
theorem EG.bad{a:Pr wd}{c:wd->Nat->X->Q->Prop}(d:a=P (v,b))(e:EF w n p)(f:q=Ll o (Dm v) b):EG a w n o m c (F (R #[m,q])) p:=⟨e,by rw[d,f]⟩
theorem GH(a:w<=s.size)(b:s.size<=2000):(Ag s w).size<=2000:=by rw[Cb a];have:=AK a;omega
theorem WC(b:ByteArray)(c a:Nat):Bt b c a=match Yn (Ag b a) c with|some v=>.ok ((v.toNat,Am b a),AC b a)|none=>P (2,Am b a):=by
 unfold Bt Yn;grind
theorem Aar(a:Yn s w=some we):s≠⟨#[]⟩/\0<=we/\we<=(w:Int):=by
 refine⟨λb=>?_,?_⟩
 ·unfold Yn at a;rw[b,D3]at a;cases a
 ·unfold Yn at a;grind
theorem Cv(f:Nat)(U:s.size<=2000)(B:PB n p w o)(r:PS p w v s b m d)(j:b<=s.size):
 Adg Acs 122 #[J (some ⟨w,0,none⟩),V C (f:Int)] p λc u=>EG (Bt s f b) w p o (V C 0) (λad L t u=>t=V C (ad.1:Int)/\L<=s.size/\PS u w v s L m d) c u:=by
 have x:=hid (A1 r j);have k:=hid (WC s f b);have y:=hid r;have l:=hid B.sy;have K:=GH j U;have ae:=Fy;clear r B;cases hu:Yn (Ag s b) f with
 |none=>
  rw[hu]at k;have q:=hid hu;clear hu;go_enter Tryz.func122,Tryz.ntmps122;go_wp2_with (first
   |(go_at_call 57;refine x.out.mono ?_;rintro c aa ⟨rfl,e⟩;have h:=hid (OA (Ag s b) f K (l.out.cJ e));have g:=hid e;clear e;rw[q.out]at h)
   |(go_at_call 169;refine h.out.mono ?_;rintro c ab ⟨i,Y,rfl,-⟩;have a:=hid (g.out.trans (i.mono g.out.size));clear i;have af:=(l.out.cJ a.out).sy;simp)
   |(go_at_call 91;refine(CU o 12 (y.out.below a.out) j).mono ?_;rintro c ac ⟨rfl,G⟩;have M:=hid (a.out.trans (G.mono a.out.size));clear G))
  go_ret2
  exact EG.bad k.out (EF.cI M.out) rfl
 |some t=>
  rw[hu]at k;have I:=Aar hu;have q:=hid hu;have z:=hid I;clear hu I;go_enter Tryz.func122,Tryz.ntmps122;go_wp2_with (first
   |(go_at_call 57;refine x.out.mono ?_;rintro c aa ⟨rfl,e⟩;have h:=hid (OA (Ag s b) f K (l.out.cJ e));have g:=hid e;clear e;rw[q.out]at h)
   |(go_at_call 169;refine h.out.mono ?_;rintro c ab ⟨i,Y,rfl,H⟩;obtain rfl:=H t rfl;have a:=hid (g.out.trans (i.mono g.out.size));clear i H;simp)
   |(go_at_call 58;refine(Bv (y.out.below a.out) j).mono ?_;rintro c ac ⟨rfl,D,E⟩;have N:=hid ((EF.cI a.out).trans D);have O:=hid E;clear D E))
  go_ret2
  exact EG.ok k.out N.out ⟨by simp only;rw[Int.toNat_of_nonneg z.out.2.1];rfl,AK j,O.out z.out.1⟩
def B0(e:Q)(h:X)(b:Av):Prop:=∃f g,h=W f b.length g/\(b≠[]->∃c d,f=some ⟨c,d,none⟩/\c<e.heap.size/\∀a (i:a<b.length),e.cell? ⟨c,d+a*2,none⟩=some (.string b[a].1)/\e.cell? ⟨c,d+a*2+1,none⟩=some (V C (b[a].2:Int)))
theorem B0.cJ{w:Q}(g:B0 w m l)(a:Below w.heap.size w n):B0 n m l:=by
 obtain⟨k,e,rfl,h⟩:=g;refine⟨k,e,rfl,λj=>?_⟩;obtain⟨f,o,rfl,i,c⟩:=h j;exact⟨f,o,rfl,Ac2 i a.size,λd b=>⟨Aa a (c d b).1,Aa a (c d b).2⟩⟩
theorem Ab6(b c:X)(a:Q):Sem.run Acs (Instr.field 115 (T #[b,c]) 0) a=.ok b a:=by kernel_rfl
theorem TA(c b:ByteArray)(g:Int)(d:Nat)(a:Q)(f:a.cell? ⟨d,0,none⟩=some (S b)):Adg Acs 120 #[T #[S c,V C g],J (some ⟨d,0,none⟩)] a λe i=>e=F (A (decide (c=b)))/\Below a.heap.size a i:=by
 have j:=λh=>Aa ((Acv a.heap.size a).alloc .refl h) f;go_wp2;go_ret;exact⟨Ez (hid (I7 c b)).out.symm,bA⟩
def Abp(a:ByteArray×Nat):List X:=[S a.1,V C (a.2:Int)]
theorem KE(b:Av)(n:X)(g:ByteArray)(e:Nat)(c:Q)(E:b.length<=100000)(t:B0 c n b)(z:c.cell? ⟨e,0,none⟩=some (S g)):
 Adg Acs 119 #[n,.func (.func 120) #[] #[J (some ⟨e,0,none⟩)]] c λj o=>j=F (A (A3 g (b.map (·.1)) 0))/\Below c.heap.size c o:=by
 obtain⟨G,q,rfl,l⟩:=t;by_cases k:b=[]
 ·subst k;clear l;go_enter Tryz.func119,Tryz.ntmps119;go_wp2_with (go_in)
  go_loop [8] (λf=>f=V C 0) (λ_=>0)
  case atStart=>rfl
  case round=>
   obtain rfl:=hrel;go_wp2;go_ret;exact⟨Ez rfl,Acv _ _⟩
 ·obtain⟨s,D,rfl,w,B⟩:=l k;have y:=AnyQ.slices_ContainsFunc Tryz.fi 2 (by intro c;rfl) (by intro c;rfl) Abp (λ_=>rfl) (λh=>decide (h.1=g)) 120 #[J (some ⟨e,0,none⟩)] (by simp) s D b.length q b c (λp h d=>by
   have:=TA h.1 g h.2 e p (Aa d z);exact this.mono λ_ _ ⟨u,v⟩=>⟨u,d.trans (v.mono d.size)⟩) .refl (by omega) w (by
   intro i x f H a;have m:=B i x;have r:b[i]! =b[i]:=by grind
   rw[r]at a;match f,a with
   |0,a=>cases a;exact m.1
   |1,a=>cases a;exact m.2
   |f+2,a=>cases a)
  refine y.mono ?_;rintro j o ⟨rfl,d⟩;refine⟨Ez ?_,d⟩;unfold A3;grind
theorem Ht(b:Av)(h:X)(c:ByteArray)(a:Q)(m:b.length<=100000)(f:B0 a h b):
 Adg Acs 93 #[h,S c] a λd e=>d=F (A (A3 c (b.map (·.1)) 0))/\Below a.heap.size a e:=by
 obtain⟨n,j,rfl,-⟩:=id f;have i:Hid (Adg Acs 119 #[W n b.length j,.func (.func 120) #[] #[J (some ⟨a.heap.size,0,none⟩)]] (a.alloc (.cells #[S c] 9)) λd e=>d=F (A (A3 c (b.map (·.1)) 0))/\Below a.heap.size a e):=by
  have g:Below a.heap.size a (a.alloc (.cells #[S c] 9)):=bA;exact(KE b _ c a.heap.size _ m (f.cJ g) (by simp)).mono λ_ _ ⟨k,l⟩=>⟨k,g.trans (l.mono (by simp))⟩
 go_enter Tryz.func93,Tryz.ntmps93;go_wp2_with (first
  |(refine i.out.mono ?_;rintro d p ⟨rfl,o⟩))
 go_ret;simp_all
def V2(w:Q)(b:Nat)(x y:X):Prop:=w.cell? ⟨b,0,none⟩=some x/\w.cell? ⟨b,1,none⟩=some y/\w.frozen? ⟨b,0,none⟩=false/\w.frozen? ⟨b,1,none⟩=false
theorem V2.lt(a:V2 n w m q):w<n.heap.size:=Adt a.1
theorem V2.cJ{w:Q}{b:Nat}(a:V2 w b m q)(c:Below w.heap.size w n):V2 n b m q:=by
 have d:=c.block b a.lt;exact⟨Aa c a.1,Aa c a.2.1,by rw[Adm d];exact a.2.2.1,by rw[Adm d];exact a.2.2.2⟩
theorem V2.ef{w:Q}{b d:Nat}{x y:X}(a:V2 w b x y)(e:EF d w n)(f:b≠d):V2 n b x y:=by
 have c:=e.block b a.lt f;exact⟨by rw[Ac1 c];exact a.1,by rw[Ac1 c];exact a.2.1,by rw[Adm c];exact a.2.2.1,by rw[Adm c];exact a.2.2.2⟩
theorem V2.put(a:V2 n w m q)(b c:X):V2 ((n.setCell ⟨w,0,none⟩ b).setCell ⟨w,1,none⟩ c) w b c:=by
 refine⟨?_,Ac6 _ _ _ (by rw[Acy _ _ _ _ (Au (by omega))];exact a.2.1),?_,?_⟩
 ·rw[Acy _ _ _ _ (Au (by omega))];exact Ac6 _ _ _ a.1
 ·rw[Ac3,Ac3];exact a.2.2.1
 ·rw[Ac3,Ac3];exact a.2.2.2
theorem V2.dc{b c j:Nat}{u:X}(a:V2 n b m q)(d:b≠c):V2 (n.setCell ⟨c,j,none⟩ u) b m q:=by
 refine⟨?_,?_,?_,?_⟩
 ·rw[Acy _ _ _ _ (by simp)];exact a.1
 ·rw[Acy _ _ _ _ (by simp)];exact a.2.1
 ·rw[Ac3];exact a.2.2.1
 ·rw[Ac3];exact a.2.2.2
def Cq(e:ByteArray)(b:List ByteArray)(c:Nat):Pr (ByteArray×Nat):=pb (AV e c) λa d=>if A3 a.1 b 0=true then P (5,a.2) else .ok (a,d)
theorem Tm{others:List ByteArray}(a:AM (Ag s w)=false):Cq s others w=P (2,Am s w):=by unfold Cq AV;rw[if_neg (by simp[a]),AG]
theorem Vd{others:List ByteArray}(a:AM (Ag s w)=true)(b:A3 (Ag s w) others 0=true):Cq s others w=P (5,Am s w):=by unfold Cq AV;rw[if_pos a,Ai,if_pos b]
theorem We{others:List ByteArray}(a:AM (Ag s w)=true)(b:A3 (Ag s w) others 0=false):Cq s others w=.ok ((Ag s w,Am s w),AC s w):=by unfold Cq AV;rw[if_pos a,Ai,if_neg (by simp[b])]
theorem QJ(a:AM s=true):s≠⟨#[]⟩:=λb=>by rw[b,DG]at a;cases a
theorem HD{w:Q}{x ag:Nat}{v:X}(h:Av)(a4:s.size<=2000)(am:h.length<=100000)(aj:PB n w x o)(p:PS w x ag s b m d)(y:b<=s.size)(ad:B0 w v h):
 Adg Acs 56 #[J (some ⟨x,0,none⟩),v] w λf r=>EG (Cq s (h.map (·.1)) b) x w o (T #[S ⟨#[]⟩,V C 0]) (λay ar v r=>v=T #[S ay.1,V C (ay.2:Int)]/\ar<=s.size/\PS r x ag s ar m d) f r/\(∀ai ah,Cq s (h.map (·.1)) b=P (ai,ah)->Below w.heap.size w r):=by
 obtain⟨a9,a8,rfl,-⟩:=id ad;have U:=hid (λa (a3:Below w.heap.size w a)=>A1 (p.below a3) y);have ab:=hid p;have ac:=hid aj.sy;have af:=hid ad;have ae:=GH y a4;have a6:=Fy;have a7:=Q9;have M:=p.lt;have al:=p.el;clear p aj ad;have t:Hid (∀c,Below w.heap.size w (w.alloc c)):=λc=>bA;have Y:Hid (V2 (w.alloc (.cells #[S ⟨#[]⟩,V C 0] 115)) w.heap.size (S ⟨#[]⟩) (V C 0)):=⟨by simp,by simp,by simp,by simp⟩;cases hw:AM (Ag s b) with
 |false=>
  have u:=hid (Tm (others:=h.map (·.1)) hw);have K:=hid hw;clear hw;go_enter Tryz.func56,Tryz.ntmps56;go_wp2_with (first
   |(go_at_call 57;refine(U.out _ (t.out _)).mono ?_;rintro f a ⟨rfl,g⟩;have i:Hid (Below w.heap.size w a):=(t.out _).trans (g.mono (by simp));have e:Hid (∀c,Below w.heap.size w (a.alloc c)):=(λc=>i.out.alloc i.out.size _);have aB:=λc=>(ac.out.cJ (e.out c)).sy;have B:=hid (Y.out.cJ g);clear g)
   |(go_at_call 92;refine(DK _ _ ae).mono ?_;rintro f r ⟨rfl,rfl⟩;rw[K.out])
   |(go_at_call 91;refine(CU o 12 (ab.out.below (e.out _)) y).mono ?_;rintro f N ⟨rfl,q⟩;have z:Hid (Below w.heap.size w N):=(e.out _).trans (q.mono (e.out _).size);have l:=hid ((B.out.cJ bA).cJ q);obtain⟨an,ao,ap,aq⟩:=id l.out;clear q))
  obtain⟨D,G,-,-⟩:=l.out.put (S ⟨#[]⟩) (V C 0);refine Adc (v:=R #[T #[S ⟨#[]⟩,V C 0],Ll o 12 (Am s b)]) (by simp[results,Tryz.results56,go_sem,D,G]) rfl ?_;exact⟨EG.bad u.out (EF.cI ((z.out.setCell (Acu _) _).setCell (Acu _) _)) rfl,λ_ _ _=>(z.out.setCell (Acu _) _).setCell (Acu _) _⟩
 |true=>
  have K:=hid hw;cases hi:A3 (Ag s b) (h.map (·.1)) 0 with
  |true=>
   have u:=hid (Vd (others:=h.map (·.1)) hw hi);have O:=hid hi;clear hw hi;go_enter Tryz.func56,Tryz.ntmps56;go_wp2_with (first
    |(go_at_call 57;refine(U.out _ (t.out _)).mono ?_;rintro f a ⟨rfl,g⟩;have i:Hid (Below w.heap.size w a):=(t.out _).trans (g.mono (by simp));have e:Hid (∀c,Below w.heap.size w (a.alloc c)):=(λc=>i.out.alloc i.out.size _);have B:=hid (Y.out.cJ g);clear g)
    |(go_at_call 92;refine(DK _ _ ae).mono ?_;rintro f r ⟨rfl,rfl⟩;rw[K.out])
    |(go_at_call 93;refine(Ht h _ _ _ am (af.out.cJ (e.out _))).mono ?_;rintro f H ⟨rfl,j⟩;have k:Hid (Below w.heap.size w H):=(e.out _).trans (j.mono (e.out _).size);have aa:=hid ((B.out.cJ bA).cJ j);have I:Hid (V2 H a.heap.size (S (Ag s b)) (V C (Am s b:Int))):=V2.cJ (w:=a.alloc (.cells #[S (Ag s b),V C (Am s b:Int)] 149)) ⟨by simp,by simp,by simp,by simp⟩ j;obtain⟨au,av,aw,ax⟩:=id I.out;have a5:=(ac.out.cJ k.out).tw;clear j;rw[O.out])
    |(go_at_call 91;refine(CU o 14 (ab.out.below k.out) y).mono ?_;rintro f N ⟨rfl,q⟩;have z:Hid (Below w.heap.size w N):=k.out.trans (q.mono k.out.size);have l:=hid (aa.out.cJ q);obtain⟨an,ao,ap,aq⟩:=id l.out;clear q))
   obtain⟨D,G,-,-⟩:=l.out.put (S ⟨#[]⟩) (V C 0);refine Adc (v:=R #[T #[S ⟨#[]⟩,V C 0],Ll o 14 (Am s b)]) (by simp[results,Tryz.results56,go_sem,D,G]) rfl ?_;exact⟨EG.bad u.out (EF.cI ((z.out.setCell (Acu _) _).setCell (Acu _) _)) rfl,λ_ _ _=>(z.out.setCell (Acu _) _).setCell (Acu _) _⟩
  |false=>
   have u:=hid (We (others:=h.map (·.1)) hw hi);have O:=hid hi;have a0:=hid (QJ hw);clear hw hi;go_enter Tryz.func56,Tryz.ntmps56;go_wp2_with (first
    |(go_at_call 57;refine(U.out _ (t.out _)).mono ?_;rintro f a ⟨rfl,g⟩;have i:Hid (Below w.heap.size w a):=(t.out _).trans (g.mono (by simp));have e:Hid (∀c,Below w.heap.size w (a.alloc c)):=(λc=>i.out.alloc i.out.size _);have B:=hid (Y.out.cJ g);clear g)
    |(go_at_call 92;refine(DK _ _ ae).mono ?_;rintro f r ⟨rfl,rfl⟩;rw[K.out])
    |(go_at_call 93;refine(Ht h _ _ _ am (af.out.cJ (e.out _))).mono ?_;rintro f H ⟨rfl,j⟩;have k:Hid (Below w.heap.size w H):=(e.out _).trans (j.mono (e.out _).size);have aa:=hid ((B.out.cJ bA).cJ j);have I:Hid (V2 H a.heap.size (S (Ag s b)) (V C (Am s b:Int))):=V2.cJ (w:=a.alloc (.cells #[S (Ag s b),V C (Am s b:Int)] 149)) ⟨by simp,by simp,by simp,by simp⟩ j;obtain⟨au,av,aw,ax⟩:=id I.out;have a5:=(ac.out.cJ k.out).tw;clear j;rw[O.out])
    |(go_at_call 58;refine(Bv (ab.out.below k.out) y).mono ?_;rintro f N ⟨rfl,L,ak⟩;have az:=hid ((EF.cI (E:=x) k.out).trans L);have a1:=hid (ak a0.out);have a2:=hid (I.out.ef L (Aej (Ac2 M i.out.size)));have l:=hid (aa.out.ef L (Aej M));obtain⟨an,ao,ap,aq⟩:=id l.out;obtain⟨au,av,aw,ax⟩:=id a2.out;clear L ak))
   obtain⟨D,G,-,-⟩:=l.out.put (S (Ag s b)) (V C (Am s b:Int));refine Adc (v:=R #[T #[S (Ag s b),V C (Am s b:Int)],.nilIface]) (by simp[results,Tryz.results56,go_sem,D,G]) rfl ?_;refine⟨EG.ok u.out ?_ ⟨rfl,AK y,?_⟩,λai ah p=>by rw[u.out]at p;cases p⟩
   ·exact EJ (EJ az.out (Acu _)) (Acu _)
   ·exact(a1.out.dc (Aej M) (Aej al)).dc (Aej M) (Aej al)
theorem C0(a:Av)(r:s.size<=2000)(k:a.length<=100000)(i:PB n p w o)(c:PS p w v s b m d)(l:b<=s.size)(j:B0 p q a):
 Adg Acs 56 #[J (some ⟨w,0,none⟩),q] p λh e=>EG (Cq s (a.map (·.1)) b) w p o (T #[S ⟨#[]⟩,V C 0]) (λg f q e=>q=T #[S g.1,V C (g.2:Int)]/\f<=s.size/\PS e w v s f m d) h e:=
 (HD a r k i c l j).mono λ_ _ c=>c.1
def KQ(b:Nat->Addr)(c a:Nat):X:=T #[Z 366 (J (some (b c))),V C 0,V C (a:Int)]
theorem Mu.cQ(a:Mu sr w n o xl ns p)(c:sr=P (v,b)):ns=F (Z 107 (KQ o (Dm v) b))/\EF w n p:=by
 subst c;exact⟨a.2,a.1⟩
theorem Mu.isOk(a:Mu sr w n o xl ns p)(b:sr=.ok (s5,v)):ns=F .nilIface/\EF w n p/\xl v p:=by
 subst b;exact⟨a.2.1,a.1,a.2.2⟩
theorem EG.cQ{c:Pr wd}{d:wd->Nat->X->Q->Prop}(a:EG c w n o m d ns p)(e:c=P (v,b)):ns=F (R #[m,Z 107 (KQ o (Dm v) b)])/\EF w n p:=by
 subst e;exact⟨a.2,a.1⟩
theorem EG.isOk{d:Pr wd}{b:wd->Nat->X->Q->Prop}{e:wd}(c:EG d w n o m b ns p)(g:d=.ok (e,v)):∃a,ns=F (R #[a,.nilIface])/\EF w n p/\b e v a p:=by
 subst g;let ⟨a,h,f⟩:=c.2;exact⟨a,h,c.1,f⟩
theorem O1(b c:ByteArray)(a:Nat):BA b [c] a=Al b c a:=by
 show pb (Al b c a) (λ_ d=>.ok ((),d))=_;match Al b c a with
 |P e=>rfl
 |.ok ((),d)=>rfl
theorem Bx(e:ByteArray)(u:PB n p w o)(j:PS p w v s b m d)(q:b<=s.size)(z:e≠⟨#[]⟩):
 Adg Acs 55 #[J (some ⟨w,0,none⟩),W (some ⟨p.heap.size,0,none⟩) 1 1] (p.alloc (.cells #[S e] 9)) λi h=>Mu (Al s e b) w p o (λg h=>g<=s.size/\PS h w v s g m d) i h:=by
 have l:Below p.heap.size p (p.alloc (.cells #[S e] 9)):=bA;have k:EF w p (p.alloc (.cells #[S e] 9)):=EF.cI l;have y:Pm (p.alloc (.cells #[S e] 9)) w (W (some ⟨p.heap.size,0,none⟩) 1 1) [e]:=⟨p.heap.size,0,1,rfl,Aej j.lt,λr x=>by
  have:r=0:=by grind
  subst this;simp⟩
 refine(Jc (u.ef k) (j.below l) q y (by simp) (λr x=>nofun)).mono ?_;rintro i h ⟨t,f⟩;rw[O1]at f;refine⟨k.trans t,?_⟩;match hr:Al s e b with
 |P (c,a)=>grind
 |.ok ((),g)=>
  rw[hr]at f;refine⟨f.1,(Aj z b q () g hr).2,f.2 λD B=>?_⟩;grind
abbrev Cu(d:Q)(b:Nat)(c:X)(a:Av):Prop:=AZ wC (λ_=>[]) (λ_ _=>True) 115 2 d b c a
theorem Tryz.dS:(Acs.info? 115).map (λa=>(a.zero,a.size,a.bytes))=some (some (T #[S ⟨#[]⟩,V C 0]),2,24):=by kernel_rfl
theorem Qo(b:Av)(a:Nat)(d:a<b.length):(b.flatMap wC)[a*2]?=some (.string b[a].1)/\(b.flatMap wC)[a*2+1]?=some (V C (b[a].2:Int)):=Co (λc:ByteArray×Nat=>Value.string c.1) (λc=>Value.int C c.2) b a d
theorem Cu.nm{w:Q}{g:Nat}(a:Cu w g m l):B0 w m l:=by
 obtain⟨h,c,rfl⟩:=a.slice;refine⟨h,c,rfl,λo=>?_⟩;rcases FL a.own with⟨b,p⟩|⟨d,i,b,-,n⟩
 ·grind
 ·cases b;refine⟨d,0,rfl,(a.rg d (Acw _ (by rw[An];simp))).2,λf e=>?_⟩;let ⟨j,k⟩:=Qo l f e
  grind
theorem AZ.ef{g:wd->List X}{e:wd->List Nat}{d:Q->wd->Prop}{j:Nat}(n:FI e d){w l:Q}{c f:Nat}{k:X}{m:List wd}(a:AZ g e d M j w c k m)(h:EF f w l)(o:f<c):AZ g e d M j l c k m:=
 a.fr n h.size λb i=>h.block b (a.rg b i).2 (by have:=(a.rg b i).1;omega)
theorem CK:Ae.toList=[41]:=by rw[Adw];rfl
theorem IU:Ax.toList=[40]:=by rw[Adw];rfl
theorem FC(b:wn.toList=vf)(a:s=wn):(s.toList==vf)=true:=by rw[a,b];simp
theorem Fz(c:wn.toList=vf)(b:¬s=wn):(s.toList==vf)=false:=by
 rw[beq_eq_false_iff_ne];intro a;exact b (Bl (by rw[a,c]))
def IG:X->Nat
 |W _ n _=>n
 |_=>0
structure T9 (d g:Nat) (c:ByteArray) (h:X) (i:Nat) (f:Pr Av) (e wr:Q) (a:Av) (b:Nat) (k:Option Addr) (j:Nat):Prop where
 hq:b<=c.size
 ps:PS wr d g c b h i
 row:Cu wr e.heap.size (W k a.length j) a
 ef:EF d e wr
 eq:f=AU c (c.size+1-a.length) a b
 len:a.length<=b
theorem Mi(f:EF w n p)(j:∀c,m.ownBlock=some c->n.heap.size<=c)(b:(p.alloc nv).grownBy h m.ownBlock):EF w n h:=by
 have a:EF w n (p.alloc nv):=f.trans (EF.cI bA);refine⟨b.os.trans a.os,b.tape.trans a.tape,b.output.trans a.output,Ac5 a.size b.size,λe d g=>?_⟩;rw[b.block e (Ac2 d a.size) (λi=>by grind)];exact a.block e d g
theorem PS.push{g:Nat}(t:PS n w v s g m d)(k:∀b,q.ownBlock=some b->b≠w/\b≠v)(i:(n.alloc nv).grownBy p q.ownBlock):PS p w v s g m d:=by
 have a:PS (n.alloc nv) w v s g m d:=t.below bA;have c:=i.block w a.lt (λe=>(k w e.symm).1 rfl);have h:=i.block v a.el (λe=>(k v e.symm).2 rfl);let ⟨E,r,u,x,y,B,l⟩:=a.c0
 refine⟨⟨E,r,?_,x,y,B,λo j=>⟨?_,?_⟩⟩,?_,?_,λD z=>?_⟩
 ·rw[Ac1 c];exact u
 ·rw[Ac1 h];exact(l o j).1
 ·rw[Ac1 h];exact(l o j).2
 ·rw[Ac1 c];exact a.c1
 ·rw[Ac1 c];exact a.c2
 ·rw[Adm c];exact a.f D z
theorem Pb(a:Ag s v=Ae):AU s (w+1) l v=.ok (l,AC s v):=by exact if_pos a
theorem Lc(c:¬Ag s v=Ae):AU s (w+1) l v=pb (Cq s (l.map (·.1)) v) λa b=>AU s w (l++[a]) b:=by
 refine(if_neg c).trans ?_;unfold Cq;match AV s v with
 |P e=>rfl
 |.ok (a,b)=>
  show(if A3 a.1 (l.map (·.1)) 0=true then _ else _)=pb (if A3 a.1 (l.map (·.1)) 0=true then _ else _) _;split<;>rfl
theorem T9.push{e i:Nat}{c:ByteArray}{m:X}{p:Nat}{s:Pr Av}{k wr j l:Q}{a:Av}{g h:Nat}{r:Option Addr}{q:Nat}{x:ByteArray×Nat}{z:Obj}(d:T9 e i c m p s k wr a g r q)(D:e<k.heap.size)(Y:i<k.heap.size)(K:¬Ag c g=Ae)(w:Cq c (a.map (·.1)) g=.ok (x,h))(n:EF e wr j)(E:PS j e i c h m p)(o:(j.alloc z).grownBy l (W r a.length q).ownBlock){f t:Nat}(G:(W r a.length q).ownBlock=some f\/f=(j.alloc z).heap.size)(I:f<l.heap.size)(L:l.ownsRow 0 115 2 (W (some ⟨f,0,none⟩) (a.length+1) t) (a.length+1) (a.flatMap wC++[S x.1,V C (x.2:Int)])):
 T9 e i c m p s k l (a++[x]) h (some ⟨f,0,none⟩) t:=by
 have H:(a++[x]).length=a.length+1:=by simp
 have v:=d.row.ef II n D;have N:=λb u=>(v.rg b (Acw _ (Ah.2 u))).1;have aa:=d.len;have M:g+1<=h/\h<=c.size:=by
  let ⟨y,O,B,U⟩:=Ac w
  have:=BH g d.hq y O B;grind
 refine⟨M.2,E.push (λb u=>⟨by grind,by grind⟩) o,?_,Mi (d.ef.trans n) N o,?_,by omega⟩
 ·rw[H];exact v.dR II (Ac5 d.ef.size n.size) trivial o G I L
 ·rw[d.eq,show c.size+1-a.length=(c.size+1-(a++[x]).length)+1 by omega,Lc K,w,Ai]
theorem Dy(a9:s.size<=2000)(ab:PB n p w o)(H:PS p w v s b m d)(a6:b<=s.size):
 Adg Acs 123 #[J (some ⟨w,0,none⟩)] p λh L=>EG (Be s b) w p o (W none 0 0) (λaC i ar L=>i<=s.size/\PS L w v s i m d/\Cu L p.heap.size ar aC) h L:=by
 have ac:=H.lt;have a1:=H.el;have aa:=hid (Bx Ax ab H a6 (by decide));have au:=hid ab;obtain⟨aB,a5,an⟩:=Adb.1 Tryz.dS;simp only[Aeb]at an;obtain⟨a2,a3,a4⟩:=an;clear ab H;have aD:=Fy;match e:Al s Ax b with
 |P (c,a)=>
  have D:Hid (Be s b=P (c,a)):=by
   show pb (Al s Ax b) _=_;rw[e,AG]
  have O:=hid e;clear e;go_enter Tryz.func123,Tryz.ntmps123;go_wp2_with (first
   |(go_at_call 55;refine aa.out.mono ?_;rintro h j e;obtain⟨rfl,y⟩:=e.cQ O.out;have B:=hid y;clear e y))
  go_ret2
  exact EG.bad D.out B.out rfl
 |.ok ((),q0)=>
  have D:Hid (Be s b=AU s (s.size+1) [] q0):=by
   show pb (Al s Ax b) _=_;rw[e,Ai]
  have O:=hid e;clear e;go_enter Tryz.func123,Tryz.ntmps123;go_wp2_with (first
   |(go_at_call 55;refine aa.out.mono ?_;rintro h j e;obtain⟨rfl,y,a7,ak⟩:=e.isOk O.out;have B:=hid y;have aj:=hid ak;clear e y ak))
  have ah:Hid (T9 w v s m d (AU s (s.size+1) [] q0) p j [] q0 none 0):=⟨a7,aj.out,AZ.nil _ _,B.out,rfl,Ac0 _⟩;generalize AU s (s.size+1) [] q0=R at*;clear aj aa;go_loopw [5] (λae wr=>∃(f:Av) (i:Nat) (K:Option Addr) (I:Nat),ae=W K f.length I/\Hid (T9 w v s m d R p wr f i K I)) (λae _=>s.size+1-IG ae)
  case atStart=>exact⟨[],q0,none,0,rfl,ah.out⟩
  case round=>
   clear ah B;obtain⟨f,i,K,I,rfl,g⟩:=hrel;rename Q=>wr
   have ad:=g.out.hq;have aG:=g.out.len;have N:=hid (A1 g.out.ps ad);have ag:=hid (au.out.ef g.out.ef);by_cases r:Ag s i=Ae
   ·have Y:Hid (R=.ok (f,AC s i)):=by
     show _=_;rw[g.out.eq,show s.size+1-f.length=(s.size-f.length)+1 by omega,Pb r]
    have a0:=FC CK r;have az:=hid (λj (x:Below wr.heap.size wr j)=>Bx Ae (ag.out.ef (EF.cI x)) (g.out.ps.below x) ad (by decide));have ay:=hid (Jb r);clear r;go_wp2_with (first
     |(go_at_call 57;refine N.out.mono ?_;rintro h j ⟨rfl,q⟩;have k:=hid q;clear q)
     |(go_at_call 55;refine(az.out _ k.out).mono ?_;rintro h M e;obtain⟨rfl,l,a8,z⟩:=e.isOk ay.out;have u:=hid ((EF.cI (E:=w) k.out).trans l);have U:=hid z;clear e l z))
    go_ret2
    exact EG.ok (D.out.trans Y.out) (g.out.ef.trans u.out) ⟨a8,U.out,g.out.row.ef II u.out ac⟩
   ·have a0:=Fz CK r;have av:=hid r;have ax:Hid (R=pb (Cq s (f.map (·.1)) i) λt af=>AU s (s.size-f.length) (f++[t]) af):=by
     show _=_;rw[g.out.eq,show s.size+1-f.length=(s.size-f.length)+1 by omega,Lc r]
    have ai:=hid (λj (x:Below wr.heap.size wr j)=>C0 f a9 (by omega) (ag.out.ef (EF.cI x)) (g.out.ps.below x) ad (g.out.row.nm.cJ x));clear r;match hx:Cq s (f.map (·.1)) i with
    |P (c,a)=>
     have Y:Hid (R=P (c,a)):=by show _=_;rw[ax.out,hx,AG]
     have G:=hid hx;clear hx;go_wp2_with (first
      |(go_at_call 57;refine N.out.mono ?_;rintro h j ⟨rfl,q⟩;have k:=hid q;clear q)
      |(go_at_call 56;refine(ai.out _ k.out).mono ?_;rintro h M e;obtain⟨rfl,l⟩:=e.cQ G.out;have u:=hid ((EF.cI (E:=w) k.out).trans l);clear e l))
     go_ret2
     exact EG.bad (D.out.trans Y.out) (g.out.ef.trans (u.out.trans (EF.cI bA))) rfl
    |.ok (t,af)=>
     have G:=hid hx;clear hx;go_wp2_with (first
      |(go_at_call 57;refine N.out.mono ?_;rintro h j ⟨rfl,q⟩;have k:=hid q;clear q)
      |(go_at_call 56;refine(ai.out _ k.out).mono ?_;rintro h M e;obtain⟨ar,rfl,l,rfl,aH,z⟩:=e.isOk G.out;have u:=hid ((EF.cI (E:=w) k.out).trans l);have U:=hid z;clear e l z)
      |(at_builtin;refine Adl _ rfl (.tmp 27) (.tmp 29) 100 rfl 0 115 aB _ 2 24 Tryz.underlying100 a5 a2 a3 a4 rfl (by omega) (W K f.length I) f.length (f.flatMap wC) rfl (((g.out.row.ef II u.out ac).own.alloc _).alloc _) ⟨M.heap.size+1,0,none⟩ 1 1 [S t.1,V C (t.2:Int)] rfl rfl (by simpa using Adu (Adp (M.alloc (Adi #[S t.1,V C (t.2:Int)] 115)) (Adi #[S t.1,V C (t.2:Int)] 115))) (by intro aJ aq;simp at aq;rcases aq with rfl|rfl<;>rfl) (by omega) (by unfold Aed;omega) (by omega) (Ac0 _) _ rfl ?_;intro aE aI aK ap am al ao;have aw:=hid (g.out.push ac a1 av.out G.out (u.out.trans (EF.cI bA)) (U.out.below bA) am al ao ap);clear ap am al ao))
     exact⟨⟨_,af,_,_,by rw[Adk];rfl,aw.out⟩,by simp[IG];omega⟩
abbrev PT:=X×Ex×List Nat
abbrev BT:=Nat×X×Av×PT
def S0(a:PT):List X:=[a.1]
def MP(a:PT):List Nat:=a.2.2
def VZ(a:BT):List X:=[V C (a.1:Int),a.2.1,a.2.2.2.1]
def ZH(a:BT):List Nat:=vB a.2.1++a.2.2.2.2.2
abbrev Ib(b:Q->PT->Prop)(d:Q)(a:Nat)(c:X)(e:List PT):Prop:=AZ S0 MP b 117 1 d a c e
abbrev Rm(b:Q->BT->Prop)(d:Q)(a:Nat)(c:X)(e:List BT):Prop:=AZ VZ ZH b 240 3 d a c e
section
variable (ok:World->PT->Prop)
def Of(b:Q)(a:BT):Prop:=Cu b 0 a.2.1 a.2.2.1/\ok b a.2.2.2
def Xr(b:Q)(d:X)(j:Ex)(c:List Nat):Prop:=match j with
 |.num n=>d=Z 295 (T #[V C n])/\c=[]
 |.name _ t D=>d=Z 115 (T #[S t,V C (D:Int)])/\c=[]
 |.op B l r=>∃x w z y,d=Z 275 (T #[V C (9+(B:Int)),x,z])/\ok b (x,l,w)/\ok b (z,r,y)/\c=w++y
 |.call parts=>∃u p g v i a,parts=u::p/\d=Z 277 (T #[g,i])/\ok b (g,u,v)/\Ib ok b 0 i a/\a.map (λh:PT=>h.2.1)=p/\c=v++AJ MP i a
 |.lets r ns es body=>∃k f a e q,d=Z 233 (T #[A r,k,f,e])/\Cu b 0 k ns/\Ib ok b 0 f a/\a.map (λh:PT=>h.2.1)=es/\ok b (e,body,q)/\c=vB k++(AJ MP f a++q)
 |.Fs E fs=>∃g a,d=Z 304 (T #[V C (E:Int),g])/\Ib ok b 0 g a/\a.map (λh:PT=>h.2.1)=fs/\c=AJ MP g a
 |.case j brs=>∃f s e o,d=Z 237 (T #[f,e])/\ok b (f,j,s)/\Rm (Of ok) b 0 e o/\o.map (λm:BT=>(m.1,m.2.2.1,m.2.2.2.2.1))=brs/\c=s++AJ ZH e o
end
def PX:Nat->Q->PT->Prop
 |0,_,_=>False
 |d+1,w,x=>Xr (PX d) w x.1 x.2.1 x.2.2
theorem Cu.fr{c w':Q}{e:Nat}{b:X}{d:Av}(f:Cu c e b d)(i:c.heap.size<=w'.heap.size)(h:Fr (vB b) c w'):Cu w' e b d:=AZ.fr II f i (h.sub λj g=>by
 rcases Acz.1 g with a|a
 ·exact a
 ·simp at a)
variable{x4:World->PT->Prop}
theorem D0(f:FI MP x4):FI ZH (Of x4):=by
 intro g h i b d c;exact⟨b.1.fr d (c.sub λe a=>Acw _ a),f g h _ b.2 d (c.sub λe a=>Acx _ a)⟩
theorem Xr.fr{y:Q->PT->Prop}(i:FI MP y){m w':Q}{z:X}{e:Ex}{s:List Nat}(o:Xr y m z e s)(c:m.heap.size<=w'.heap.size)(b:Fr s m w'):Xr y w' z e s:=by
 cases e with
 |num n=>exact o
 |name g t pl=>exact o
 |op k l r=>
  obtain⟨L,K,O,N,d,f,h,rfl⟩:=o;exact⟨L,K,O,N,d,i m w' _ f c (b.sub λj a=>Acw _ a),i m w' _ h c (b.sub λj a=>Acx _ a),rfl⟩
 |call parts=>
  obtain⟨H,B,w,I,D,q,d,f,h,p,x,rfl⟩:=o;exact⟨H,B,w,I,D,q,d,f,i m w' _ h c (b.sub λj a=>Acw _ a),p.fr i c (b.sub λj a=>Acx _ a),x,rfl⟩
 |lets r ns es body=>
  obtain⟨M,v,q,u,E,d,f,h,p,x,rfl⟩:=o;exact⟨M,v,q,u,E,d,f.fr c (b.sub λj a=>Acw _ a),h.fr i c (b.sub λj a=>Acx _ (Acw _ a)),p,i m w' _ x c (b.sub λj a=>Acx _ (Acx _ a)),rfl⟩
 |Fs tag fs=>
  obtain⟨w,q,d,f,h,rfl⟩:=o;exact⟨w,q,d,f.fr i c b,h,rfl⟩
 |case e brs=>
  obtain⟨v,G,u,U,d,f,h,p,rfl⟩:=o;exact⟨v,G,u,U,d,i m w' _ f c (b.sub λj a=>Acw _ a),h.fr (D0 i) c (b.sub λj a=>Acx _ a),p,rfl⟩
theorem Ch:∀a,FI MP (PX a)
 |0=>λ_ _ _ b=>b.elim
 |a+1=>λ_ _ _ b d c=>Xr.fr (Ch a) b d c
theorem PX.dd:∀{d:Nat} {i:Q} {b:X} {e:Ex} {c:List Nat},PX d i (b,e,c)->∃f q,b=Z f q
 |0,_,_,_,_,h=>h.elim
 |d+1,i,b,e,c,h=>by
  cases e with
  |num n=>exact⟨_,_,h.1⟩
  |name g f pl=>exact⟨_,_,h.1⟩
  |op k l r=>obtain⟨B,z,G,E,a,-⟩:=h;grind
  |call parts=>obtain⟨w,s,p,x,t,j,-,y,-⟩:=h;grind
  |lets r ns es body=>obtain⟨D,o,j,m,u,a,-⟩:=h;grind
  |Fs tag fs=>obtain⟨p,j,a,-⟩:=h;grind
  |case e brs=>obtain⟨o,v,m,H,a,-⟩:=h;grind
def CT(c:Nat)(d:Q)(b:List Nat):Prop:=b.Nodup/\∀a∈b,c<=a/\a<d.heap.size
theorem CT.nil(b:Nat)(c:Q):CT b c []:=⟨Ag6,λd a=>by cases a⟩
theorem CT.up(a:CT w n t)(d:n.heap.size<=p.heap.size):CT w p t:=⟨a.1,λb c=>⟨(a.2 b c).1,Ac2 (a.2 b c).2 d⟩⟩
theorem CT.low(a:CT w n t)(d:v<=w):CT v n t:=⟨a.1,λb c=>⟨Ac5 d (a.2 b c).1,(a.2 b c).2⟩⟩
theorem CT.fr{w':Q}(b:CT w n t)(d:EF v n w')(e:v<w):Fr t n w':=λa c=>d.block a (b.2 a c).2 (by have:=(b.2 a c).1;omega)
theorem CT.dM(c:CT w n t)(d:CT n.heap.size p wg)(h:w<=n.heap.size)(i:n.heap.size<=p.heap.size):CT w p (t++wg):=by
 refine⟨Aee.2 ⟨c.1,d.1,λf g a e j=>?_⟩,λa e=>?_⟩
 ·have b:=(c.2 f g).2;have k:=(d.2 a e).1;omega
 ·rcases Acz.1 e with b|b
  ·exact⟨(c.2 a b).1,Ac2 (c.2 a b).2 i⟩
  ·exact⟨Ac5 h (d.2 a b).1,(d.2 a b).2⟩
def Z3(a:X):Prop:=a=.nilIface\/∃b c,a=Z b c
def Bj{f:Type}(j:Pr f)(g:Nat)(l:Q)(i:Nat->Addr)(h:f->Nat->X->Q->Prop)(d:Ending)(e:Q):Prop:=EF g l e/\match j with
 |.ok (a,q)=>∃b,d=F (R #[b,.nilIface])/\h a q b e
 |P (c,k)=>∃b,d=F (R #[b,Ll i (Dm c) k])/\Z3 b
theorem Bj.ok{c:Pr wd}{a:wd->Nat->X->Q->Prop}{b:wd}(e:c=.ok (b,v))(d:EF w n p)(f:a b v m p):Bj c w n o a (F (R #[m,.nilIface])) p:=⟨d,by grind⟩
theorem Bj.bad{a:Pr wd}{c:wd->Nat->X->Q->Prop}(e:a=P (v,b))(d:EF w n p)(g:q=Ll o (Dm v) b)(f:Z3 m):Bj a w n o c (F (R #[m,q])) p:=⟨d,by grind⟩
theorem Bj.cQ{d:Pr wd}{e:wd->Nat->X->Q->Prop}(c:Bj d w n o e ns p)(g:d=P (v,b)):∃a,ns=F (R #[a,Z 107 (KQ o (Dm v) b)])/\EF w n p/\Z3 a:=by
 subst g;let ⟨a,h,f⟩:=c.2;exact⟨a,h,c.1,f⟩
theorem Bj.isOk{d:Pr wd}{b:wd->Nat->X->Q->Prop}{e:wd}(c:Bj d w n o b ns p)(g:d=.ok (e,v)):∃a,ns=F (R #[a,.nilIface])/\EF w n p/\b e v a p:=by
 subst g;let ⟨a,h,f⟩:=c.2;exact⟨a,h,c.1,f⟩
def XV(g:Nat)(d:ByteArray)(e f:Nat)(h:X)(i:Nat)(k:Q)(l:Ex)(c:Nat)(j:X)(a:Q):Prop:=c<=d.size/\PS a e f d c h i/\∃b,PX g a (j,l,b)/\CT k.heap.size a b
def C6(j:Q)(a e:Nat)(f:Nat->Addr)(c:ByteArray)(h:X)(g i:Nat):Prop:=∀(b:Q) (d:Nat),PB j b a f->PS b a e c d h i->d<=c.size->
 Adg Acs 124 #[J (some ⟨a,0,none⟩)] b λk l=>Bj (pE c g d) a b f (XV (g+1) c a e h i b) k l
theorem PQ(a:AM s=true):Aw s=none:=by
 unfold AM at a;simp[decide_eq_true_eq]at a;obtain⟨⟨⟨b,-⟩,c⟩,-⟩:=a;rw[FU c]at b;simp[ne_eq,not_true_eq_false,decide_false,Bool.false_and,Bool.or_false]at b;have f:97<=s[0].toNat:=by
  have:=b.1;simp[Fu,decide_eq_true_eq]at this;omega
 have i:En s=false:=by
  unfold En;grind
 have g:Bb s=s:=by unfold Bb;grind
 refine Ls (Ads ?_);unfold Hg;have e:0<s.data.toList.length:=by simpa using c
 have d:s.data.toList=s[0]::s.data.toList.drop 1:=by
  have:=Adv e;exact this
 have h:Dr s.data.toList=false:=by
  rw[d];unfold Dr;rw[Acd];have:BR s[0].toNat=false:=by
   unfold BR;grind
  rw[this];rfl
 grind
theorem Tq(a:Aw (Ag s w)=some we):BB s w=.ok (.num we,AC s w):=by
 have b:AM (Ag s w)=false:=by
  cases b:AM (Ag s w) with
  |false=>rfl
  |true=>rw[PQ b]at a;cases a
 unfold BB;grind
theorem S6(a:AM (Ag s w)=true):BB s w=.ok (.name false (Ag s w) (Am s w),AC s w):=by unfold BB;rw[if_pos a]
theorem U4(a:AM (Ag s w)=false)(b:Aw (Ag s w)=none):BB s w=P (2,Am s w):=by unfold BB;grind
theorem T0(a:Aw s=some we):s≠⟨#[]⟩:=λb=>by rw[b,D3]at a;cases a
theorem Bj.two{d:Pr wd}{e:wd->Nat->X->Q->Prop}(a:Bj d w n o e ns p):∃b f,ns=F (R #[b,f]):=by
 match d,a with
 |P (c,k),a=>obtain⟨h,g,-⟩:=a.2;grind
 |.ok (b,q),a=>obtain⟨h,g,-⟩:=a.2;grind
theorem Bj.dw(e:Bj sa w p o (XV b s w v m d p) ns h)(f:EF w n p):Bj sa w n o (XV b s w v m d n) ns h:=by
 refine⟨f.trans e.1,?_⟩;match sa,e with
 |P (c,k),e=>exact e.2
 |.ok (a,q),e=>
  let ⟨u,t,i,j,g,l,r⟩:=e.2
  exact⟨u,t,i,j,g,l,r.low f.size⟩
def Qj(j:Q)(a e:Nat)(f:Nat->Addr)(b:ByteArray)(h:X)(g i:Nat):Prop:=∀(c:Q) (d:Nat),PB j c a f->PS c a e b d h i->d<=b.size->Ag b d=Ax->
 Adg Acs 170 #[J (some ⟨a,0,none⟩)] c λk l=>Bj (pE b g d) a c f (XV (g+1) b a e h i c) k l
theorem WQ(b:¬Ag s w=Ax):∀a,pE s a w=BB s w
 |0=>by exact if_neg b
 |a+1=>by exact if_neg b
theorem XJ{D:Nat}(ag:s.size<=2000)(g:Q)(i:Nat)(af:Ag s i=Ax->∀e,PB n e w o->PS e w D s i m d->Adg Acs 170 #[J (some ⟨w,0,none⟩)] e λc y=>Bj (pE s b i) w e o (XV (b+1) s w D m d e) c y)(G:PB n g w o)(r:PS g w D s i m d)(k:i<=s.size):
 Adg Acs 124 #[J (some ⟨w,0,none⟩)] g λc y=>Bj (pE s b i) w g o (XV (b+1) s w D m d g) c y:=by
 have z:=hid (λe (H:Below g.heap.size g e)=>A1 (r.below H) k);have O:=hid r;have B:=hid G.sy;have x:=GH k ag;have ai:=Fy;have aj:=Q9;have a:=hid (Acv g.heap.size g);by_cases l:Ag s i=Ax
 ·have ac:=hid (λe (H:Below g.heap.size g e)=>af l e (G.ef (EF.cI H)) (r.below H));have ae:=FC IU l;clear r G l;go_enter Tryz.func124,Tryz.ntmps124;go_wp2_with (first
   |(go_at_call 57;refine(z.out _ a.out).mono ?_;rintro c e ⟨rfl,f⟩;replace a:=hid (a.out.trans (f.mono a.out.size));clear f)
   |(go_at_call 170;refine(ac.out _ a.out).mono ?_;intro c an U;have ad:=hid (U.dw (EF.cI a.out));obtain⟨ak,al,rfl⟩:=U.two;clear U))
  go_ret2
  exact ad.out
 ·have ae:=Fz IU l;have I:=hid (WQ l b);clear r G l;cases hw:Aw (Ag s i) with
  |some v=>
   have p:=hid (I.out.trans (Tq hw));have M:=hid (T0 hw);have q:=hid hw;clear hw;go_enter Tryz.func124,Tryz.ntmps124;go_wp2_with (first
    |(go_at_call 57;refine(z.out _ a.out).mono ?_;rintro c e ⟨rfl,f⟩;replace a:=hid (a.out.trans (f.mono a.out.size));clear f)
    |(go_at_call 171;refine(Ew _ x (B.out.cJ a.out)).mono ?_;rintro c ab ⟨j,aa,rfl,h⟩;obtain rfl:=h v q.out;replace a:=hid (a.out.trans (j.mono a.out.size));clear j h;rw[q.out];simp only[Option.isSome_some])
    |(go_at_call 58;refine(Bv (O.out.below a.out) k).mono ?_;rintro c ah ⟨rfl,t,u⟩;have K:=hid ((EF.cI (E:=w) a.out).trans t);have N:=hid (u M.out);clear t u))
   go_ret2
   exact Bj.ok p.out K.out ⟨AK k,N.out,[],⟨rfl,rfl⟩,CT.nil _ _⟩
  |none=>
   have q:=hid hw;cases h:AM (Ag s i) with
   |true=>
    have p:=hid (I.out.trans (S6 h));have M:=hid (QJ h);have L:=hid h;clear hw h;go_enter Tryz.func124,Tryz.ntmps124;go_wp2_with (first
     |(go_at_call 57;refine(z.out _ a.out).mono ?_;rintro c e ⟨rfl,f⟩;replace a:=hid (a.out.trans (f.mono a.out.size));clear f)
     |(go_at_call 171;refine(Ew _ x (B.out.cJ a.out)).mono ?_;rintro c ab ⟨j,aa,rfl,-⟩;replace a:=hid (a.out.trans (j.mono a.out.size));clear j;rw[q.out];simp only[Option.isSome_none])
     |(go_at_call 92;refine(DK _ _ x).mono ?_;rintro c y ⟨rfl,rfl⟩;rw[L.out])
     |(go_at_call 58;refine(Bv (O.out.below a.out) k).mono ?_;rintro c ah ⟨rfl,t,u⟩;have K:=hid ((EF.cI (E:=w) a.out).trans t);have N:=hid (u M.out);clear t u))
    go_ret2
    exact Bj.ok p.out K.out ⟨AK k,N.out,[],⟨rfl,rfl⟩,CT.nil _ _⟩
   |false=>
    have p:=hid (I.out.trans (U4 h hw));have L:=hid h;clear hw h;go_enter Tryz.func124,Tryz.ntmps124;go_wp2_with (first
     |(go_at_call 57;refine(z.out _ a.out).mono ?_;rintro c e ⟨rfl,f⟩;replace a:=hid (a.out.trans (f.mono a.out.size));clear f)
     |(go_at_call 171;refine(Ew _ x (B.out.cJ a.out)).mono ?_;rintro c ab ⟨j,aa,rfl,-⟩;replace a:=hid (a.out.trans (j.mono a.out.size));clear j;rw[q.out];simp only[Option.isSome_none])
     |(go_at_call 92;refine(DK _ _ x).mono ?_;rintro c y ⟨rfl,rfl⟩;rw[L.out];have am:=(B.out.cJ a.out).sy)
     |(go_at_call 91;refine(CU o 12 (O.out.below a.out) k).mono ?_;rintro c ao ⟨rfl,Y⟩;replace a:=hid (a.out.trans (Y.mono a.out.size));clear Y))
    go_ret2
    exact Bj.bad p.out (EF.cI a.out) rfl (Ads rfl)
theorem QU(k:s.size<=2000)(i:Qj n w v o s m b d):C6 n w v o s m b d:=λl c h e a=>XJ k l c (λj p f g=>i p c f g a j) h e a
def Jg(j:Nat)(i:Q)(a e:Nat)(f:Nat->Addr)(d:ByteArray)(g:X)(k h:Nat)(n:Nat->Pr Ex)(m:Array X):Prop:=∀(b:Q) (c:Nat),PB i b a f->PS b a e d c g h->c<=d.size->
 Adg Acs j (#[J (some ⟨a,0,none⟩)]++m) b λl o=>Bj (n c) a b f (XV (k+2) d a e g h b) l o
theorem VY{d:Nat}(b:Ag s w=Ax):pE s (d+1) w=pb (AY s (pE s d) (AC s w)) λa c=>pb (Al s Ae c) λ_ e=>.ok (a,e):=by exact if_pos b
theorem VS(a:Ag s w=Ax):pE s 0 w=P (3,Am s w):=by exact if_pos a
theorem UN:Ax≠⟨#[]⟩:=nofun
theorem HI(a:ByteArray)(e:Nat)(j:p.heap.size=e)(i:PB n p w o)(h:PS p w v s b m d)(k:b<=s.size)(l:a≠⟨#[]⟩):
 Adg Acs 55 #[J (some ⟨w,0,none⟩),W (some ⟨e,0,none⟩) 1 1] (p.alloc (.cells #[S a] 9)) λg c=>Mu (Al s a b) w p o (λf c=>f<=s.size/\PS c w v s f m d) g c:=by
 subst j;exact Bx a i h k l
theorem L9:Qj n w v o s m 0 30:=by
 intro l k d a g f;have b:=hid (VS f);have c:=hid (CU o 13 a g);have i:=d.sy.dp;have h:=a.c2;go_enter Tryz.func170,Tryz.ntmps170;go_wp2_with (first
  |(refine c.out.mono ?_;rintro j p ⟨rfl,e⟩))
 go_ret2
 exact Bj.bad b.out (EF.cI e) rfl (Ads rfl)
theorem MF{d b:Nat}(a4:b<30)(ac:Jg 194 n w v o s m d (b+1) (AY s (pE s d)) #[]):Qj n w v o s m (d+1) b:=by
 intro G r ak E am ae;have ai:=hid (VY (d:=d) ae);have a2:=E.c2;have a3:=E.f 2 (by omega);have aw:=E.lt;have a5:((b:Int)==30)=false:=by rw[beq_eq_false_iff_ne];omega
 have a6:(0:Int)<=(b:Int):=by omega
 have a7:(b:Int)<30:=by omega
 have y:=hid ak;have aq:Hid (PS (G.setCell ⟨w,2,none⟩ (V C ((b:Int)+1))) w v s r m (b+1)):=by
  have:=E.dC (b+1);rw[show(((b+1:Nat):Int))=(b:Int)+1 by omega]at this;exact this
 have M:Hid (EF w G (G.setCell ⟨w,2,none⟩ (V C ((b:Int)+1)))):=(EF.refl _ _).set _;have aa:=hid (Bv aq.out am);have U:Hid (Ag s r≠⟨#[]⟩):=by show _≠_;rw[ae];exact UN
 have ad:=AK am;clear ak E ae;match hf:AY s (pE s d) (AC s r) with
 |P (c,a)=>
  have I:Hid (pE s (d+1) r=P (c,a)):=by show _=_;rw[ai.out,hf,AG]
  have H:=hid hf;clear hf;go_enter Tryz.func170,Tryz.ntmps170;go_wp2_with (first
   |(go_at_call 58;refine aa.out.mono ?_;rintro p ao ⟨rfl,i,k⟩;have g:=hid (M.out.trans i);have D:=hid (k U.out);clear i k)
   |(go_at_call 194;refine(ac _ _ (y.out.ef g.out) D.out ad).mono ?_;intro p l e;obtain⟨an,rfl,j,-⟩:=e.cQ H.out;have z:=hid (g.out.trans j);clear e j))
  go_ret2
  exact Bj.bad I.out z.out rfl (Ads rfl)
 |.ok (x,q)=>
  have H:=hid hf;have I:Hid (pE s (d+1) r=pb (Al s Ae q) λ_ ag=>.ok (x,ag)):=by show _=_;rw[ai.out,hf,Ai]
  clear hf;match hc:Al s Ae q with
  |P (c,a)=>
   have ab:Hid (pE s (d+1) r=P (c,a)):=by show _=_;rw[I.out,hc,AG]
   have L:=hid hc;clear hc;go_enter Tryz.func170,Tryz.ntmps170;go_wp2_with (first
    |(go_at_call 58;refine aa.out.mono ?_;rintro p ao ⟨rfl,i,k⟩;have g:=hid (M.out.trans i);have D:=hid (k U.out);clear i k)
    |(go_at_call 194;refine(ac _ _ (y.out.ef g.out) D.out ad).mono ?_;intro p l e;obtain⟨an,rfl,j,af,h,aj,u,K⟩:=e.isOk H.out;obtain⟨a0,a1,rfl⟩:=u.dd;have z:=hid (g.out.trans j);have ay:=h.c2;have av:=h.f 2 (by omega);have Y:Hid (PS (l.setCell ⟨w,2,none⟩ (V C (b:Int))) w v s q m b):=h.dC b;have B:Hid (EF w G (l.setCell ⟨w,2,none⟩ (V C (b:Int)))):=z.out.set _;have az:((b+1:Nat):Int)-1=(b:Int):=(by omega);clear e j h u K)
    |(go_at_call 55;refine(HI Ae _ (by simp) (y.out.ef B.out) Y.out af (by decide)).mono ?_;intro p ap e;obtain⟨rfl,t⟩:=e.cQ L.out;have O:=hid (B.out.trans t);clear e t))
   go_ret2
   exact Bj.bad ab.out O.out rfl (Ad7 ⟨_,_,rfl⟩)
  |.ok ((),ag)=>
   have ab:Hid (pE s (d+1) r=.ok (x,ag)):=by show _=_;rw[I.out,hc,Ai]
   have L:=hid hc;clear hc;go_enter Tryz.func170,Tryz.ntmps170;go_wp2_with (first
    |(go_at_call 58;refine aa.out.mono ?_;rintro p ao ⟨rfl,i,k⟩;have g:=hid (M.out.trans i);have D:=hid (k U.out);clear i k)
    |(go_at_call 194;refine(ac _ _ (y.out.ef g.out) D.out ad).mono ?_;intro p l e;obtain⟨an,rfl,j,af,h,aj,u,K⟩:=e.isOk H.out;obtain⟨a0,a1,rfl⟩:=u.dd;have z:=hid (g.out.trans j);have ay:=h.c2;have av:=h.f 2 (by omega);have Y:Hid (PS (l.setCell ⟨w,2,none⟩ (V C (b:Int))) w v s q m b):=h.dC b;have B:Hid (EF w G (l.setCell ⟨w,2,none⟩ (V C (b:Int)))):=z.out.set _;have az:((b+1:Nat):Int)-1=(b:Int):=(by omega);have au:=hid u;have ah:=hid (K.low g.out.size);clear e j h u K)
    |(go_at_call 55;refine(HI Ae _ (by simp) (y.out.ef B.out) Y.out af (by decide)).mono ?_;intro p ap e;obtain⟨rfl,t,ax,al⟩:=e.isOk L.out;have N:Hid (EF w l ap):=((EF.refl w l).set _).trans t;have O:=hid (B.out.trans t);have ar:=hid al;clear e t al))
   go_ret2
   refine Bj.ok ab.out O.out ⟨ax,ar.out,aj,?_,ah.out.up N.out.size⟩;exact Ch _ _ _ _ au.out N.out.size (ah.out.fr N.out aw)
def pOp(a:Nat->Pr Ex)(b d:Nat):Pr Ex:=pb (a d) λc e=>pb (a e) λg f=>.ok (.op b c g,f)
theorem ZM(g:Nat)(L:C6 n w v o s m b d):Jg 210 n w v o s m b d (pOp (pE s b) g) #[V C (9+(g:Int))]:=by
 intro aq u K I ai;have k:=hid (L aq u K I ai);have O:=hid K;have ah:=I.lt;clear K I;show Adg _ _ #[J (some ⟨w,0,none⟩),V C (9+(g:Int))] _ _;match h1:pE s b u with
 |P (c,a)=>
  have q:Hid (pOp (pE s b) g u=P (c,a)):=by show pb _ _=_;rw[h1,AG]
  have x:=hid h1;clear h1;go_enter Tryz.func210,Tryz.ntmps210;go_wp2_with (first
   |(go_at_call 124;refine k.out.mono ?_;intro y B e;obtain⟨ac,rfl,f,-⟩:=e.cQ x.out;have h:=hid f;clear e f))
  go_ret2
  exact Bj.bad q.out h.out rfl (Ads rfl)
 |.ok (l,q1)=>
  have x:=hid h1;match h2:pE s b q1 with
  |P (c,a)=>
   have q:Hid (pOp (pE s b) g u=P (c,a)):=by show pb _ _=_;rw[h1,Ai,h2,AG]
   have G:=hid h2;clear h1 h2;go_enter Tryz.func210,Tryz.ntmps210;go_wp2_with (first
    |(go_at_call 124;refine k.out.mono ?_;intro y B e;obtain⟨ac,rfl,f,M,t,H,j,z⟩:=e.isOk x.out;obtain⟨ao,ap,rfl⟩:=j.dd;have h:=hid f;have p:=hid (L B q1 (O.out.ef f) t M);clear e f t j z k)
    |(go_at_call 124;refine p.out.mono ?_;intro y ar e;obtain⟨an,rfl,i,ak⟩:=e.cQ G.out;have E:=hid (h.out.trans i);clear e i p;rcases ak with rfl|⟨al,am,rfl⟩))
   all_goals
    go_ret2
    exact Bj.bad q.out E.out rfl (Ad7 ⟨_,_,rfl⟩)
  |.ok (r,q2)=>
   have q:Hid (pOp (pE s b) g u=.ok (.op g l r,q2)):=by show pb _ _=_;rw[h1,Ai,h2,Ai]
   have G:=hid h2;clear h1 h2;go_enter Tryz.func210,Tryz.ntmps210;go_wp2_with (first
    |(go_at_call 124;refine k.out.mono ?_;intro y B e;obtain⟨ac,rfl,f,M,t,H,j,z⟩:=e.isOk x.out;obtain⟨ao,ap,rfl⟩:=j.dd;have h:=hid f;have af:=hid j;have U:=hid z;have p:=hid (L B q1 (O.out.ef f) t M);clear e f t j z k)
    |(go_at_call 124;refine p.out.mono ?_;intro y ar e;obtain⟨an,rfl,i,aj,aa,Y,N,ab⟩:=e.isOk G.out;obtain⟨al,am,rfl⟩:=N.dd;have D:=hid i;have E:=hid (h.out.trans i);have ag:=hid N;have ad:=hid ab;have ae:=hid aa;clear e i aa N ab p))
   go_ret2
   refine Bj.ok q.out E.out ⟨aj,ae.out,H++Y,?_,U.out.dM ad.out h.out.size D.out.size⟩;exact⟨_,H,_,Y,rfl,Ch _ _ _ _ af.out D.out.size (U.out.fr D.out ah),ag.out,rfl⟩
theorem Bz(c:(n.alloc nv).grownBy p n9)(b:w<n.heap.size)(d:n9≠some w):p.heap[w]?=n.heap[w]?:=by
 rw[c.block w (by simp;omega) (λa=>d a.symm)];exact Ad3 n nv b
theorem V2.cK(b:V2 n w m q)(a:p.heap[w]?=n.heap[w]?):V2 p w m q:=
 ⟨by rw[Ac1 a];exact b.1,by rw[Ac1 a];exact b.2.1,by rw[Adm a];exact b.2.2.1,by rw[Adm a];exact b.2.2.2⟩
theorem V2.db(a:V2 n w m q)(b:X):V2 (n.setCell ⟨w,1,none⟩ b) w m b:=by
 refine⟨?_,Ac6 _ _ _ a.2.1,?_,?_⟩
 ·rw[Acy _ _ _ _ (Au (by omega))];exact a.1
 ·rw[Ac3];exact a.2.2.1
 ·rw[Ac3];exact a.2.2.2
theorem U8(d:Fr t n p)(e:w∉t):Fr t n (p.setCell ⟨w,v,none⟩ m):=λa b=>by
 rw[Ac4 _ _ _ _ (show a≠w from λc=>e (c▸b))];exact d a b
variable{va:PT}
theorem TE(c:PX w n va)(e:CT v n va.2.2)(b:Below n.heap.size n p):PX w p va:=Ch _ _ _ _ c b.size λa d=>b.block a (e.2 a d).2
structure Jy (e k:Nat) (g:ByteArray) (n:X) (o l:Nat) (j p wr:Q) (a:Nat) (m:X) (d:List PT) (f:Nat) (i:Option Addr) (h:Nat):Prop where
 hq:f<=g.size
 ps:PS wr e k g f n o
 row:Ib (PX (l+1)) wr (a+1) (W i d.length h) d
 c:V2 wr a m (W i d.length h)
 ef:EF e j wr
 len:d.length<=f
 hC:j.heap.size<=a
 R1:∀b,b<a->b≠e->wr.heap[b]?=p.heap[b]?
theorem Jy.push{i l:Nat}{t:ByteArray}{v:X}{w n:Nat}{u w1 wr d k:Q}{h:Nat}{B:X}{a:List PT}{K s:Nat}{z:Option Addr}{y:Nat}{x:PT}{r:Obj}(c:Jy i l t v w n u w1 wr h B a K z y)(ae:i<u.heap.size)(af:l<u.heap.size)(ac:K+1<=s/\s<=t.size)(f:EF i wr d)(O:PS d i l t s v w)(ad:PX (n+1) d x)(q:CT wr.heap.size d x.2.2)(j:(d.alloc r).grownBy k (W z a.length y).ownBlock){g m:Nat}(U:(W z a.length y).ownBlock=some g\/g=(d.alloc r).heap.size)(Y:g<k.heap.size)(ab:k.ownsRow 0 117 1 (W (some ⟨g,0,none⟩) (a.length+1) m) (a.length+1) (a.flatMap S0++[x.1])):
 Jy i l t v w n u w1 (k.setCell ⟨h,1,none⟩ (W (some ⟨g,0,none⟩) (a.length+1) m)) h B (a++[x]) s (some ⟨g,0,none⟩) m:=by
 have G:(a++[x]).length=a.length+1:=by simp
 have ah:=λb e=>(c.row.rg b (Acw _ (Ah.2 e))).1;have N:=Ac2 c.c.lt f.size;have D:=c.hC;have ag:=c.len;have I:Ib (PX (n+1)) k (h+1) (W (some ⟨g,0,none⟩) (a.length+1) m) (a++[x]):=by
  have e:Below d.heap.size d (d.alloc r):=bA;refine c.row.push (Ch _) (by have:=c.c.lt;omega) (λb p=>?_) (Ac5 f.size e.size) (TE ad q e) (λb p=>⟨(q.2 b p).1,Ac2 (q.2 b p).2 e.size⟩) q.1 j rfl U Y ab;have o:=c.row.rg b p;rw[Ad3 d r (Ac2 o.2 f.size)];exact f.block b o.2 (by omega)
 refine⟨ac.2,?_,?_,?_,?_,by omega,D,λb e H=>?_⟩
 ·refine(O.push (λb e=>⟨by grind,by grind⟩) j).dc (by omega) (by omega)
 ·rw[G];refine I.fr (Ch _) (by simp) (U8 (Fr.refl _ _) λaa=>?_);have:=(I.rg h aa).1;omega
 ·rw[G];have o:=c.c.ef f (by omega);have M:=o.cK (Bz j N (λL=>by grind));exact M.db _
 ·exact EJ (Mi (c.ef.trans f) (λb e=>by grind) j) D
 ·have E:=Nat.lt_trans e c.c.lt;rw[Ac4 _ _ _ _ (show b≠h by omega),Bz j (Ac2 E f.size) (λL=>by grind),f.block b E H];exact c.R1 b e H
theorem Tryz.ee:(Acs.info? 117).map (λa=>(a.zero,a.size,a.bytes))=some (some .nilIface,1,16):=by kernel_rfl
def Cx(b:Q)(a:Addr):Nat:=match b.cell? a with|some v=>IG v|none=>0
theorem BJ(a:V2 n w m q):Cx n ⟨w,1,none⟩=IG q:=by unfold Cx;rw[a.2.1]
def FR(a:ByteArray)(b:Nat->Pr Ex)(g:Ex)(i:List Ex)(f:Nat):Pr Ex:=match i with
 |[]=>pb (b f) λe h=>pb (BS a b (a.size+1) [g,e] h) λc d=>.ok (.call c,d)
 |e::r=>pb (BS a b (a.size+1-r.length) (g::e::r) f) λc d=>.ok (.call c,d)
theorem Sx(d:wh≠[])(c:wh.length<=s.size+1)(b:Ag s w=Ae):FR s nw N wh w=.ok (.call (N::wh),Bi s w):=by
 match wh,d with
 |y::r,_=>
  simp at c;unfold FR;simp only;rw[show s.size+1-r.length=(s.size-r.length)+1 by omega,BS];rw[show(if Ag s w=Ae then (Except.ok (N::y::r,Bi s w)) else pb (nw w) λa e=>BS s nw (s.size-r.length) ((N::y::r)++[a]) e)=.ok (N::y::r,Bi s w) from if_pos b,Ai]
theorem Ut(f:wh.length<=s.size)(g:wh=[]\/¬Ag s w=Ae):FR s nw N wh w=pb (nw w) λd c=>FR s nw N (wh++[d]) c:=by
 match wh with
 |[]=>rfl
 |z::r=>
  have e:¬Ag s w=Ae:=by
   grind
  simp at f;unfold FR;simp only;rw[show s.size+1-r.length=(s.size-r.length)+1 by omega,BS];rw[show(if Ag s w=Ae then (Except.ok (N::z::r,Bi s w)) else pb (nw w) λa b=>BS s nw (s.size-r.length) ((N::z::r)++[a]) b)=pb (nw w) λa b=>BS s nw (s.size-r.length) ((N::z::r)++[a]) b from if_neg e];match nw w with
  |P a=>rfl
  |.ok (d,c)=>
   simp only[Ai,Ae2,Adk,Aea,Ae5];simp
theorem Ks(c:ByteArray)(a:Nat->Pr Ex)(b:Nat):Dc c a b=pb (a b) λe d=>FR c a e [] d:=rfl
theorem Xv(b6:s.size<=2000)(aL:C6 n w v o s m b d):Jg 214 n w v o s m b d (Dc s (pE s b)) #[]:=by
 intro a2 t aB I bl;have a3:=hid (aL a2 t aB I bl);have bb:=hid aB;have aM:=I.lt;have aO:=I.el;obtain⟨aW,aS,aT⟩:=Adb.1 Tryz.ee;simp only[Aeb]at aT;obtain⟨aP,aQ,aR⟩:=aT;have bx:=Fy;clear aB I;show Adg _ _ #[J (some ⟨w,0,none⟩)] _ _;match M:pE s b t with
 |P (c,a)=>
  have K:Hid (Dc s (pE s b) t=P (c,a)):=by show _=_;rw[Ks,M,AG]
  have a6:=hid M;clear M;go_enter Tryz.func214,Tryz.ntmps214;go_wp2_with (first
   |(go_at_call 124;refine a3.out.mono ?_;intro j u g;obtain⟨ao,rfl,ag,-⟩:=g.cQ a6.out;have ab:=hid ag;clear g ag))
  go_ret2
  exact Bj.bad K.out ab.out rfl (Ads rfl)
 |.ok (x,q1)=>
  have a6:=hid M;have K:Hid (Dc s (pE s b) t=FR s (pE s b) x [] q1):=by show _=_;rw[Ks,M,Ai]
  clear M;go_enter Tryz.func214,Tryz.ntmps214;go_wp2_with (first
   |(go_at_call 124;refine a3.out.mono ?_;intro j u g;obtain⟨ao,rfl,ag,bm,aN,az,aE,aU⟩:=g.isOk a6.out;obtain⟨ar,au,rfl⟩:=aE.dd;have ab:=hid ag;have aJ:=hid aE;have a4:=hid aU;have aI:=hid aN;clear g ag aN aE aU a3))
  obtain⟨z,aK⟩:∃z,u.heap.size=z:=⟨_,rfl⟩;have aG:Hid (Jy w v s m d b a2 u (u.alloc (.cells #[Z ar au,W none 0 0] 277)) z (Z ar au) [] q1 none 0):=by
   have l:Below u.heap.size u (u.alloc (.cells #[Z ar au,W none 0 0] 277)):=bA;subst aK;exact⟨bm,aI.out.below l,AZ.nil _ _,⟨by simp,by simp,by simp,by simp⟩,ab.out.trans (EF.cI l),Ac0 _,ab.out.size,λi bi _=>Ad3 _ _ bi⟩
  have be:Hid (∀wr,u.heap.size<=wr.heap.size->(∀i,i<z->i≠w->wr.heap[i]?=u.heap[i]?)->PX (b+1) wr (Z ar au,x,az)):=by
   intro wr bo bj;refine Ch _ _ _ _ aJ.out bo λi l=>?_;have:=a4.out.2 i l;exact bj i (by omega) (by omega)
  have bf:Hid (CT a2.heap.size u az):=a4.out;rw[aK];clear aI aJ a4;go_loopw [] (λwr=>∃(f:List PT) (p:Nat) (aq:Option Addr) (ap:Nat),Hid (Dc s (pE s b) t=FR s (pE s b) x (f.map (λx:PT=>x.2.1)) p)/\Hid (Jy w v s m d b a2 u wr z (Z ar au) f p aq ap)) (λwr=>s.size+1-Cx wr ⟨z,1,none⟩)
  case atStart=>exact⟨[],q1,none,0,K.out,aG.out⟩
  case round=>
   clear aG K;obtain⟨f,p,aq,ap,K,e⟩:=hrel;rename Q=>wr
   have aa:=e.out.hq;have b5:=e.out.len;obtain⟨bz,b0,b1,b2⟩:=id e.out.c;have bc:=hid (bb.out.ef e.out.ef);have aH:Hid ((f.map (λx:PT=>x.2.1)).length=f.length):=Adf ..;by_cases D:f≠[]/\Ag s p=Ae
   ·have ae:Hid (Dc s (pE s b) t=.ok (.call (x::f.map (λx:PT=>x.2.1)),Bi s p)):=by
     show _=_;rw[K.out,Sx (by intro j;exact D.1 (Aa4.1 j)) (by rw[aH.out];omega) D.2]
    have bg:=FC CK D.2;have b4:0<f.length:=Ae7.2 D.1;have ba:((f.length:Int)==0)=false:=by rw[beq_eq_false_iff_ne];omega
    have ay:=hid (A1 e.out.ps aa);clear D;go_wp2_with (first
     |(go_at_call 57;refine ay.out.mono ?_;rintro j av ⟨rfl,B⟩;have Y:=hid B;obtain⟨k0,aX,aY,aZ⟩:=e.out.c.cJ B;clear B))
    go_ret2
    have a1:=e.out.row.cJ (Ch _) Y.out;refine Bj.ok ae.out (e.out.ef.trans (EF.cI Y.out)) ⟨A8 aa,(e.out.ps.below Y.out).Bi (Ga s p),az++AJ MP (W aq f.length ap) f,?_,?_⟩
    ·refine⟨x,_,_,az,_,f,rfl,rfl,?_,a1.low (Ac0 _),rfl,rfl⟩;refine be.out _ (Ac5 (by have:=e.out.c.lt;omega) Y.out.size) λi l bk=>?_;rw[Y.out.block i (by have:=e.out.c.lt;omega)];exact e.out.R1 i l bk
    ·refine bf.out.dM ⟨a1.nd,λi l=>⟨?_,(a1.rg i l).2⟩⟩ ab.out.size ?_
     ·have:=(a1.rg i l).1;omega
     ·have M:=e.out.c.lt;have b3:=Y.out.size;omega
   ·have ax:Hid (Dc s (pE s b) t=pb (pE s b p) λy bu=>FR s (pE s b) x (f.map (λx:PT=>x.2.1)++[y]) bu):=by
     show _=_;rw[K.out,Ut (by rw[aH.out];omega)];by_cases aV:f=[]
     ·exact Ads (by rw[aV];rfl)
     ·exact Ad7 λI=>D ⟨aV,I⟩
    have aw:=hid (λav (l:Below wr.heap.size wr av)=>aL av p (bc.out.ef (EF.cI l)) (e.out.ps.below l) aa);have aC:w<z:=by have:=e.out.hC;omega
    have a0:z≠w:=Aej aC;by_cases an:f=[]
    ·have ba:((f.length:Int)==0)=true:=by rw[an];rfl
     have k:=hid (Acv wr.heap.size wr);clear D an;match hy:pE s b p with
     |P (c,a)=>
      have ae:Hid (Dc s (pE s b) t=P (c,a)):=by show _=_;rw[ax.out,hy,AG]
      have L:=hid hy;clear hy;go_wp2_with (first
       |(go_at_call 124;refine(aw.out _ k.out).mono ?_;intro j U g;obtain⟨ao,rfl,q,-⟩:=g.cQ L.out;have h:=hid ((EF.cI (E:=w) k.out).trans q);clear g q))
      go_ret2
      exact Bj.bad ae.out (e.out.ef.trans h.out) rfl (Ads rfl)
     |.ok (y,r)=>
      have a8:Hid (Dc s (pE s b) t=FR s (pE s b) x (f.map (λx:PT=>x.2.1)++[y]) r):=by show _=_;rw[ax.out,hy,Ai]
      have aD:=Dq s b p aa y r hy;have L:=hid hy;clear hy;go_wp2_with (first
       |(go_at_call 124;refine(aw.out _ k.out).mono ?_;intro j U g;obtain⟨ao,rfl,q,bn,ah,af,O,ak⟩:=g.isOk L.out;obtain⟨G,H,rfl⟩:=O.dd;have h:=hid ((EF.cI (E:=w) k.out).trans q);have a7:=hid ah;have a9:=hid O;have a5:=hid (ak.low k.out.size);obtain⟨k0,aX,aY,aZ⟩:=e.out.c.ef h.out a0;have ad:=hid (e.out.row.ef (Ch _) h.out (Aa8 aC));clear g q ah O ak)
       |(at_builtin;refine Adl _ rfl (.tmp 38) (.tmp 40) 231 rfl 0 117 aW _ 1 16 Tryz.underlying231 aS aP aQ aR rfl (by omega) (W aq f.length ap) f.length (f.flatMap S0) rfl (ad.out.own.alloc _) ⟨U.heap.size,0,none⟩ 1 1 [Z G H] rfl rfl (by simpa using Adu (Adp U (Adi #[Z G H] 117))) (by intro bv am;simp at am;subst am;rfl) (by omega) (by unfold Aed;omega) (by omega) (Ac0 _) _ rfl ?_;intro bh bp bw al N ai aj;have ac:=hid (e.out.push (x:=(Z G H,y,af)) aM aO aD h.out a7.out a9.out a5.out N ai aj al);obtain⟨bq,br,bs,bt⟩:=(e.out.c.ef h.out a0).cK (Bz N (Ac2 e.out.c.lt h.out.size) (λj=>by have:=(ad.out.rg z (Acw _ (Ah.2 j))).1;omega));clear al N ai aj))
      refine⟨⟨f++[(Z G H,y,af)],r,_,_,by show _=_;rw[a8.out,Adq];rfl,ac⟩,?_⟩;rw[BJ ac.out.c,BJ e.out.c];simp[IG];omega
    ·have ba:((f.length:Int)==0)=false:=by
      rw[beq_eq_false_iff_ne];have:=Ae7.2 an;omega
     have bg:=Fz CK (λI=>D ⟨an,I⟩);have ay:=hid (A1 e.out.ps aa);clear D an;match hy:pE s b p with
     |P (c,a)=>
      have ae:Hid (Dc s (pE s b) t=P (c,a)):=by show _=_;rw[ax.out,hy,AG]
      have L:=hid hy;clear hy;go_wp2_with (first
       |(go_at_call 57;refine ay.out.mono ?_;rintro j av ⟨rfl,B⟩;have k:=hid B;clear B)
       |(go_at_call 124;refine(aw.out _ k.out).mono ?_;intro j U g;obtain⟨ao,rfl,q,-⟩:=g.cQ L.out;have h:=hid ((EF.cI (E:=w) k.out).trans q);clear g q))
      go_ret2
      exact Bj.bad ae.out (e.out.ef.trans h.out) rfl (Ads rfl)
     |.ok (y,r)=>
      have a8:Hid (Dc s (pE s b) t=FR s (pE s b) x (f.map (λx:PT=>x.2.1)++[y]) r):=by show _=_;rw[ax.out,hy,Ai]
      have aD:=Dq s b p aa y r hy;have L:=hid hy;clear hy;go_wp2_with (first
       |(go_at_call 57;refine ay.out.mono ?_;rintro j av ⟨rfl,B⟩;have k:=hid B;clear B)
       |(go_at_call 124;refine(aw.out _ k.out).mono ?_;intro j U g;obtain⟨ao,rfl,q,bn,ah,af,O,ak⟩:=g.isOk L.out;obtain⟨G,H,rfl⟩:=O.dd;have h:=hid ((EF.cI (E:=w) k.out).trans q);have a7:=hid ah;have a9:=hid O;have a5:=hid (ak.low k.out.size);obtain⟨k0,aX,aY,aZ⟩:=e.out.c.ef h.out a0;have ad:=hid (e.out.row.ef (Ch _) h.out (Aa8 aC));clear g q ah O ak)
       |(at_builtin;refine Adl _ rfl (.tmp 38) (.tmp 40) 231 rfl 0 117 aW _ 1 16 Tryz.underlying231 aS aP aQ aR rfl (by omega) (W aq f.length ap) f.length (f.flatMap S0) rfl (ad.out.own.alloc _) ⟨U.heap.size,0,none⟩ 1 1 [Z G H] rfl rfl (by simpa using Adu (Adp U (Adi #[Z G H] 117))) (by intro bv am;simp at am;subst am;rfl) (by omega) (by unfold Aed;omega) (by omega) (Ac0 _) _ rfl ?_;intro bh bp bw al N ai aj;have ac:=hid (e.out.push (x:=(Z G H,y,af)) aM aO aD h.out a7.out a9.out a5.out N ai aj al);obtain⟨bq,br,bs,bt⟩:=(e.out.c.ef h.out a0).cK (Bz N (Ac2 e.out.c.lt h.out.size) (λj=>by have:=(ad.out.rg z (Acw _ (Ah.2 j))).1;omega));clear al N ai aj))
      refine⟨⟨f++[(Z G H,y,af)],r,_,_,by show _=_;rw[a8.out,Adq];rfl,ac⟩,?_⟩;rw[BJ ac.out.c,BJ e.out.c];simp[IG];omega
def FT(a:ByteArray)(c:Nat->Pr Ex)(g:Nat)(b:List Ex)(e:Nat):Pr Ex:=pb (A2 a c (a.size+1-b.length) b e) λd f=>.ok (.Fs g d,f)
theorem SC(b:wh.length<=s.size)(a:Ag s v=Ae):FT s nw w wh v=.ok (.Fs w wh,Bi s v):=by
 unfold FT;rw[show s.size+1-wh.length=(s.size-wh.length)+1 by omega,A2,if_pos a,Ai]
theorem P8(c:wh.length<=s.size)(a:¬Ag s v=Ae)(b:wh.length=20):FT s nw w wh v=P (3,Am s v):=by
 unfold FT;rw[show s.size+1-wh.length=(s.size-wh.length)+1 by omega,A2,if_neg a,if_pos b,AG]
theorem TG(f:wh.length<=s.size)(c:¬Ag s v=Ae)(d:¬wh.length=20):FT s nw w wh v=pb (nw v) λb a=>FT s nw w (wh++[b]) a:=by
 unfold FT;rw[show s.size+1-wh.length=(s.size-wh.length)+1 by omega,A2,if_neg c,if_neg d];match nw v with
 |P e=>rfl
 |.ok (b,a)=>
  simp only[Ai,Adk,Aea,Ae5];simp
theorem Zo(bb:s.size<=2000)(aQ:C6 n w v o s m b d):Jg 212 n w v o s m b d (E5 s (pE s b)) #[]:=by
 intro ah k am aa aY;have ai:Hid (Adg Acs 122 #[J (some ⟨w,0,none⟩),V C 255] ah λi ap=>EG (Bt s 255 k) w ah o (V C 0) (λx h ae ap=>ae=V C (x.1:Int)/\h<=s.size/\PS ap w v s h m d) i ap):=Cv 255 bb am aa aY;have aJ:=hid am;have aR:=aa.lt;have aS:=aa.el;obtain⟨bc,aX,a9⟩:=Adb.1 Tryz.ee;simp only[Aeb]at a9;obtain⟨aU,aV,aW⟩:=a9;have bk:=Fy;clear am aa;show Adg _ _ #[J (some ⟨w,0,none⟩)] _ _;match D:Bt s 255 k with
 |P (c,a)=>
  have q:Hid (E5 s (pE s b) k=P (c,a)):=by show pb _ _=_;rw[D,AG]
  have aj:=hid D;clear D;go_enter Tryz.func212,Tryz.ntmps212;go_wp2_with (first
   |(go_at_call 122;refine ai.out.mono ?_;intro i y j;obtain⟨rfl,M⟩:=j.cQ aj.out;have U:=hid M;clear j M))
  go_ret2
  exact Bj.bad q.out U.out rfl (Ads rfl)
 |.ok ((l,tpl),q1)=>
  have aj:=hid D;have q:Hid (E5 s (pE s b) k=FT s (pE s b) l [] q1):=by show pb _ _=_;rw[D,Ai];rfl
  clear D;go_enter Tryz.func212,Tryz.ntmps212;go_wp2_with (first
   |(go_at_call 122;refine ai.out.mono ?_;intro i y j;obtain⟨ae,rfl,M,rfl,aZ,a5⟩:=j.isOk aj.out;have U:=hid M;have az:=hid a5;clear j M a5 ai))
  obtain⟨p,a2⟩:∃p,y.heap.size=p:=⟨_,rfl⟩;have au:Hid (Jy w v s m d b ah y (y.alloc (.cells #[V C (l:Int),W none 0 0] 304)) p (V C (l:Int)) [] q1 none 0):=by
   have t:Below y.heap.size y (y.alloc (.cells #[V C (l:Int),W none 0 0] 304)):=bA;subst a2;exact⟨aZ,az.out.below t,AZ.nil _ _,⟨by simp,by simp,by simp,by simp⟩,U.out.trans (EF.cI t),Ac0 _,U.out.size,λal aT _=>Ad3 _ _ aT⟩
  rw[a2];clear az;go_loopw [] (λwr=>∃(f:List PT) (h:Nat) (ag:Option Addr) (af:Nat),Hid (E5 s (pE s b) k=FT s (pE s b) l (f.map (λx:PT=>x.2.1)) h)/\Hid (Jy w v s m d b ah y wr p (V C (l:Int)) f h ag af)) (λwr=>s.size+1-Cx wr ⟨p,1,none⟩)
  case atStart=>exact⟨[],q1,none,0,q.out,au.out⟩
  case round=>
   clear au q;obtain⟨f,h,ag,af,q,e⟩:=hrel;rename Q=>wr
   have O:=e.out.hq;have bs:=e.out.len;obtain⟨bl,bm,bn,bo⟩:=id e.out.c;have ar:=hid (aJ.out.ef e.out.ef);have K:Hid ((f.map (λx:PT=>x.2.1)).length=f.length):=Adf ..;have Y:=hid (A1 e.out.ps O);have a4:w<p:=by have:=e.out.hC;omega
   have a3:p≠w:=Aej a4;by_cases u:Ag s h=Ae
   ·have L:Hid (E5 s (pE s b) k=.ok (.Fs l (f.map (λx:PT=>x.2.1)),Bi s h)):=by
     show _=_;rw[q.out,SC (by rw[K.out];omega) u]
    have aP:=FC CK u;clear u;go_wp2_with (first
     |(go_at_call 57;refine Y.out.mono ?_;rintro i H ⟨rfl,g⟩;have z:=hid g;obtain⟨k0,aG,aH,aI⟩:=e.out.c.cJ g;clear g))
    go_ret2
    have ab:=e.out.row.cJ (Ch _) z.out;refine Bj.ok L.out (e.out.ef.trans (EF.cI z.out)) ⟨A8 O,(e.out.ps.below z.out).Bi (Ga s h),AJ MP (W ag f.length af) f,?_,?_⟩
    ·exact⟨_,f,rfl,ab.low (Ac0 _),rfl,rfl⟩
    ·refine⟨ab.nd,λal t=>⟨?_,(ab.rg al t).2⟩⟩;have D:=(ab.rg al t).1;have br:=e.out.hC;omega
   ·have aP:=Fz CK u;by_cases a1:f.length=20
    ·have L:Hid (E5 s (pE s b) k=P (3,Am s h)):=by
      show _=_;rw[q.out,P8 (by rw[K.out];omega) u (by rw[K.out];exact a1)]
     have be:((f.length:Int)==20)=true:=by rw[beq_iff_eq];omega
     clear u;go_wp2_with (first
      |(go_at_call 57;refine Y.out.mono ?_;rintro i H ⟨rfl,g⟩;have z:=hid g;obtain⟨k0,aG,aH,aI⟩:=e.out.c.cJ g;have bp:=(ar.out.ef (EF.cI g)).sy.dp;clear g)
      |(go_at_call 91;refine(CU o 13 (e.out.ps.below z.out) O).mono ?_;rintro i b1 ⟨rfl,a8⟩;have aK:=hid (z.out.trans (a8.mono z.out.size));clear a8))
     go_ret2
     exact Bj.bad L.out (e.out.ef.trans (EF.cI aK.out)) rfl (Ads rfl)
    ·have aw:Hid (E5 s (pE s b) k=pb (pE s b h) λI bj=>FT s (pE s b) l (f.map (λx:PT=>x.2.1)++[I]) bj):=by
      show _=_;rw[q.out,TG (by rw[K.out];omega) u (by rw[K.out];exact a1)]
     have be:((f.length:Int)==20)=false:=by rw[beq_eq_false_iff_ne];omega
     have av:=hid (λH (t:Below wr.heap.size wr H)=>aQ H h (ar.out.ef (EF.cI t)) (e.out.ps.below t) O);clear u;match hy:pE s b h with
     |P (c,a)=>
      have L:Hid (E5 s (pE s b) k=P (c,a)):=by show _=_;rw[aw.out,hy,AG]
      have ak:=hid hy;clear hy;go_wp2_with (first
       |(go_at_call 57;refine Y.out.mono ?_;rintro i H ⟨rfl,g⟩;have G:=hid g;obtain⟨bf,bg,bh,bi⟩:=e.out.c.cJ g;clear g)
       |(go_at_call 124;refine(av.out _ G.out).mono ?_;intro i aq j;obtain⟨ae,rfl,N,-⟩:=j.cQ ak.out;have B:=hid ((EF.cI (E:=w) G.out).trans N);clear j N))
      go_ret2
      exact Bj.bad L.out (e.out.ef.trans B.out) rfl (Ads rfl)
     |.ok (I,r)=>
      have aN:Hid (E5 s (pE s b) k=FT s (pE s b) l (f.map (λx:PT=>x.2.1)++[I]) r):=by show _=_;rw[aw.out,hy,Ai]
      have ba:=Dq s b h O I r hy;have ak:=hid hy;clear hy;go_wp2_with (first
       |(go_at_call 57;refine Y.out.mono ?_;rintro i H ⟨rfl,g⟩;have G:=hid g;obtain⟨bf,bg,bh,bi⟩:=e.out.c.cJ g;clear g)
       |(go_at_call 124;refine(av.out _ G.out).mono ?_;intro i aq j;obtain⟨ae,rfl,N,bt,a6,a0,ao,aC⟩:=j.isOk ak.out;obtain⟨ac,ad,rfl⟩:=ao.dd;have B:=hid ((EF.cI (E:=w) G.out).trans N);have aM:=hid a6;have aO:=hid ao;have aL:=hid (aC.low G.out.size);obtain⟨k0,aG,aH,aI⟩:=e.out.c.ef B.out a3;have ay:=hid (e.out.row.ef (Ch _) B.out (Aa8 a4));clear j N a6 ao aC)
       |(at_builtin;refine Adl _ rfl (.tmp 39) (.tmp 41) 231 rfl 0 117 bc _ 1 16 Tryz.underlying231 aX aU aV aW rfl (by omega) (W ag f.length af) f.length (f.flatMap S0) rfl (ay.out.own.alloc _) ⟨aq.heap.size,0,none⟩ 1 1 [Z ac ad] rfl rfl (by simpa using Adu (Adp aq (Adi #[Z ac ad] 117))) (by intro b0 aE;simp at aE;subst aE;rfl) (by omega) (by unfold Aed;omega) (by omega) (Ac0 _) _ rfl ?_;intro bq bu b2 aD an a7 aB;have ax:=hid (e.out.push (x:=(Z ac ad,I,a0)) aR aS ba B.out aM.out aO.out aL.out an a7 aB aD);obtain⟨bv,bw,bx,bz⟩:=(e.out.c.ef B.out a3).cK (Bz an (Ac2 e.out.c.lt B.out.size) (λi=>by have:=(ay.out.rg p (Acw _ (Ah.2 i))).1;omega));clear aD an a7 aB))
      refine⟨⟨f++[(Z ac ad,I,a0)],r,_,_,by show _=_;rw[aN.out,Adq];rfl,ax⟩,?_⟩;rw[BJ ax.out.c,BJ e.out.c];simp[IG];omega
structure V4 (b:Q) (a:Nat) (c d e g:X):Prop where
 c0:b.cell? ⟨a,0,none⟩=some c
 c1:b.cell? ⟨a,1,none⟩=some d
 c2:b.cell? ⟨a,2,none⟩=some e
 c3:b.cell? ⟨a,3,none⟩=some g
 f:∀j,b.frozen? ⟨a,j,none⟩=false
theorem V4.lt(a:V4 n w m q j f):w<n.heap.size:=Adt a.c0
theorem V4.cK{g:X}(b:V4 n w m q j g)(e:p.heap[w]?=n.heap[w]?):V4 p w m q j g:=by
 have c:=λd=>Ac1 (a:=⟨w,d,none⟩) e;exact⟨by rw[c];exact b.c0,by rw[c];exact b.c1,by rw[c];exact b.c2,by rw[c];exact b.c3,λd=>by rw[Adm e];exact b.f d⟩
theorem V4.ef{w:Q}{b a:Nat}(c:V4 w b m q j f)(d:EF a w n)(e:b≠a):V4 n b m q j f:=c.cK (d.block b c.lt e)
theorem V4.cJ{w:Q}{a:Nat}(b:V4 w a m q j f)(c:Below w.heap.size w n):V4 n a m q j f:=b.cK (c.block a b.lt)
theorem V4.db{e:X}(b:V4 n w m q j e)(d:X):V4 (n.setCell ⟨w,1,none⟩ d) w m d j e:=by
 have c:∀a,a≠1->(n.setCell ⟨w,1,none⟩ d).cell? ⟨w,a,none⟩=n.cell? ⟨w,a,none⟩:=λa g=>Acy _ _ _ _ (Au (Aa7 g));exact⟨by rw[c _ (by omega)];exact b.c0,Ac6 _ _ _ b.c1,by rw[c _ (by omega)];exact b.c2,by rw[c _ (by omega)];exact b.c3,λa=>by rw[Ac3];exact b.f a⟩
theorem V4.dJ{e:X}(b:V4 n w m q j e)(d:X):V4 (n.setCell ⟨w,2,none⟩ d) w m q d e:=by
 have c:∀a,a≠2->(n.setCell ⟨w,2,none⟩ d).cell? ⟨w,a,none⟩=n.cell? ⟨w,a,none⟩:=λa g=>Acy _ _ _ _ (Au (Aa7 g));exact⟨by rw[c _ (by omega)];exact b.c0,by rw[c _ (by omega)];exact b.c1,Ac6 _ _ _ b.c2,by rw[c _ (by omega)];exact b.c3,λa=>by rw[Ac3];exact b.f a⟩
theorem V4.HN{g:X}(b:V4 n w m q j g)(d:X):V4 (n.setCell ⟨w,3,none⟩ d) w m q j d:=by
 have c:∀a,a≠3->(n.setCell ⟨w,3,none⟩ d).cell? ⟨w,a,none⟩=n.cell? ⟨w,a,none⟩:=λa e=>Acy _ _ _ _ (Au (Aa7 e));exact⟨by rw[c _ (by omega)];exact b.c0,by rw[c _ (by omega)];exact b.c1,by rw[c _ (by omega)];exact b.c2,Ac6 _ _ _ b.c3,λa=>by rw[Ac3];exact b.f a⟩
def E4(a:ByteArray)(b:Nat->Pr Ex)(d:Av)(e:Nat):Pr ((ByteArray×Nat)×Ex):=pb (Al a Ax e) λ_ f=>pb (Cq a (d.map (·.1)) f) λj g=>pb (b g) λc h=>pb (Al a Ae h) λ_ i=>.ok ((j,c),i)
structure Bm (h l:Nat) (j:ByteArray) (o:X) (p m:Nat) (k wr:Q) (a:Nat) (q:Bool) (i:Av) (c:List PT) (g:Nat) (f d:X):Prop where
 hq:g<=j.size
 ps:PS wr h l j g o p
 v:V4 wr a (A q) f d .nilIface
 n:Cu wr (a+1) f i
 e:Ib (PX (m+1)) wr (a+1) d c
 nd:∀b,b∈vB f->b∉AJ MP d c
 ef:EF h k wr
 hL:k.heap.size<=a
 len:c.length<=g
 same:i.length=c.length
theorem nsB(b:Cu n w m l):∀a∈vB m,w<=a/\a<n.heap.size:=λa c=>b.rg a (Acw _ c)
def Gu(b i:Nat)(t:ByteArray)(n:X)(o l:Nat)(j:Nat->Addr)(f:Q)(g:Nat)(s:Bool)(p:Av)(v:List PT)(h:Pr ((ByteArray×Nat)×Ex))(d:Ending)(e:Q):Prop:=EF b f e/\match h with
 |P (c,a)=>d=F (Ll j (Dm c) a)
 |.ok ((x,y),q)=>d=F .nilIface/\∃u k r m,Bm b i t n o l f e g s (p++[x]) (v++[(u,y,k)]) q r m
theorem Bm.below{d f:Nat}{p:ByteArray}{i:X}{j g:Nat}{r wr q:Q}{c:Nat}{o:Bool}{k:Av}{s:List PT}{m:Nat}{l h:X}(a:Bm d f p i j g r wr c o k s m l h)(b:Below wr.heap.size wr q):Bm d f p i j g r q c o k s m l h:=
 ⟨a.hq,a.ps.below b,a.v.cJ b,a.n.cJ II b,a.e.cJ (Ch _) b,a.nd,a.ef.trans (EF.cI b),a.hL,a.len,a.same⟩
structure RY (j k:Nat) (a c:Q) (g:Nat) (f:X) (e:Av) (i:ByteArray×Nat) (d h:Nat):Prop where
 os:c.os=a.os
 tape:c.tape=a.tape
 output:c.output=a.output
 size:a.heap.size<=c.heap.size
 block:∀b,b<a.heap.size->f.ownBlock≠some b->c.heap[b]?=a.heap[b]?
 n:Cu c (g+1) (W (some ⟨d,0,none⟩) (e.length+1) h) (e++[i])
 at_:f.ownBlock=some d\/a.heap.size<=d
variable{wu:List PT}
theorem Bm.first{o:Nat}{t:Q}(i:Bm w o s m b d t p x w2 l wu K q j)(G:w<t.heap.size)(k:EF w p h)(a:Below h.heap.size h w0)(g:w0.grownBy vm q.ownBlock)(r:q.ownBlock=some wi\/wi=w0.heap.size)(y:wi<vm.heap.size)(B:vm.ownsRow 0 115 2 (W (some ⟨wi,0,none⟩) (l.length+1) w5) (l.length+1) (l.flatMap wC++[S nh.1,V C (nh.2:Int)])):RY w o h vm x q l nh wi w5:=by
 have D:=i.hL;have E:=i.v.lt;refine⟨g.os.trans a.os,g.tape.trans a.tape,g.output.trans a.output,Ac5 a.size g.size,λc f z=>?_,?_,?_⟩
 ·rw[g.block c (Ac2 f a.size) (λu=>z u.symm)];exact a.block c f
 ·refine i.n.push II (by omega) (λc f=>?_) (Ac5 k.size a.size) trivial (λc f=>by cases f) Ag6 g rfl r y B;have e:=i.n.rg c f;rw[a.block c (Ac2 e.2 k.size)];exact k.block c e.2 (by omega)
 ·rcases r with e|e
  ·exact Ads e
  ·exact Ad7 (by rw[e];exact a.size)
theorem Bm.fI(c:Bm w v s m b d n p x w2 l wu K q j)(r:w<n.heap.size)(e:EF w p h)(i:RY w v h w0 x q l nh wi w5):Ib (PX (d+1)) w0 (x+1) j wu:=by
 refine c.e.fr (Ch _) (Ac5 e.size i.size) λa g=>?_;have f:=c.e.rg a g;have o:=c.hL;rw[i.block a (Ac2 f.2 e.size) (λk=>c.nd a (Ah.2 k) g)];exact e.block a f.2 (by omega)
theorem Bm.v4{c:Nat}{f:Q}(a:Bm w c s m b d f p x w2 l wu K q j)(o:w<f.heap.size)(e:EF w p h)(i:RY w c h w0 x q l nh wi w5):V4 w0 x (A w2) q j .nilIface:=by
 have k:=a.hL;refine(a.v.ef e (by omega)).cK (i.block x (Ac2 a.v.lt e.size) λg=>?_);have:=(a.n.rg x (Acw _ (Ah.2 g))).1;omega
theorem Bm.v5(c:Bm w v s m b d n p x w2 l wu K q j)(i:w<n.heap.size)(g:EF w p h)(o:RY w v h w0 x q l nh wi w5)(e:Below w0.heap.size w0 vm)(k:vm.grownBy v7 j.ownBlock):V4 v7 x (A w2) q j .nilIface:=by
 have a:=c.v4 i g o;refine a.cK ?_;rw[k.block x (Ac2 a.lt e.size) (λf=>by have:=(c.e.rg x (Acw _ (Ah.2 f.symm))).1;omega)];exact e.block x a.lt
theorem Bm.fm{aa:Q}{D:X}(g:Bm w v s m b d aa p x w2 l wu K q j)(a7:w<aa.heap.size)(a8:v<aa.heap.size)(y:EF w p h)(r:RY w v h w0 x q l nh w5 vd)(z:Below w0.heap.size w0 vm)(M:PS h w v s wi m b)(a0:K+1<=wi/\wi<=s.size)(a1:PX (d+1) h (D,N,t))(E:CT p.heap.size h t)(B:vm.grownBy v7 j.ownBlock)(af:j.ownBlock=some vx\/vx=vm.heap.size)(aw:vx<v7.heap.size)(az:v7.ownsRow 0 117 1 (W (some ⟨vx,0,none⟩) (wu.length+1) n3) (wu.length+1) (wu.flatMap S0++[D])):
 Bm w v s m b d aa ((v7.setCell ⟨x,1,none⟩ (W (some ⟨w5,0,none⟩) (l.length+1) vd)).setCell ⟨x,2,none⟩ (W (some ⟨vx,0,none⟩) (wu.length+1) n3)) x w2 (l++[nh]) (wu++[(D,N,t)]) wi (W (some ⟨w5,0,none⟩) (l.length+1) vd) (W (some ⟨vx,0,none⟩) (wu.length+1) n3):=by
 have ap:=g.hL;have a6:=g.v.lt;have av:(l++[nh]).length=l.length+1:=by simp
 have ax:(wu++[(D,N,t)]).length=wu.length+1:=by simp
 have ak:=λc i=>g.n.rg c (Acw _ (Ah.2 i));have aq:=λc i=>g.e.rg c (Acw _ (Ah.2 i));have aB:=y.size;have aC:=r.size;have a9:=z.size;have aD:=B.size;have O:∀c,c<h.heap.size->q.ownBlock≠some c->j.ownBlock≠some c->v7.heap[c]?=h.heap[c]?:=λc k o G=>by
  rw[B.block c (by omega) (λi=>G i.symm),z.block c (by omega)];exact r.block c k o
 have al:∀c,c<h.heap.size->q.ownBlock≠some c->vm.heap[c]?=h.heap[c]?:=λc k o=>by
  rw[z.block c (by omega)];exact r.block c k o
 have u:∀c,c<x+1->q.ownBlock≠some c/\j.ownBlock≠some c:=λc e=>⟨λi=>by grind,λi=>by grind⟩;have a2:=Ch _ _ _ _ a1 (by omega) λc e=>al c (E.2 c e).2 λi=>by
  have k:=ak c i;have o:=(E.2 c e).1;omega
 have ab:Ib (PX (d+1)) v7 (x+1) (W (some ⟨vx,0,none⟩) (wu.length+1) n3) (wu++[(D,N,t)]):=by
  refine g.e.push (Ch _) (by omega) (w1:=vm) (λc e=>?_) (by omega) a2 (λc e=>⟨(E.2 c e).1,by have:=(E.2 c e).2;omega⟩) E.1 B rfl af aw az;have k:=g.e.rg c e;rw[al c (by omega) (λi=>g.nd c (Ah.2 i) e)];exact y.block c k.2 (by omega)
 have ag:j.ownBlock≠some w5:=λi=>by
  rcases r.at_ with k|k
  ·exact g.nd w5 (Ah.2 k) (Acw _ (Ah.2 i))
  ·have:=aq w5 i;omega
 have ar:=(r.n.rg w5 (Acw _ (by rw[An];simp))).2;have ac:Cu v7 (x+1) (W (some ⟨w5,0,none⟩) (l.length+1) vd) (l++[nh]):=by
  refine r.n.fr (by omega) λc e=>?_;rw[An]at e;simp at e;subst e;rw[B.block c (by omega) (λi=>ag i.symm),z.block c ar]
 have ah:=λc e=>(ab.rg c e).1;have I:∀c,c≠x->((v7.setCell ⟨x,1,none⟩ (W (some ⟨w5,0,none⟩) (l.length+1) vd)).setCell ⟨x,2,none⟩ (W (some ⟨vx,0,none⟩) (wu.length+1) n3)).heap[c]?=v7.heap[c]?:=λc e=>by
  rw[Ac4 _ _ _ _ e,Ac4 _ _ _ _ e]
 have U:v7.heap.size<=((v7.setCell ⟨x,1,none⟩ (W (some ⟨w5,0,none⟩) (l.length+1) vd)).setCell ⟨x,2,none⟩ (W (some ⟨vx,0,none⟩) (wu.length+1) n3)).heap.size:=by simp
 refine⟨a0.2,?_,?_,?_,?_,?_,?_,ap,by have:=g.len;omega,by rw[av,ax,g.same]⟩
 ·refine(PS.dc (PS.dc ?_ (by omega) (by omega)) (by omega) (by omega));obtain⟨ad,ao,k0,a3,a4,a5,an⟩:=M.c0;have L:=O w (by omega) (u w (by omega)).1 (u w (by omega)).2;have ae:=O v (by omega) (u v (by omega)).1 (u v (by omega)).2;refine⟨⟨ad,ao,?_,a3,a4,a5,λY ai=>⟨?_,?_⟩⟩,?_,?_,λam au=>?_⟩
  ·rw[Ac1 (a:=⟨w,0,none⟩) L];exact k0
  ·rw[Ac1 (a:=⟨v,ad+Y*2,none⟩) ae];exact(an Y ai).1
  ·rw[Ac1 (a:=⟨v,ad+Y*2+1,none⟩) ae];exact(an Y ai).2
  ·rw[Ac1 (a:=⟨w,1,none⟩) L];exact M.c1
  ·rw[Ac1 (a:=⟨w,2,none⟩) L];exact M.c2
  ·rw[Adm (a:=⟨w,am,none⟩) L];exact M.f am au
 ·have G:=g.v.ef y (by omega);exact((G.cK (O x (by omega) (u x (by omega)).1 (u x (by omega)).2)).db _).dJ _
 ·rw[show(l.length+1)=(l++[nh]).length by omega];rw[show(l.length+1)=(l++[nh]).length by omega]at ac U I;refine ac.fr U λc e=>I c λi=>?_;have:=(ac.rg c (Acw _ e)).1;omega
 ·rw[show(wu.length+1)=(wu++[(D,N,t)]).length by omega];rw[show(wu.length+1)=(wu++[(D,N,t)]).length by omega]at ab U I ah;refine ab.fr (Ch _) U λc e=>I c λi=>?_;have:=ah c e;omega
 ·intro c e ay;rw[An]at e;simp at e;subst e;rcases Acz.1 ay with k|k
  ·rw[An]at k;simp at k;subst k;rcases af with o|o
   ·exact ag o
   ·omega
  ·rw[Ado]at k;rcases Acz.1 k with o|o
   ·have G:=g.e.rg c (Acx _ o);rcases r.at_ with H|H
    ·exact g.nd c (Ah.2 H) (Acx _ o)
    ·omega
   ·simp[MP]at o;have G:=E.2 c o;rcases r.at_ with H|H
    ·have:=ak c H;omega
    ·omega
 ·refine⟨?_,?_,?_,?_,λc e aj=>?_⟩
  ·exact(B.os.trans (z.os.trans r.os)).trans (y.os.trans g.ef.os)
  ·exact(B.tape.trans (z.tape.trans r.tape)).trans (y.tape.trans g.ef.tape)
  ·exact(B.output.trans (z.output.trans r.output)).trans (y.output.trans g.ef.output)
  ·have:=g.ef.size;omega
  ·have k:=g.ef.size;rw[I c (by omega),O c (by omega) (u c (by omega)).1 (u c (by omega)).2,y.block c (by omega) aj];exact g.ef.block c e aj
def B2(c:Q)(b:Nat)(d:List Nat):Prop:=∀a,a<256->c.cell? ⟨b,a,none⟩=some (A (decide (a∈d)))/\c.frozen? ⟨b,a,none⟩=false
theorem B2.cK(b:B2 n w t)(a:p.heap[w]?=n.heap[w]?):B2 p w t:=λd c=>⟨by rw[Ac1 a];exact(b d c).1,by rw[Adm a];exact(b d c).2⟩
theorem B2.lt(a:B2 n w t):w<n.heap.size:=Adt (a 0 (by omega)).1
theorem B2.ef{w:Q}{a:Nat}(b:B2 w a t)(c:EF v w n)(d:a≠v):B2 n a t:=b.cK (c.block a b.lt d)
theorem B2.set(d:B2 n w t){b:Nat}(f:b<256):B2 (n.setCell ⟨w,b,none⟩ (A true)) w (t++[b]):=λa e=>by
 refine⟨?_,by rw[Ac3];exact(d a e).2⟩;by_cases c:a=b
 ·subst c;rw[Ac6 _ _ _ (d a e).1];simp
 ·rw[Acy _ _ _ _ (Au (Aa7 c)),(d a e).1];simp[c]
def Qw(a:ByteArray)(c:Nat->Pr Ex)(d:List Nat)(g:Nat):Pr (Nat×Av×Ex):=pb (Al a Ax g) λ_ h=>pb (Bt a 255 h) λb i=>if b.1∈d then P (5,b.2) else
 pb (Be a i) λf j=>pb (c j) λe k=>pb (Al a Ae k) λ_ l=>.ok ((b.1,f,e),l)
def VQ:X:=T #[V C 0,W none 0 0,.nilIface]
structure Eo (c d:Nat) (a b:Q):Prop where
 os:b.os=a.os
 tape:b.tape=a.tape
 output:b.output=a.output
 size:a.heap.size<=b.heap.size
 block:∀k,k<a.heap.size->k≠c->k≠d->b.heap[k]?=a.heap[k]?
theorem Eo.cM(a:EF w n p):Eo w v n p:=⟨a.os,a.tape,a.output,a.size,λd c b _=>a.block d c b⟩
theorem Eo.trans{d e:Nat}{i j k:Q}(a:Eo d e i j)(c:Eo d e j k):Eo d e i k:=
 ⟨c.os.trans a.os,c.tape.trans a.tape,c.output.trans a.output,Ac5 a.size c.size,λb h f g=>(c.block b (Ac2 h a.size) f g).trans (a.block b h f g)⟩
theorem Eo.set{j:Nat}{u:X}(a:Eo w v n p):Eo w v n (p.setCell ⟨v,j,none⟩ u):=
 ⟨a.os,a.tape,a.output,by have:=a.size;simp;omega,λe d c b=>by rw[Ac4 _ _ _ _ b];exact a.block e d c b⟩
theorem Eo.ef{c:Nat}{w:Q}(b:Eo c v w p)(a:EF c n w)(g:n.heap.size<=v):EF c n p:=
 ⟨b.os.trans a.os,b.tape.trans a.tape,b.output.trans a.output,Ac5 a.size b.size,λf e d=>by rw[b.block f (Ac2 e a.size) d (by omega)];exact a.block f e d⟩
def Nk(g o:Nat)(k:ByteArray)(t:X)(w s:Nat)(p:Nat->Addr)(l:Q)(h:Nat)(n:List Nat)(m:Pr (Nat×Av×Ex))(j:Ending)(e:Q):Prop:=Eo g h l e/\match m with
 |P (c,a)=>∃(b:Int) (r:Option Addr) (v u:Nat) (d:X),Z3 d/\j=F (R #[T #[V C b,W r v u,d],Ll p (Dm c) a])
 |.ok ((b,ns,y),q)=>∃f d i,j=F (R #[T #[V C (b:Int),f,d],.nilIface])/\q<=k.size/\PS e g o k q t w/\B2 e h (n++[b])/\Of (PX (s+1)) e (b,f,ns,d,y,i)/\CT l.heap.size e (vB f++i)
def RQ(o:Q)(a e:Nat)(h:Nat->Addr)(c:ByteArray)(i:X)(f j:Nat):Prop:=∀(b m:Q) (d:Nat) (l:Bool) (g:Av) (n:List PT) (k:Nat) (r q:X),PB o b a h->a<b.heap.size->e<b.heap.size->Bm a e c i j f b m d l g n k r q->
 Adg Acs 225 #[J (some ⟨a,0,none⟩),J (some ⟨d,0,none⟩)] m λp s=>Gu a e c i j f h b d l g n (E4 c (pE c f) g k) p s
def EL(b:ByteArray)(e:Nat->Pr Ex)(a:Av)(d:List Ex)(c:Nat):Pr (Av×List Ex):=if a≠[]/\Ag b c=Ae then .ok ((a,d),Bi b c) else Ba b e (b.size+1-a.length) a d c
theorem Pu(a:l≠[]/\Ag s w=Ae):EL s nw l wh w=.ok ((l,wh),Bi s w):=by unfold EL;rw[if_pos a]
theorem Sk(f:l.length<=s.size)(d:¬(l≠[]/\Ag s w=Ae)):EL s nw l wh w=pb (E4 s nw l w) λb c=>EL s nw (l++[b.1]) (wh++[b.2]) c:=by
 unfold EL;rw[if_neg d,show s.size+1-l.length=(s.size-l.length)+1 by omega,Ba];unfold E4 Cq;match Al s Ax w with
 |P e=>rfl
 |.ok ((),q1)=>
  simp only[Ai];match AV s q1 with
  |P e=>rfl
  |.ok (b,q2)=>
   simp only[Ai];by_cases a:A3 b.1 (l.map (·.1)) 0=true
   ·rw[if_pos a,if_pos a];rfl
   ·rw[if_neg a,if_neg a];simp only[Ai];match nw q2 with
    |P e=>rfl
    |.ok (e,q3)=>
     simp only[Ai];match Al s Ae q3 with
     |P e=>rfl
     |.ok ((),c)=>
      simp only[Ai];simp
theorem Jx(a:ByteArray)(b:Nat->Pr Ex)(d:Bool)(c:Nat):BE a b d c=pb (Al a Ax c) λ_ g=>pb (EL a b [] [] g) λe h=>pb (Al a Ae h) λ_ i=>pb (b i) λf j=>.ok (.lets d e.1 e.2 f,j):=rfl
theorem Gu.cQ(a:Gu w v s m b d o n x w2 l wu xa ns p)(c:xa=P (K,wi)):ns=F (Z 107 (KQ o (Dm K) wi))/\EF w n p:=by
 subst c;exact⟨a.2,a.1⟩
theorem Gu.isOk(e:Gu w v s m b d o n x w2 l wu xa ns p)(f:xa=.ok ((nh,N),K)):ns=F .nilIface/\∃h a g c,Bm w v s m b d n p x w2 (l++[nh]) (wu++[(h,N,a)]) K g c:=by
 subst f;exact e.2
theorem HH(a:V4 n w m q j f):Cx n ⟨w,1,none⟩=IG q:=by unfold Cx;rw[a.c1]
theorem FO(a:X):(vB a).Nodup:=by unfold vB;grind
theorem Bm.fin{y wr:Q}(g:Bm w v s m b d y wr x w2 l wu K q j)(U:w<y.heap.size)(B:EF w wr h)(H:PX (d+1) h (f,N,t))(o:CT wr.heap.size h t):
 PX (d+2) (h.setCell ⟨x,3,none⟩ f) (Z 233 (T #[A w2,q,j,f]),.lets w2 l (wu.map (λI:PT=>I.2.1)) N,vB q++(AJ MP j wu++t))/\CT y.heap.size (h.setCell ⟨x,3,none⟩ f) (vB q++(AJ MP j wu++t)):=by
 have M:=g.hL;have O:=g.v.lt;have Y:=B.size;have G:h.heap.size<=(h.setCell ⟨x,3,none⟩ f).heap.size:=by simp
 have D:∀a,a≠x->(h.setCell ⟨x,3,none⟩ f).heap[a]?=h.heap[a]?:=λa c=>Ac4 _ _ _ _ c;have u:=nsB g.n;have r:=g.e.rg;have E:∀a,x+1<=a->a<wr.heap.size->(h.setCell ⟨x,3,none⟩ f).heap[a]?=wr.heap[a]?:=λa e i=>by
  rw[D a (by omega)];exact B.block a i (by omega)
 refine⟨⟨q,j,wu,f,t,rfl,?_,?_,rfl,?_,rfl⟩,?_,?_⟩
 ·exact(g.n.fr (by omega) λa c=>E a (u a c).1 (u a c).2).low (Ac0 _)
 ·exact(g.e.fr (Ch _) (by omega) λa c=>E a (r a c).1 (r a c).2).low (Ac0 _)
 ·exact Ch _ _ _ _ H G λa c=>D a (by have:=(o.2 a c).1;omega)
 ·refine Aee.2 ⟨FO q,Aee.2 ⟨g.e.nd,o.1,λk p a c z=>?_⟩,λk p a c z=>?_⟩
  ·have e:=(r k p).2;have i:=(o.2 a c).1;omega
  ·subst z;rcases Acz.1 c with e|e
   ·exact g.nd k p e
   ·have i:=(u k p).2;have L:=(o.2 k e).1;omega
 ·intro a c;have aa:=G;rcases Acz.1 c with e|e
  ·have:=u a e;omega
  ·rcases Acz.1 e with i|i
   ·have:=r a i;omega
   ·have:=o.2 a i;omega
structure V3 (b:Q) (a:Nat) (c d e:X):Prop where
 c0:b.cell? ⟨a,0,none⟩=some c
 c1:b.cell? ⟨a,1,none⟩=some d
 c2:b.cell? ⟨a,2,none⟩=some e
 f:∀j,b.frozen? ⟨a,j,none⟩=false
theorem V3.lt(a:V3 n w m q j):w<n.heap.size:=Adt a.c0
theorem V3.cK(b:V3 n w m q j)(e:p.heap[w]?=n.heap[w]?):V3 p w m q j:=by
 have c:=λd=>Ac1 (a:=⟨w,d,none⟩) e;exact⟨by rw[c];exact b.c0,by rw[c];exact b.c1,by rw[c];exact b.c2,λd=>by rw[Adm e];exact b.f d⟩
theorem V3.ef{w:Q}{b a:Nat}(c:V3 w b m q j)(d:EF a w n)(e:b≠a):V3 n b m q j:=c.cK (d.block b c.lt e)
theorem V3.cJ{w:Q}{a:Nat}(b:V3 w a m q j)(c:Below w.heap.size w n):V3 n a m q j:=b.cK (c.block a b.lt)
theorem V3.dc{b c j:Nat}{a u:X}(d:V3 n b m q a)(e:b≠c):V3 (n.setCell ⟨c,j,none⟩ u) b m q a:=d.cK (Ac4 _ _ _ _ e)
theorem V3.put(a:V3 n w m q j)(u0 b c:X):V3 (((n.setCell ⟨w,0,none⟩ u0).setCell ⟨w,1,none⟩ b).setCell ⟨w,2,none⟩ c) w u0 b c:=by
 refine⟨?_,?_,Ac6 _ _ _ (by rw[Acy _ _ _ _ (Au (by omega)),Acy _ _ _ _ (Au (by omega))];exact a.c2),λd=>by rw[Ac3,Ac3,Ac3];exact a.f d⟩
 ·rw[Acy _ _ _ _ (Au (by omega)),Acy _ _ _ _ (Au (by omega))];exact Ac6 _ _ _ a.c0
 ·rw[Acy _ _ _ _ (Au (by omega))];exact Ac6 _ _ _ (by rw[Acy _ _ _ _ (Au (by omega))];exact a.c1)
theorem Hr{u0:X}(b:EF w n p)(a:n.heap.size<=v):EF w n (((p.setCell ⟨v,0,none⟩ u0).setCell ⟨v,1,none⟩ q).setCell ⟨v,2,none⟩ j):=EJ (EJ (EJ b a) a) a
theorem Eo.ed{u0:X}(a:Eo w v n p)(g:n.heap.size<=b):Eo w v n (((p.setCell ⟨b,0,none⟩ u0).setCell ⟨b,1,none⟩ q).setCell ⟨b,2,none⟩ j):=
 ⟨a.os,a.tape,a.output,by have:=a.size;simp;omega,λc f d e=>by rw[Ac4 _ _ _ _ (show c≠b by omega),Ac4 _ _ _ _ (show c≠b by omega),Ac4 _ _ _ _ (show c≠b by omega)];exact a.block c f d e⟩
theorem VV(a:Bt s 255 w=.ok ((v,b),d)):v<256/\b=Am s w:=by
 unfold Bt at a;grind
theorem SX{be:Nat}{ak:Nat}(ap:s.size<=2000)(bs:C6 n w be o s m ak d){x:Q}{k:Nat}{aj:List Nat}{am:Nat}(br:PB n x w o)(bg:PS x w be s am m d)(bH:am<=s.size)(bv:B2 x k aj)(G:k≠w)(bi:k≠be)(bN:n.heap.size<=k):
 Adg Acs 226 #[J (some ⟨w,0,none⟩),J (some ⟨k,0,none⟩)] x λh b9=>Nk w be s m d ak o x k aj (Qw s (pE s ak) aj am) h b9:=by
 have bh:=bg.lt;have bw:=bg.el;have aT:=bv.lt;have B:=hid br;have aq:=hid bv;have bM:=Q9;obtain⟨b8,bx⟩:∃bL,bL=Adi #[V C 0,W none 0 0,.nilIface] 240:=⟨_,rfl⟩;have an:Hid (Below x.heap.size x (x.alloc b8)):=bA;have ax:Hid (V3 (x.alloc b8) x.heap.size (V C 0) (W none 0 0) .nilIface):=by
  subst bx;exact⟨by simp,by simp,by simp,λj=>by simp⟩
 have aa:=hid (HI Ax (x.heap.size+1) (by simp) (br.ef (EF.cI an.out)) (bg.below an.out) bH (by decide));rw[bx]at aa an ax;have z:Hid (x.heap.size≠w):=Aej bh;have aY:Hid (¬k<n.heap.size):=by show ¬_;omega
 clear br bg bx bv;match r:Al s Ax am with
 |P (c,a)=>
  have ab:Hid (Qw s (pE s ak) aj am=P (c,a)):=by show pb _ _=_;rw[r,AG]
  have aw:=hid r;clear r;go_enter Tryz.func226,Tryz.ntmps226;go_wp2_with (first
   |(go_at_call 55;refine aa.out.mono ?_;rintro h aM e;obtain⟨rfl,l⟩:=e.cQ aw.out;have D:=hid ((EF.cI (E:=w) an.out).trans l);have K:=hid (ax.out.ef l z.out);obtain⟨aG,aH,aI,f⟩:=id K.out;have aJ:=f 0;have aK:=f 1;have aL:=f 2;clear e l f))
  obtain⟨ad,ae,af,-⟩:=K.out.put (V C 0) (W none 0 0) .nilIface;refine Adc (v:=R #[VQ,Z 107 (KQ o (Dm c) a)]) (by simp[results,Tryz.results226,go_sem,ad,ae,af,VQ]) rfl ?_;exact⟨(Eo.cM D.out).ed (Acu _),by rw[ab.out];exact⟨0,none,0,0,.nilIface,Ads rfl,rfl⟩⟩
 |.ok ((),b1)=>
  have aw:=hid r;match U:Bt s 255 b1 with
  |P (c,a)=>
   have ab:Hid (Qw s (pE s ak) aj am=P (c,a)):=by show pb _ _=_;rw[r,Ai,U,AG]
   have a5:=hid U;clear r U;go_enter Tryz.func226,Tryz.ntmps226;go_wp2_with (first
    |(go_at_call 55;refine aa.out.mono ?_;rintro h aM e;obtain⟨rfl,l,O,M⟩:=e.isOk aw.out;have D:=hid ((EF.cI (E:=w) an.out).trans l);have I:=hid M;have ah:=hid (ax.out.ef l z.out);clear e l M aa)
    |(go_at_call 57;refine(A1 I.out O).mono ?_;rintro h aW ⟨rfl,N⟩;have i:=hid N;clear N)
    |(go_at_call 122;refine(Cv 255 ap (B.out.ef (D.out.trans (EF.cI i.out))) (I.out.below i.out) O).mono ?_;intro h Y e;obtain⟨rfl,t⟩:=e.cQ a5.out;have p:=hid ((D.out.trans (EF.cI i.out)).trans t);have K:=hid ((ah.out.cJ i.out).ef t z.out);obtain⟨aG,aH,aI,f⟩:=id K.out;have aJ:=f 0;have aK:=f 1;have aL:=f 2;clear e t f))
   obtain⟨ad,ae,af,-⟩:=K.out.put (V C 0) (W none 0 0) .nilIface;refine Adc (v:=R #[VQ,Z 107 (KQ o (Dm c) a)]) (by simp[results,Tryz.results226,go_sem,ad,ae,af,VQ]) rfl ?_;exact⟨(Eo.cM p.out).ed (Acu _),by rw[ab.out];exact⟨0,none,0,0,.nilIface,Ads rfl,rfl⟩⟩
  |.ok ((g,tpl),q2)=>
   have a5:=hid U;have b0:=VV U;have av:=b0.1;have bJ:=b0.2;clear b0;have bS:(0:Int)<=(g:Int):=by omega
   have bT:(g:Int)<256:=by omega
   by_cases ag:g∈aj
   ·have ab:Hid (Qw s (pE s ak) aj am=P (5,Am s b1)):=by show pb _ _=_;rw[r,Ai,U,Ai,if_pos ag,bJ]
    have aE:=decide_eq_true ag;clear r U ag;go_enter Tryz.func226,Tryz.ntmps226;go_wp2_with (first
     |(go_at_call 55;refine aa.out.mono ?_;rintro h aM e;obtain⟨rfl,l,O,M⟩:=e.isOk aw.out;have D:=hid ((EF.cI (E:=w) an.out).trans l);have I:=hid M;have ah:=hid (ax.out.ef l z.out);clear e l M aa)
     |(go_at_call 57;refine(A1 I.out O).mono ?_;rintro h aW ⟨rfl,N⟩;have i:=hid N;clear N)
     |(go_at_call 122;refine(Cv 255 ap (B.out.ef (D.out.trans (EF.cI i.out))) (I.out.below i.out) O).mono ?_;intro h Y e;obtain⟨v,rfl,t,rfl,az,H⟩:=e.isOk a5.out;have p:=hid ((D.out.trans (EF.cI i.out)).trans t);have bc:=hid H;have ai:=hid ((ah.out.cJ i.out).ef t z.out);obtain⟨ar,bf⟩:=aq.out.ef p.out G g av;rw[aE]at ar;have bU:=(B.out.ef p.out).sy.tw;obtain⟨aG,aH,aI,f⟩:=id ai.out;have aJ:=f 0;have aK:=f 1;have aL:=f 2;clear f;clear e t H)
     |(go_at_call 25;refine(QZ _ _ _ _).mono ?_;rintro h b9 ⟨rfl,rfl⟩))
    obtain⟨ad,ae,af,-⟩:=ai.out.put (V C 0) (W none 0 0) .nilIface;refine Adc (v:=R #[VQ,Z 107 (T #[Z 366 (J (some (o 14))),V C 0,V C (Am s b1:Int)])]) (by simp[results,Tryz.results226,go_sem,ad,ae,af,VQ]) rfl ?_;exact⟨(Eo.cM p.out).ed (Acu _),by rw[ab.out];exact⟨0,none,0,0,.nilIface,Ads rfl,rfl⟩⟩
   ·have aE:=decide_eq_false ag;match h3:Be s q2 with
    |P (c,a)=>
     have ab:Hid (Qw s (pE s ak) aj am=P (c,a)):=by show pb _ _=_;rw[r,Ai,U,Ai,if_neg ag,h3,AG]
     have aP:=hid h3;clear r U h3 ag;go_enter Tryz.func226,Tryz.ntmps226;go_wp2_with (first
      |(go_at_call 55;refine aa.out.mono ?_;rintro h aM e;obtain⟨rfl,l,O,M⟩:=e.isOk aw.out;have D:=hid ((EF.cI (E:=w) an.out).trans l);have I:=hid M;have ah:=hid (ax.out.ef l z.out);clear e l M aa)
      |(go_at_call 57;refine(A1 I.out O).mono ?_;rintro h aW ⟨rfl,N⟩;have i:=hid N;clear N)
      |(go_at_call 122;refine(Cv 255 ap (B.out.ef (D.out.trans (EF.cI i.out))) (I.out.below i.out) O).mono ?_;intro h Y e;obtain⟨v,rfl,t,rfl,az,H⟩:=e.isOk a5.out;have p:=hid ((D.out.trans (EF.cI i.out)).trans t);have bc:=hid H;have ai:=hid ((ah.out.cJ i.out).ef t z.out);obtain⟨ar,bf⟩:=aq.out.ef p.out G g av;rw[aE]at ar;have a3:Hid (Eo w k x (Y.setCell ⟨k,g,none⟩ (A true))):=(Eo.cM p.out).set;have a6:=hid (H.dc (b:=k) (j:=g) (u:=Value.bool true) G bi);have aD:=hid ((aq.out.ef p.out G).set av);have a7:=hid (ai.out.dc (c:=k) (j:=g) (u:=Value.bool true) (Aej aT));have ao:Hid (PB n (Y.setCell ⟨k,g,none⟩ (A true)) w o):=⟨B.out.s,((B.out.ef p.out).b).setCell (Nat.le_of_not_lt (λa8=>aY.out a8)) _,B.out.e⟩;clear e t H)
      |(go_at_call 123;refine(Dy ap ao.out a6.out az).mono ?_;intro h b2 e;obtain⟨rfl,q⟩:=e.cQ aP.out;have a4:=hid (a3.out.trans (Eo.cM q));have K:=hid (a7.out.ef q z.out);obtain⟨aG,aH,aI,f⟩:=id K.out;have aJ:=f 0;have aK:=f 1;have aL:=f 2;clear e q f))
     obtain⟨ad,ae,af,-⟩:=K.out.put (V C 0) (W none 0 0) .nilIface;refine Adc (v:=R #[VQ,Z 107 (KQ o (Dm c) a)]) (by simp[results,Tryz.results226,go_sem,ad,ae,af,VQ]) rfl ?_;exact⟨(a4.out).ed (Acu _),by rw[ab.out];exact⟨0,none,0,0,.nilIface,Ads rfl,rfl⟩⟩
    |.ok (ns,q3)=>
     have aP:=hid h3;match h4:pE s ak q3 with
     |P (c,a)=>
      have ab:Hid (Qw s (pE s ak) aj am=P (c,a)):=by show pb _ _=_;rw[r,Ai,U,Ai,if_neg ag,h3,Ai,h4,AG]
      have bb:=hid h4;clear r U h3 h4 ag;go_enter Tryz.func226,Tryz.ntmps226;go_wp2_with (first
       |(go_at_call 55;refine aa.out.mono ?_;rintro h aM e;obtain⟨rfl,l,O,M⟩:=e.isOk aw.out;have D:=hid ((EF.cI (E:=w) an.out).trans l);have I:=hid M;have ah:=hid (ax.out.ef l z.out);clear e l M aa)
       |(go_at_call 57;refine(A1 I.out O).mono ?_;rintro h aW ⟨rfl,N⟩;have i:=hid N;clear N)
       |(go_at_call 122;refine(Cv 255 ap (B.out.ef (D.out.trans (EF.cI i.out))) (I.out.below i.out) O).mono ?_;intro h Y e;obtain⟨v,rfl,t,rfl,az,H⟩:=e.isOk a5.out;have p:=hid ((D.out.trans (EF.cI i.out)).trans t);have bc:=hid H;have ai:=hid ((ah.out.cJ i.out).ef t z.out);obtain⟨ar,bf⟩:=aq.out.ef p.out G g av;rw[aE]at ar;have a3:Hid (Eo w k x (Y.setCell ⟨k,g,none⟩ (A true))):=(Eo.cM p.out).set;have a6:=hid (H.dc (b:=k) (j:=g) (u:=Value.bool true) G bi);have aD:=hid ((aq.out.ef p.out G).set av);have a7:=hid (ai.out.dc (c:=k) (j:=g) (u:=Value.bool true) (Aej aT));have ao:Hid (PB n (Y.setCell ⟨k,g,none⟩ (A true)) w o):=⟨B.out.s,((B.out.ef p.out).b).setCell (Nat.le_of_not_lt (λa8=>aY.out a8)) _,B.out.e⟩;clear e t H)
       |(go_at_call 123;refine(Dy ap ao.out a6.out az).mono ?_;intro h b2 e;obtain⟨b7,rfl,q,aV,ay,al⟩:=e.isOk aP.out;obtain⟨a1,a0,rfl⟩:=al.slice;have bk:=hid q;have a4:=hid (a3.out.trans (Eo.cM q));have aQ:=hid ay;have aZ:=hid al;have ba:=hid (aD.out.ef q G);have aR:=hid (a7.out.ef q z.out);have a2:=hid (ao.out.ef q);clear e q ay al)
       |(go_at_call 124;refine(bs _ _ a2.out aQ.out aV).mono ?_;intro h bB e;obtain⟨v,rfl,L,-⟩:=e.cQ bb.out;have aN:=hid (a4.out.trans (Eo.cM L));have K:=hid (aR.out.ef L z.out);obtain⟨aG,aH,aI,f⟩:=id K.out;have aJ:=f 0;have aK:=f 1;have aL:=f 2;clear e L f))
      obtain⟨ad,ae,af,-⟩:=K.out.put (V C 0) (W none 0 0) .nilIface;refine Adc (v:=R #[VQ,Z 107 (KQ o (Dm c) a)]) (by simp[results,Tryz.results226,go_sem,ad,ae,af,VQ]) rfl ?_;exact⟨(aN.out).ed (Acu _),by rw[ab.out];exact⟨0,none,0,0,.nilIface,Ads rfl,rfl⟩⟩
     |.ok (y,q4)=>
      have bb:=hid h4;match h5:Al s Ae q4 with
      |P (c,a)=>
       have ab:Hid (Qw s (pE s ak) aj am=P (c,a)):=by show pb _ _=_;rw[r,Ai,U,Ai,if_neg ag,h3,Ai,h4,Ai,h5,AG]
       have bo:=hid h5;clear r U h3 h4 h5 ag;go_enter Tryz.func226,Tryz.ntmps226;go_wp2_with (first
        |(go_at_call 55;refine aa.out.mono ?_;rintro h aM e;obtain⟨rfl,l,O,M⟩:=e.isOk aw.out;have D:=hid ((EF.cI (E:=w) an.out).trans l);have I:=hid M;have ah:=hid (ax.out.ef l z.out);clear e l M aa)
        |(go_at_call 57;refine(A1 I.out O).mono ?_;rintro h aW ⟨rfl,N⟩;have i:=hid N;clear N)
        |(go_at_call 122;refine(Cv 255 ap (B.out.ef (D.out.trans (EF.cI i.out))) (I.out.below i.out) O).mono ?_;intro h Y e;obtain⟨v,rfl,t,rfl,az,H⟩:=e.isOk a5.out;have p:=hid ((D.out.trans (EF.cI i.out)).trans t);have bc:=hid H;have ai:=hid ((ah.out.cJ i.out).ef t z.out);obtain⟨ar,bf⟩:=aq.out.ef p.out G g av;rw[aE]at ar;have a3:Hid (Eo w k x (Y.setCell ⟨k,g,none⟩ (A true))):=(Eo.cM p.out).set;have a6:=hid (H.dc (b:=k) (j:=g) (u:=Value.bool true) G bi);have aD:=hid ((aq.out.ef p.out G).set av);have a7:=hid (ai.out.dc (c:=k) (j:=g) (u:=Value.bool true) (Aej aT));have ao:Hid (PB n (Y.setCell ⟨k,g,none⟩ (A true)) w o):=⟨B.out.s,((B.out.ef p.out).b).setCell (Nat.le_of_not_lt (λa8=>aY.out a8)) _,B.out.e⟩;clear e t H)
        |(go_at_call 123;refine(Dy ap ao.out a6.out az).mono ?_;intro h b2 e;obtain⟨b7,rfl,q,aV,ay,al⟩:=e.isOk aP.out;obtain⟨a1,a0,rfl⟩:=al.slice;have bk:=hid q;have a4:=hid (a3.out.trans (Eo.cM q));have aQ:=hid ay;have aZ:=hid al;have ba:=hid (aD.out.ef q G);have aR:=hid (a7.out.ef q z.out);have a2:=hid (ao.out.ef q);clear e q ay al)
        |(go_at_call 124;refine(bs _ _ a2.out aQ.out aV).mono ?_;intro h bB e;obtain⟨v,rfl,L,bz,aS,b5,a9,aU⟩:=e.isOk bb.out;obtain⟨aB,aC,rfl⟩:=a9.dd;have bl:=hid L;have aN:=hid (a4.out.trans (Eo.cM L));have bp:=hid aS;have b4:=hid a9;have aO:=hid aU;have b3:=hid (ba.out.ef L G);have bq:=hid (aR.out.ef L z.out);have bj:=hid (a2.out.ef L);clear e L aS a9 aU)
        |(go_at_call 55;refine(Bx Ae bj.out bp.out bz (by decide)).mono ?_;intro h aX e;obtain⟨rfl,au⟩:=e.cQ bo.out;have bn:=hid (aN.out.trans (Eo.cM au));have K:=hid (bq.out.ef au z.out);obtain⟨aG,aH,aI,f⟩:=id K.out;have aJ:=f 0;have aK:=f 1;have aL:=f 2;clear e au f))
       obtain⟨ad,ae,af,-⟩:=K.out.put (V C (g:Int)) (W a1 ns.length a0) (Z aB aC);refine Adc (v:=R #[T #[V C (g:Int),W a1 ns.length a0,Z aB aC],Z 107 (KQ o (Dm c) a)]) (by simp[results,Tryz.results226,go_sem,ad,ae,af]) rfl ?_;exact⟨bn.out.ed (Acu _),by rw[ab.out];exact⟨_,_,_,_,_,Ad7 ⟨_,_,rfl⟩,rfl⟩⟩
      |.ok ((),q5)=>
       have ab:Hid (Qw s (pE s ak) aj am=.ok ((g,ns,y),q5)):=by show pb _ _=_;rw[r,Ai,U,Ai,if_neg ag,h3,Ai,h4,Ai,h5,Ai]
       have bo:=hid h5;clear r U h3 h4 h5 ag;go_enter Tryz.func226,Tryz.ntmps226;go_wp2_with (first
        |(go_at_call 55;refine aa.out.mono ?_;rintro h aM e;obtain⟨rfl,l,O,M⟩:=e.isOk aw.out;have D:=hid ((EF.cI (E:=w) an.out).trans l);have I:=hid M;have ah:=hid (ax.out.ef l z.out);clear e l M aa)
        |(go_at_call 57;refine(A1 I.out O).mono ?_;rintro h aW ⟨rfl,N⟩;have i:=hid N;clear N)
        |(go_at_call 122;refine(Cv 255 ap (B.out.ef (D.out.trans (EF.cI i.out))) (I.out.below i.out) O).mono ?_;intro h Y e;obtain⟨v,rfl,t,rfl,az,H⟩:=e.isOk a5.out;have p:=hid ((D.out.trans (EF.cI i.out)).trans t);have bc:=hid H;have ai:=hid ((ah.out.cJ i.out).ef t z.out);obtain⟨ar,bf⟩:=aq.out.ef p.out G g av;rw[aE]at ar;have a3:Hid (Eo w k x (Y.setCell ⟨k,g,none⟩ (A true))):=(Eo.cM p.out).set;have a6:=hid (H.dc (b:=k) (j:=g) (u:=Value.bool true) G bi);have aD:=hid ((aq.out.ef p.out G).set av);have a7:=hid (ai.out.dc (c:=k) (j:=g) (u:=Value.bool true) (Aej aT));have ao:Hid (PB n (Y.setCell ⟨k,g,none⟩ (A true)) w o):=⟨B.out.s,((B.out.ef p.out).b).setCell (Nat.le_of_not_lt (λa8=>aY.out a8)) _,B.out.e⟩;clear e t H)
        |(go_at_call 123;refine(Dy ap ao.out a6.out az).mono ?_;intro h b2 e;obtain⟨b7,rfl,q,aV,ay,al⟩:=e.isOk aP.out;obtain⟨a1,a0,rfl⟩:=al.slice;have bk:=hid q;have a4:=hid (a3.out.trans (Eo.cM q));have aQ:=hid ay;have aZ:=hid al;have ba:=hid (aD.out.ef q G);have aR:=hid (a7.out.ef q z.out);have a2:=hid (ao.out.ef q);clear e q ay al)
        |(go_at_call 124;refine(bs _ _ a2.out aQ.out aV).mono ?_;intro h bB e;obtain⟨v,rfl,L,bz,aS,b5,a9,aU⟩:=e.isOk bb.out;obtain⟨aB,aC,rfl⟩:=a9.dd;have bl:=hid L;have aN:=hid (a4.out.trans (Eo.cM L));have bp:=hid aS;have b4:=hid a9;have aO:=hid aU;have b3:=hid (ba.out.ef L G);have bq:=hid (aR.out.ef L z.out);have bj:=hid (a2.out.ef L);clear e L aS a9 aU)
        |(go_at_call 55;refine(Bx Ae bj.out bp.out bz (by decide)).mono ?_;intro h aX e;obtain⟨rfl,au,bI,b6⟩:=e.isOk bo.out;have bm:=hid au;have bn:=hid (aN.out.trans (Eo.cM au));have bD:=hid b6;have bC:=hid (b3.out.ef au G);have K:=hid (bq.out.ef au z.out);obtain⟨aG,aH,aI,f⟩:=id K.out;have aJ:=f 0;have aK:=f 1;have aL:=f 2;clear e au b6 f))
       obtain⟨ad,ae,af,-⟩:=K.out.put (V C (g:Int)) (W a1 ns.length a0) (Z aB aC);refine Adc (v:=R #[T #[V C (g:Int),W a1 ns.length a0,Z aB aC],.nilIface]) (by simp[results,Tryz.results226,go_sem,ad,ae,af]) rfl ?_;refine⟨bn.out.ed (Acu _),?_⟩;rw[ab.out];have bO:aX.heap.size<=(((aX.setCell ⟨x.heap.size,0,none⟩ (V C (g:Int))).setCell ⟨x.heap.size,1,none⟩ (W a1 ns.length a0)).setCell ⟨x.heap.size,2,none⟩ (Z aB aC)).heap.size:=by simp
       have bt:∀b,b≠x.heap.size->(((aX.setCell ⟨x.heap.size,0,none⟩ (V C (g:Int))).setCell ⟨x.heap.size,1,none⟩ (W a1 ns.length a0)).setCell ⟨x.heap.size,2,none⟩ (Z aB aC)).heap[b]?=aX.heap[b]?:=λb ac=>by rw[Ac4 _ _ _ _ ac,Ac4 _ _ _ _ ac,Ac4 _ _ _ _ ac]
       have bP:=ai.out.lt;have bK:=bk.out.size;rw[show(Y.setCell ⟨k,g,none⟩ (A true)).heap.size=Y.heap.size by simp]at bK;have bQ:=bl.out.size;have bR:=bm.out.size;have bu:=λb ac=>by
        have:=nsB aZ.out b ac;simpa using this
       refine⟨_,_,b5,rfl,bI,((bD.out.dc (Aej bh) (Aej bw)).dc (Aej bh) (Aej bw)).dc (Aej bh) (Aej bw),bC.out.cK (bt k (Nat.ne_of_lt aT)),⟨?_,?_⟩,?_⟩
       ·refine(aZ.out.fr (by omega) λb ac=>?_).low (Ac0 _);have r:=bu b ac;rw[bt b (by omega),bm.out.block b (by omega) (by omega),bl.out.block b (by omega) (by omega)]
       ·refine Ch _ _ _ _ b4.out (by omega) λb ac=>?_;have r:=aO.out.2 b ac;rw[bt b (by omega),bm.out.block b (by omega) (by omega)]
       ·refine⟨Aee.2 ⟨FO _,aO.out.1,λbE bG b ac h=>?_⟩,λb ac=>?_⟩
        ·have r:=bu bE bG;have U:=aO.out.2 b ac;omega
        ·rcases Acz.1 ac with r|r
         ·have:=bu b r;omega
         ·have:=aO.out.2 b r;omega
structure V5 (b:Q) (a:Nat) (c d e g h:X):Prop where
 c0:b.cell? ⟨a,0,none⟩=some c
 c1:b.cell? ⟨a,1,none⟩=some d
 c2:b.cell? ⟨a,2,none⟩=some e
 c3:b.cell? ⟨a,3,none⟩=some g
 c4:b.cell? ⟨a,4,none⟩=some h
 f:∀j,b.frozen? ⟨a,j,none⟩=false
theorem V5.cK{g:X}(b:V5 n w m q j g wv)(e:p.heap[w]?=n.heap[w]?):V5 p w m q j g wv:=by
 have c:=λd=>Ac1 (a:=⟨w,d,none⟩) e;exact⟨(c _).trans b.c0,(c _).trans b.c1,(c _).trans b.c2,(c _).trans b.c3,(c _).trans b.c4,λd=>(Adm e).trans (b.f d)⟩
theorem V5.set{b:Nat}{i k:X}(c:V5 n b m q i k wv)(a:Nat)(u:X):V5 (n.setCell ⟨b,a,none⟩ u) b (if a=0 then u else m) (if a=1 then u else q) (if a=2 then u else i) (if a=3 then u else k) (if a=4 then u else wv):=by
 have d:∀j g,n.cell? ⟨b,j,none⟩=some g->(n.setCell ⟨b,a,none⟩ u).cell? ⟨b,j,none⟩=some (if a=j then u else g):=λj g h=>by
  split
  ·next e=>subst e;exact Ac6 _ _ _ h
  ·next e=>rw[Acy _ _ _ _ (Au e)];exact h
 exact⟨d _ _ c.c0,d _ _ c.c1,d _ _ c.c2,d _ _ c.c3,d _ _ c.c4,λj=>by rw[Ac3];exact c.f j⟩
abbrev TT:=ByteArray×(X×List ByteArray)×PT
def Br(a:ByteArray):List X:=[S a]
def F2(a:ByteArray×Int):List X:=[S a.1,V C a.2]
def XX(a:TT):List X:=[S a.1,a.2.1.1,a.2.2.1]
def X0(a:TT):Dd:=(a.1,a.2.1.2,a.2.2.2.1)
structure Cc where
 W0:Q
 lo:Nat
 K:Nat
 U:Nat
 nm:ByteArray
 gv:X
 G:TT->Prop
 E:List As
abbrev kA(a:Cc)(c:X)(d:Int)(g:X):As:=⟨[a.K],λh=>V5 h a.K (J (some ⟨a.U,0,none⟩)) (S a.nm) c (V C d) g,λb _ f=>Ac9.1 f▸cells_of_cell b.c0,λb _ e=>b.cK (e _ (by simp))⟩
abbrev uA(b:Nat)(f g c:X):As:=⟨[b],λh=>V3 h b f g c,λa _ e=>Ac9.1 e▸cells_of_cell a.c0,λa _ d=>a.cK (d _ (by simp))⟩
abbrev aA(e:Es):As:=⟨e.flatMap λa=>vB a.2,λi=>∀a∈e,i.ownsRow 0 68 2 a.2 a.1.alts.length (a.1.alts.flatMap FG),(λc _ h=>by obtain⟨a,b,d⟩:=Ada.1 h;exact .cS (c a b) d),λc _ g a b=>Az (c a b) λf d=>g f (Ada.2 ⟨a,b,d⟩)⟩
abbrev cA(b:X)(a:Es):As:=pA 65 3 b a.length (a.flatMap ER)
abbrev lA(b:X)(a:List (ByteArray×Int)):As:=pA 230 2 b a.length (a.flatMap F2)
abbrev nA(b:X)(a:List ByteArray):As:=pA 9 1 b a.length (a.flatMap Br)
abbrev tA(b:X)(a:List TT):As:=oA 124 3 b a.length (a.flatMap XX)
abbrev uL(d:Nat)(f:List ByteArray)(g:List TT)(a b e:X)(c:List As):List As:=uA d a b e::nA a f::tA b g::c
abbrev cL(a:Cc)(b:KS)(c:Es)(g:List TT)(d e f h:X):List As:=kA a d b.AB e::cA d c::lA e b.loc::aA c::uL a.U b.kn g f h a.gv a.E
def P3(c:Q)(d:List Nat)(a:TT):Prop:=c.ownsRow 0 9 1 a.2.1.1 a.2.1.2.length (a.2.1.2.flatMap Br)/\∀b∈vB a.2.1.1,b<c.heap.size/\b∉d
abbrev Nb(d:Q)(b c:List Nat):Prop:=∀a∈c,a∈b\/d.heap.size<=a
theorem Nb.trans(a:Nb n t wg)(d:Nb p wg w9)(e:n.heap.size<=p.heap.size):Nb n t w9:=λb c=>(d b c).elim (a b) λa=>.inr (by omega)
theorem P3.step{x:TT}(b:P3 n t x)(d:AF t n p)(e:Nb n t wg):P3 p wg x:=
 ⟨Az b.1 λa c=>d.block a (b.2 a c).1 (b.2 a c).2,λa c=>⟨Ac2 (b.2 a c).1 d.size,λf=>(e a f).elim (b.2 a c).2 (by have:=b.2 a c;omega)⟩⟩
def X7(a:KS):Prop:=a.code.length<=a.z/\a.loc.length<=a.z/\a.kn.length<=a.z/\a.td.length<=a.z
structure OX (c:Cc) (a:KS) (l:Q) (f:List Nat) (e:Es) (d:List TT) (h j i k:X):Prop where
 s:Sp c.lo l (cL c a e d h j i k)
 b:f=fp (cL c a e d h j i k)
 hc:e.map (·.1)=a.code
 ht:d.map X0=a.td
 g:∀x∈d,c.G x/\P3 l f x
 z:X7 a
def CM(b:Cc)(g:KS)(j:Q)(a:List Nat):Prop:=∃c h d f e i,OX b g j a c h d f e i
structure At (a:Cc) (b:List Nat) (c:Q) (d:KS) (wr:Q):Prop where
 af:AF b c wr
 low:Below a.lo a.W0 wr
 cm:∃B',CM a d wr B'/\Nb c b B'
variable{ws:List TT}
theorem OX.k{c:Cc}{w:Q}(a:OX c r w t wx ws m q j f):V5 w c.K (J (some ⟨c.U,0,none⟩)) (S c.nm) m (V C r.AB) q:=a.s.mem (A:=kA c m r.AB q) (by simp)
theorem OX.rg{c:Cc}{a:List Nat}{e:Q}{j:KS}{f:Es}{k:List TT}{g i h l:X}(d:OX c j e a f k g i h l):∀b∈a,c.lo<=b/\b<e.heap.size:=d.b▸d.s.rg
theorem OX.cJ{e:Cc}{d:List Nat}{w w1:Q}{l:KS}{f:Es}{m:List TT}{h k j n:X}(a:OX e l w d f m h k j n)(c:Below w.heap.size w w1):OX e l w1 d f m h k j n:=
 ⟨a.s.cJ c,a.b,a.hc,a.ht,λo i=>⟨(a.g o i).1,(a.g o i).2.step (.cI c) λ_ c=>.inl c⟩,a.z⟩
variable{e:Cc}
theorem At.re{wr:Q}(d:At e t n r wr)(a:Below wr.heap.size wr p):∃b,CM e r wr b/\At e b p r p/\(∀c∈b,(e.lo<=c/\c<wr.heap.size)/\(c∈t\/n.heap.size<=c))/\∀i j,At e b p i j->At e t n i j:=by
 let ⟨b,⟨o,y,q,x,w,B,f⟩,g⟩:=d.cm
 have u:=a.size;have v:=d.af.size
 refine⟨b,⟨_,_,_,_,_,_,f⟩,⟨.refl,d.low.trans (a.mono f.s.z),b,⟨_,_,_,_,_,_,f.cJ a⟩,λ_ a=>.inl a⟩,λc a=>⟨f.rg c a,g c a⟩,λi j h=>?_⟩;let ⟨k,l,m⟩:=h.cm
 exact⟨(d.af.then a).trans h.af g,h.low,k,l,g.trans m (by omega)⟩
theorem At.cJ{w w1 wr:Q}(a:At e t w r wr)(d:Below wr.heap.size wr w1):At e t w r w1:=by
 obtain⟨f,-,b,-,c⟩:=a.re d;exact c _ _ b
theorem CM.cJ{b:Cc}{a:List Nat}{w w1:Q}{c:KS}(d:CM b c w a)(e:Below w.heap.size w w1):CM b c w1 a:=by
 let ⟨g,k,h,j,i,l,f⟩:=d
 exact⟨_,_,_,_,_,_,f.cJ e⟩
theorem CM.at{w:Q}(a:CM e r w t)(b:Below e.lo e.W0 w):At e t w r w:=⟨.refl,b,t,a,λ_ a=>.inl a⟩
theorem At.on{wr:Q}(a:At e t p r wr)(b:Below n.heap.size n p):At e t n r wr:=by
 let ⟨c,f,g⟩:=a.cm
 have:=b.size;exact⟨(AF.cI b).trans a.af λ_ a=>.inl a,a.low,c,f,λd b=>(g d b).imp id (by omega)⟩
theorem At.cell{e:Cc}{b:List Nat}{d wr:Q}{i:KS}(f:At e b d i wr){a:Addr}{c:X}(h:d.cell? a=some c)(g:a.block∉b):wr.cell? a=some c:=f.af.cell h g
theorem AF.dL(a:AF t n p){f:Option Nat}(b:p.grownBy h f)(j:∀e,f=some e->n.heap.size<=e):AF t n h:=
 ⟨b.os.trans a.os,b.tape.trans a.tape,b.output.trans a.output,Ac5 a.size b.size,λd c g=>(b.block d (Ac2 c a.size) λi=>by grind).trans (a.block d c g)⟩
theorem At.dL{j:Cc}{m:List Nat}{i r wr:Q}{q:KS}(k:At j m i q wr){p:Option Nat}(a:wr.grownBy r p)(l:∀b,p=some b->i.heap.size<=b/\∃o,wr.heap[b]?=some o/\o.isCells=false)(I:j.lo<=i.heap.size):At j m i q r:=by
 let ⟨u,⟨v,E,w,D,B,G,c⟩,x⟩:=k.cm
 refine⟨k.af.dL a λb d=>(l b d).1,k.low.trans ⟨a.os,a.tape,a.output,a.size,λy H=>a.block y (by have:=c.s.z;omega) λd=>by grind⟩,u,⟨v,E,w,D,B,G,c.s.turn a λb d=>(l b d).2,c.b,c.hc,c.ht,λt n=>⟨(c.g t n).1,?_⟩,c.z⟩,x⟩;have f:=(c.g t n).2;exact⟨Az f.1 λe h=>a.block e (f.2 e h).1 (Rq.ne (.cS f.1 h) λb d=>(l b d).2),λe h=>⟨Ac2 (f.2 e h).1 a.size,(f.2 e h).2⟩⟩
theorem CM.keeps{wr:Q}(h:CM e r wr t)(c:AF t wr n)(j:Nat):KeepsFrom j wr n:=by
 let ⟨k,x,l,u,q,y,f⟩:=h
 refine⟨c.size,λg v _ d o=>(c.block g (Aeq.1 d).1 λa=>?_).trans d⟩;rw[f.b]at a;let ⟨b,i,a⟩:=Ada.1 a
 let ⟨w,p,m⟩:=b.c (f.s.h b i) a
 grind
theorem At.u{B:List Nat}{wr:Q}(d:At e B n r wr):∃a b,wr.cell? ⟨e.U,0,none⟩=some a/\wr.ownsRow 0 9 1 a r.kn.length (r.kn.flatMap Br)/\V3 wr e.U a b e.gv:=by
 let ⟨f,⟨g,k,h,j,a,b,c⟩,i⟩:=d.cm
 have u:=c.s.mem (A:=uA e.U a b e.gv) (by simp);exact⟨a,b,u.c0,c.s.mem (A:=nA a r.kn) (by simp),u⟩
theorem At.turn{wr:Q}(b:At e t n r wr)(d:OX e r wr wg wx ws m q j f)(k:Nb n t wg)(h:Es)(g:List TT)(i o l s:X)(c:Bn e.lo wr (cL e r wx ws m q j f) p (cL e ny h g i o l s))(y:h.map (·.1)=ny.code)(z:g.map X0=ny.td)(w:∀a∈g,a∈ws\/e.G a/\P3 p (fp (cL e ny h g i o l s)) a)(D:X7 ny):At e t n ny p:=by
 have v:=d.b;subst v;exact⟨b.af.trans c.af k,b.low.trans (c.af.low (λu x=>(d.rg u x).1) d.s.z),_,⟨_,_,_,_,_,_,c.s,rfl,y,z,λa B=>(w a B).elim (λb=>⟨(d.g a b).1,(d.g a b).2.step c.af c.nb⟩) id,D⟩,k.trans c.nb b.af.size⟩
theorem At.ej{wr:Q}(d:At e t n r wr)(a:OX e r wr wg wx ws m q j f)(h:Nb n t wg)(c:List As)(b:Bn e.lo wr (cL e r wx ws m q j f) p (cL {e with E:=c} r wx ws m q j f)):At {e with E:=c} t n r p:=by
 have o:=a.b;subst o;exact⟨d.af.trans b.af h,d.low.trans (b.af.low (λl s=>(a.rg l s).1) a.s.z),_,⟨_,_,_,_,_,_,b.s,rfl,a.hc,a.ht,λk i=>⟨(a.g k i).1,(a.g k i).2.step b.af b.nb⟩,a.z⟩,h.trans b.nb d.af.size⟩
theorem At.fD{wr:Q}(c:At e t n r wr)(b:Int):At e t n {r with AB:=b} (wr.setCell ⟨e.K,3,none⟩ (V C b)):=by
 let ⟨o,⟨d,l,f,j,i,m,a⟩,g⟩:=c.cm
 exact c.turn a g d l f j i m (a.s.dv.set (L1:=[]) rfl rfl (a.k.set 3 _)) a.hc a.ht (λp h=>.inl h) a.z
theorem At.gc{wr:Q}(l:At e t n r wr)(c:OX e r wr wg wx ws m q j f)(u:Nb n t wg)(o:Below wr.heap.size wr h){i:Bp}(p:i.alts=[])(v:IY h 65 3 m wv (wx.length+1) (wx.flatMap ER++[V C i.op,V C i.a,W none 0 0]) w0):At e t n {r with code:=r.code++[i],z:=r.z+1} (w0.setCell ⟨e.K,2,none⟩ wv):=by
 have d:=(c.s.dv.cJ o).ek (L1:=[_]) (n':=(wx++[(i,W none 0 0)]).length) (xs':=(wx++[(i,W none 0 0)]).flatMap ER) (by simpa[ER]using v);have g:=d.set (L1:=[]) (A':=kA e wv r.AB q) rfl rfl (V5.set (d.mem (A:=kA e m r.AB q) (by simp)) 2 wv);refine l.turn c u (wx++[(i,W none 0 0)]) ws wv q j f (g.same (L1:=[_,_,_]) (by simp[EM]) λk b=>?_) (by rw[Adq,c.hc];rfl) c.ht (λk b=>.inl b) (by have:=c.z;unfold X7 at*;simp;omega);rcases Acz.1 b with b|b
 ·exact g.mem (A:=aA wx) (by simp) k b
 ·obtain rfl:=Ac9.1 b;rw[p];exact Ad1 _ _ _ _
theorem Aaj:ET 57 65 3 40:=.of Tryz.underlying57 rfl rfl (by omega) (by omega)
structure Ok (a:Cc):Prop where
 t:GD a.W0
 l:20<a.lo
theorem At.he{b:List Nat}{wr:Q}(c:At e b n r wr)(a:Ok e):GD wr:=λf d=>by
 rw[Ac1 (c.low.block _ a.l)];exact a.t f d
theorem At.k{c:Cc}{e:List Nat}{w wr:Q}{d:KS}(f:At c e w d wr):∃a b,V5 wr c.K (J (some ⟨c.U,0,none⟩)) (S c.nm) a (V C d.AB) b:=by
 obtain⟨h,⟨i,l,a,b,j,m,g⟩,-⟩:=f.cm;exact⟨a,b,g.k⟩
theorem Xw{c:Cc}{wr:Q}(ao:Ok c)(d:Nat)(e:Int)(aq:d<21)(w:At c t n r wr)(a9:r.z<9000000000):
 Adg Acs 109 #[J (some ⟨c.K,0,none⟩),V C (d:Int),V C e] wr λE au=>E=F (R #[])/\At c t n (AE d e r) au:=by
 obtain⟨aw,⟨p,aN,l,ar,aJ,aO,g⟩,ah⟩:=w.cm;obtain⟨a,y⟩:∃a,a=wr.alloc (.cells #[V C (d:Int),V C e,W none 0 0] 65):=⟨_,rfl⟩;have u:Below wr.heap.size wr a:=by rw[y];exact bA
 have q:V3 a wr.heap.size (V C (d:Int)) (V C e) (W none 0 0):=by subst y;exact⟨by simp,by simp,by simp,λaB=>by simp⟩
 have G:wr.heap.size∉vB l/\wr.heap.size≠c.K:=⟨λap=>Nat.lt_irrefl _ (g.rg _ (by rw[g.b];exact F9 (A:=cA l p) (by simp) ap)).2,λE=>by have:=Adt g.k.c0;grind⟩;obtain⟨k0,N,O,U,Y,v⟩:=(g.cJ u).k;obtain⟨I,L,M,-⟩:=id q;have aH:=v 2;have ay:=hid g;have ax:=hid w;have al:Hid (∀D k B,Below a.heap.size a D->IY D 65 3 l B (p.length+1) (p.flatMap ER++[V C (d:Int),V C e,W none 0 0]) k->At c t n {r with code:=r.code++[⟨(d:Int),e,[]⟩],z:=r.z+1} (k.setCell ⟨c.K,2,none⟩ B)/\V3 (k.setCell ⟨c.K,2,none⟩ B) wr.heap.size (V C (d:Int)) (V C e) (W none 0 0)/\k.cell? ⟨c.K,2,none⟩=some l/\k.frozen? ⟨c.K,2,none⟩=false):=λD k B H o=>by
  have ag:=u.trans (H.mono u.size);have aj:=((g.s.dv.cJ ag).ek (L1:=[_]) o).mem (A:=kA c l r.AB ar) (by simp);refine⟨w.gc g ah ag (i:=⟨(d:Int),e,[]⟩) rfl o,q.cK ?_,aj.c2,aj.f 2⟩;rw[Ac4 _ _ _ _ G.2,o.af.block _ (by have:=H.size;have:=q.lt;omega) G.1,H.block _ q.lt]
 have a8:p.length<9000000000:=by have:=g.z.1;rw[<-g.hc,Adf]at this;omega
 have am:=hid (g.s.cJ u|>.mem (A:=cA l p) (by simp));have ab:Hid (∀h,Below a.heap.size a (a.alloc h)):=λh=>bA;have aG:=λh=>alloc_old a h _ _ _ O;have aC:=λh=>alloc_old a h _ _ _ I;have aD:=λh=>alloc_old a h _ _ _ L;have aE:=λh=>alloc_old a h _ _ _ M;clear u g w ah q G v k0 N U Y;go_enter Tryz.func109,Tryz.ntmps109;go_upto_region 1 with(fail)
 rw[<-y];clear y;go_cut [] (λj=>Hid (At c t n {r with code:=r.code++[⟨(d:Int),e,[]⟩],z:=r.z+1} j/\V3 j wr.heap.size (V C (d:Int)) (V C e) (W none 0 0)))
 case first=>
  go_region_law (first
   |(refine Cy Aaj (am.out.alloc _) (Adp a _) (m:=1) (c:=1) (s:=.tmp 14) (x:=.tmp 16) (by simp[Aef];done) (by simp[Aef];done) rfl rfl rfl (by intro aP ai;simp at ai;rcases ai with rfl|rfl|rfl<;>rfl) (by omega) (by omega) ?_;intro a7 az k o;obtain⟨ac,ad,a5,a6⟩:=al.out _ _ _ (by first|exact ab.out _|exact(ab.out _).drew) o;have an:=hid (And.intro ac ad);clear o ac ad))
  all_goals
   go_wp2_with fail
   go_meet
   exact an
 case rest=>
  rename Q=>j
  obtain⟨a0,aK,k0,N,O,U,Y,v⟩:=hcut.out.1.k;have aI:=v 3;obtain⟨I,L,M,-⟩:=id hcut.out.2;have a1:j.drew.cell? ⟨c.K,3,none⟩=_:=U;have a2:j.drew.cell? ⟨wr.heap.size,0,none⟩=_:=I;have a3:j.drew.cell? ⟨wr.heap.size,1,none⟩=_:=L;have a4:j.drew.cell? ⟨wr.heap.size,2,none⟩=_:=M;clear v k0 N O Y;go_wp2_with fail
  go_region_with ((go_at_call 141;refine(hid (Po d e r.AB (W none 0 0) j.drew aq (hcut.out.1.he ao))).out.mono ?_;rintro E av ⟨rfl,ae⟩;have aa:=hid (hcut.out.1.cJ (w1:=av) ((Acv _ j).drew.trans ae));obtain⟨-,-,-,-,-,aL,-,ak⟩:=aa.out.k;have aM:=ak 3;clear ae ak))
  all_goals(try go_wp2)
  all_goals exact bF ⟨rfl,aa.out.fD _⟩ (by simp) rfl rfl
theorem UY{g:Type}(a:Pr wd)(c:wd->Nat->Pr ve)(d:ve->Nat->Pr g):pb (pb a c) d=pb a λb f=>pb (c b f) d:=by
 match a with
 |P e=>rfl
 |.ok (b,f)=>rfl
abbrev ZG(a:BT):Nat×Av×Ex:=(a.1,a.2.2.1,a.2.2.2.2.1)
def EI(b:ByteArray)(d:Nat->Pr Ex)(a:List (Nat×Av×Ex))(c:Nat):Pr (List (Nat×Av×Ex)):=if a≠[]/\Ag b c=Ae then .ok (a,Bi b c) else C4 b d (b.size+1-a.length) a c
theorem Qg(a:wq≠[]/\Ag s w=Ae):EI s nw wq w=.ok (wq,Bi s w):=by unfold EI;rw[if_pos a]
theorem Rk(a:List (Nat×Av×Ex))(b:Nat):(a.any (λc=>decide (c.1=b))=true)↔b∈a.map (·.1):=by
 simp
theorem R0(g:wq.length<=s.size)(d:¬(wq≠[]/\Ag s w=Ae)):EI s nw wq w=pb (Qw s nw (wq.map (·.1)) w) λb c=>EI s nw (wq++[b]) c:=by
 unfold EI;rw[if_neg d,show s.size+1-wq.length=(s.size-wq.length)+1 by omega,C4];unfold Qw;match Al s Ax w with
 |P e=>rfl
 |.ok ((),q1)=>
  simp only[Ai];match Bt s 255 q1 with
  |P e=>rfl
  |.ok (x,q2)=>
   simp only[Ai];by_cases a:wq.any (λb=>decide (b.1=x.1))=true
   ·rw[if_pos a,if_pos ((Rk wq x.1).1 a)];rfl
   ·rw[if_neg a,if_neg (λf=>a ((Rk wq x.1).2 f))];match Be s q2 with
    |P e=>rfl
    |.ok (ns,q3)=>
     simp only[Ai];match nw q3 with
     |P e=>rfl
     |.ok (e,q4)=>
      simp only[Ai];match Al s Ae q4 with
      |P e=>rfl
      |.ok ((),c)=>
       simp only[Ai];simp
theorem JU(c:ByteArray)(a:Nat->Pr Ex)(b:Nat):Da c a b=pb (a b) λd f=>pb (EI c a [] f) λe g=>.ok (.case d e,g):=rfl
structure It (e l:Nat) (h:ByteArray) (o:X) (p m:Nat) (k q wr:Q) (d f:Nat) (n:X) (a:List BT) (g:Nat) (j:Option Addr) (i:Nat):Prop where
 hq:g<=h.size
 ps:PS wr e l h g o p
 row:Rm (Of (PX (m+1))) wr (f+1) (W j a.length i) a
 c:V2 wr d n (W j a.length i)
 seen:B2 wr f (a.map (·.1))
 ef:EF e k wr
 len:a.length<=g
 hC:k.heap.size<=d
 hS:d<f
 R1:∀b,b<d->b≠e->wr.heap[b]?=q.heap[b]?
theorem It.below{f g:Nat}{o:ByteArray}{k:X}{m i:Nat}{r t wr s:Q}{e d:Nat}{j:X}{u:List BT}{n:Nat}{q:Option Addr}{p:Nat}(a:It f g o k m i r t wr e d j u n q p)(b:Below wr.heap.size wr s):It f g o k m i r t s e d j u n q p:=
 ⟨a.hq,a.ps.below b,a.row.cJ (D0 (Ch _)) b,a.c.cJ b,a.seen.cK (b.block d a.seen.lt),a.ef.trans (EF.cI b),a.len,a.hC,a.hS,λh l v=>by rw[b.block h (Nat.lt_trans l a.c.lt)];exact a.R1 h l v⟩
theorem It.push{l n:Nat}{u:ByteArray}{w:X}{y p:Nat}{v w1 wr d m:Q}{h j:Nat}{E:X}{c:List BT}{M t:Nat}{B:Option Addr}{z:Nat}{x:BT}{s:Obj}(a:It l n u w y p v w1 wr h j E c M B z)(aj:l<v.heap.size)(ak:n<v.heap.size)(af:M+1<=t/\t<=u.size)(e:Eo l j wr d)(Y:PS d l n u t w y)(ag:B2 d j (c.map (·.1)++[x.1]))(ah:Of (PX (p+1)) d x)(r:CT wr.heap.size d (ZH x))(k:(d.alloc s).grownBy m (W B c.length z).ownBlock){i o:Nat}(ab:(W B c.length z).ownBlock=some i\/i=(d.alloc s).heap.size)(ac:i<m.heap.size)(ae:m.ownsRow 0 240 3 (W (some ⟨i,0,none⟩) (c.length+1) o) (c.length+1) (c.flatMap VZ++VZ x)):
 It l n u w y p v w1 (m.setCell ⟨h,1,none⟩ (W (some ⟨i,0,none⟩) (c.length+1) o)) h j E (c++[x]) t (some ⟨i,0,none⟩) o:=by
 have I:(c++[x]).length=c.length+1:=by simp
 have am:=λb g=>(a.row.rg b (Acw _ (Ah.2 g))).1;have O:=a.hS;have G:=a.hC;have U:=Ac2 a.c.lt e.size;have aa:=Ac2 a.seen.lt e.size;have al:=a.len;have g:Below d.heap.size d (d.alloc s):=bA;have ai:=D0 (Ch _) _ _ _ ah g.size λb f=>g.block b (r.2 b f).2;have L:Rm (Of (PX (p+1))) m (j+1) (W (some ⟨i,0,none⟩) (c.length+1) o) (c++[x]):=by
  refine a.row.push (D0 (Ch _)) (by have:=a.seen.lt;omega) (λb f=>?_) (Ac5 e.size g.size) ai (λb f=>⟨(r.2 b f).1,Ac2 (r.2 b f).2 g.size⟩) r.1 k rfl ab ac ae;have q:=a.row.rg b f;rw[Ad3 d s (Ac2 q.2 e.size)];exact e.block b q.2 (by omega) (by omega)
 refine⟨af.2,?_,?_,?_,?_,?_,by omega,G,O,λb f K=>?_⟩
 ·refine(Y.push (λb g=>⟨by grind,by grind⟩) k).dc (by omega) (by omega)
 ·rw[I];refine L.fr (D0 (Ch _)) (by simp) (U8 (Fr.refl _ _) λad=>?_);have:=(L.rg h ad).1;omega
 ·rw[I];have q:=a.c.cK (e.block h a.c.lt (by omega) (by omega));have N:=q.cK (Bz k U (λD=>by grind));exact N.db _
 ·rw[Adq];refine ag.cK ?_;rw[Ac4 _ _ _ _ (show j≠h by omega)];exact Bz k aa (λD=>by grind)
 ·exact EJ (Mi (e.ef a.ef (by omega)) (λb g=>by grind) k) G
 ·have H:=Nat.lt_trans f a.c.lt;rw[Ac4 _ _ _ _ (show b≠h by omega),Bz k (Ac2 H e.size) (λD=>by grind),e.block b H K (by omega)];exact a.R1 b f K
theorem Tryz.e8:(Acs.info? 240).map (λa=>(a.zero,a.size,a.bytes))=some (some (T #[V C 0,W none 0 0,.nilIface]),3,48):=by kernel_rfl
theorem Y4(l:v<=s.size)(a:Qw s (pE s w) t v=.ok (ss,b)):v+1<=b/\b<=s.size:=by
 let ⟨r,c,g,a⟩:=Ac a
 have m:=Aj (by decide) v l r c g;let ⟨u,d,h,a⟩:=Ac a
 have n:=B7 c m.2 u d h;split at a
 ·cases a
 ·let ⟨x,e,i,a⟩:=Ac a
  have o:=BU d n.2 x e i;let ⟨y,f,j,a⟩:=Ac a
  have p:=Dq s w e o.2 y f j;let ⟨z,q,k,a⟩:=Ac a
  have B:=Aj (by decide) f p.2 z q k;cases a;omega
end Go.Proofs.YtnghccjoicmabaaGreatDoor
