import Derived.Test.YtpkbnogifdlcmaaGreatDoorRiJ
import Derived.Lib.ItoaNum
import Derived.Laws.BytesArg
set_option linter.unusedSimpArgs false
open Go renaming Value->X
open Go.IntKind renaming i64->C
open Go.Proofs.Tryz renaming prog->Aa,underlying9->Awz
open Go.RowKit renaming wrap64->Bf
open Go.Value renaming agg->T,int->V,string->S
open List renaming length->L,range->AV
open Option renaming none->N,some->I
open Or renaming inl->Be,inr->Axf
namespace Go.Proofs.YtpkbnogifdlcmaaGreatDoor
open Go.RowKit Go.Sort Go.Proofs.Tryz
variable{w s b:Nat}{sq:Cb}{wi xg:List Int}{D nf sx:Int}{i:List Bx}{wx:Nat->Nat->Int}{wv:BJ}{nv:List Cb}{nk:Prop}{o va:List UInt8}{n:World}{p:Value}{H:List BD}{w1:BD}{wl:List BJ}{vp:Nat->Int}
structure Iq where
 s:List Int
 g:Int
 at_:Int
structure BE where
 cells:List Cb
 Bk:Iq
 BR:List Iq
 fuel:Int
 spare:Int
 BB:Int
 Bt:Int
 used:Int
 B5:Bool
def B0(b:Int)(a:BE):BE:=if a.B5 then a else {a with B5:=true,BB:=b}
def Ct(a:List Int)(b:BE):BE:={b with Bk:={b.Bk with s:=a}}
def Dt(a:BE):Bool:=!a.B5 && decide (a.Bt≠a.fuel)
def DO(a:BE):BE:=if a.Bt=a.fuel then B0 1 a else if a.B5 then a else {a with Bt:=a.Bt+1}
def Da(b:Int)(a:BE):Bool:=decide (a.used+b<=a.spare)
def DJ(b:Int)(a:BE):BE:=if Da b a then {a with used:=a.used+b} else B0 2 a
def Aq3(b:Cb)(a:BE):BE:={a with cells:=a.cells++[b]}
def Ff(b:Cb)(a:BE):BE:=Ct (a.Bk.s++[(L a.cells:Int)]) (Aq3 b a)
def LQ(d:Int)(e:List Int)(c b:Cb)(a:BE):BE:=
 if c.BB≠1\/b.BB≠1 then B0 3 a else if PG d b.n=false then B0 6 a else if Da 1 a=false then B0 2 a else Ff (Gh d c.n b.n) (Ct e (DJ 1 a))
def C5(b:List Bx)(a:Int):Bx:=(b[a.toNat]?).getD ⟨⟨#[]⟩,0,false,[]⟩
def B9(b:BE)(a:Int):Cb:=(b.cells[a.toNat]?).getD ⟨0,0,0,0,[]⟩
def FE(b:List Bx)(a:BE):BJ:=((C5 b a.Bk.g).Bj[a.Bk.at_.toNat]?).getD ⟨0,0,[]⟩
abbrev AR:=BE×Option Int
def Lz(a:Nat)(b:BE):List Int:=(b.Bk.s.drop (L b.Bk.s-1-a)).take a
def Jv(e:List Bx)(d:Int)(a:BE):BE:=
 let c:=(C5 e d).BH.toNat
 if (Lz c a).all (λb=>decide ((B9 a b).BB=2)) then {a with Bk:=⟨C7 (λb=>(B9 a b).right) a.Bk.s c,d,0⟩} else B0 3 a
def G6(b:Int)(a:BE):AR:=match a.BR.getLast? with
 |none=>(a,I b)
 |some f=>({a with Bk:={f with s:=f.s++[b]},BR:=a.BR.dropLast},N)
def FA(c:List Bx):Nat->BE->AR
 |0,st=>(DO st,N)
 |n+1,st=>
  if Dt st then
   let b:BE:={st with Bt:=st.Bt+1}
   let d:=(st.Bk.s.getLast?).getD 0
   let a:=B9 st d
   if a.BB=5 then FA c n (Ct (st.Bk.s.dropLast++[a.left]) b)
   else if a.BB=2 then FA c n (Ct (st.Bk.s++[a.left]) b)
   else if a.BB=0 then (B0 7 b,N)
   else if a.BB=4 then
    if (C5 c a.n).BH<(L st.Bk.s:Int) then (Jv c a.n b,N) else G6 (st.Bk.s.headD 0) b
   else if 1<L st.Bk.s then (B0 5 b,N)
   else G6 d b
  else (DO st,N)
def IJ(b:List Bx)(a:BE):AR:=FA b (a.fuel-a.Bt).toNat a
def GS:Nat->BE->BE
 |0,st=>st
 |n+1,st=>Ff ⟨0,0,0,0,[]⟩ (GS n st)
def KG(d:List Co)(a:BE):BE:=
 let c:=B9 a ((a.Bk.s.getLast?).getD 0)
 if c.BB≠3 then B0 3 a else match d.find? (λb=>decide (b.tag=c.n)) with
  |some b=>{a with Bk:={a.Bk with at_:=b.BU}}
  |none=>B0 4 a
def KT(c:Int)(a:BE):BE:=
 let b:=B9 a ((a.Bk.s.getLast?).getD 0)
 if b.BB≠3\/(L b.BX:Int)≠c then B0 3 a else Ct (a.Bk.s.dropLast++b.BX) a
def CL(b:BJ)(a:BE):BE:=
 let c:=a.Bk.s
 let d:=L c
 let e:=b.a.toNat
 if b.op=0 then (if Da 1 a then Ff ⟨1,b.a,0,0,[]⟩ (DJ 1 a) else B0 2 a)
 else if b.op=1 then Ct (c++[b.a]) a
 else if b.op=2 then Ct (c++[(c[d-1-e]?).getD 0]) a
 else if b.op=3 then (if Da 1 a then Ff ⟨2,0,(c[d-1]?).getD 0,(c[d-2]?).getD 0,[]⟩ (Ct (c.take (d-2)) (DJ 1 a)) else B0 2 a)
 else if b.op=4 then Ct (c.take (d-1-e)++[(c[d-1]?).getD 0]) a
 else if b.op=5 then Ct (c.take (d-1)) {a with cells:=a.cells.set ((c[d-2-e]?).getD 0).toNat ⟨5,0,(c[d-1]?).getD 0,0,[]⟩}
 else if b.op=6 then Ct (c.take (d-e)) a
 else if b.op=7 then (if Da b.a a then GS e (DJ b.a a) else B0 2 a)
 else if b.op=15 then (if Da 1 a then Ff ⟨3,b.a / 256,0,0,c.drop (d-(b.a % 256).toNat)⟩ (Ct (c.take (d-(b.a % 256).toNat)) (DJ 1 a)) else B0 2 a)
 else if b.op=16 then KT b.a a
 else if b.op=17 then KG b.alts a
 else if b.op=18 then {a with Bk:={a.Bk with at_:=b.a}}
 else if b.op=20 then B0 4 a
 else LQ b.op (c.take (d-2)) (B9 a ((c[d-2]?).getD 0)) (B9 a ((c[d-1]?).getD 0)) a
def BN(a:BE):BE:={a with Bt:=a.Bt+1,Bk:={a.Bk with at_:=a.Bk.at_+1}}
def Hp(a:BE):BE:={a with BR:=a.BR++[{a.Bk with s:=a.Bk.s.dropLast}],Bk:=⟨[(a.Bk.s.getLast?).getD 0],0,0⟩}
def D6(b:List Bx)(a:BE):AR:=
 if Dt a then
  let c:=FE b a
  if c.op=19 then IJ b (BN a) else if c.op=8 then IJ b (Hp (BN a)) else (CL c (BN a),N)
 else (DO a,N)
def E0(a:List Bx):Nat->AR->AR
 |0,r=>r
 |n+1,(st,N)=>if st.B5 then (st,N) else E0 a n (D6 a st)
 |_+1,(st,I v)=>(st,I v)
def I6(a:Int)(b:BE):BE:={b with Bk:=⟨[a],0,0⟩,BR:=[]}
def CT(b:List Bx)(c:Int)(a:BE):AR:=E0 b ((a.fuel-a.Bt).toNat+1) (IJ b (I6 c a))
structure FK (c b:Nat) (a:Cb):Prop where
 k:0<=a.BB/\a.BB<=5:=by simp
 l:a.BB=5\/a.BB=2->0<=a.left/\a.left<(b:Int):=by simp
 r:a.BB=2->0<=a.right/\a.right<(b:Int):=by simp
 g:a.BB=4->0<=a.n/\a.n<(c:Int):=by simp
 f:∀r∈a.BX,0<=r/\r<(b:Int):=by simp
 fl:(L a.BX)<=255:=by simp
 n:-9223372036854775808<=a.n/\a.n<=9223372036854775807:=by simp
def CN(b:Nat)(c:List Int):Prop:=∀a∈c,0<=a/\a<(b:Int)
theorem FK.mono(a:FK w s sq)(h:s<=b):FK w b sq:=
 ⟨a.k,λc=>by have:=a.l c;omega,λc=>by have:=a.r c;omega,a.g,λe d=>by have:=a.f e d;omega,a.fl,a.n⟩
theorem CN.mono(a:CN w wi)(d:w<=s):CN s wi:=λc b=>by have:=a c b;omega
theorem CN.b1(b:CN w wi)(d:CN w xg):CN w (wi++xg):=λa c=>(Ag.1 c).elim (b a) (d a)
theorem CN.one(a:0<=D/\D<(w:Int)):CN w [D]:=λc b=>O6
theorem CN.take(a:CN w wi)(c:Nat):CN w (wi.take c):=λr b=>a r (Ay6 b)
theorem CN.drop(a:CN w wi)(n:Nat):CN w (wi.drop n):=λc b=>a c (Az6 b)
theorem CN.at(b:CN w wi){i:Nat}(a:i<L wi):0<=(wi[i]?).getD 0/\(wi[i]?).getD 0<(w:Int):=by
 rw[Af a];exact b _ (Ao a)
structure Dz (b:List Bx) (c:Nat->Nat->Int):Prop where
 Q9:(L b)<=200000
 ar:∀g (h:g<L b),0<=b[g].BH/\b[g].BH<=20
 Bj:∀g (h:g<L b),Nz b[g].Bj b[g].BH (c g)
 Ly:∀g (h:g<L b),∀i∈b[g].Bj,(i.op=1->0<=i.a/\i.a<(L b:Int))/\-9223372036854775808<=i.a/\i.a<=9223372036854775807
structure ZE (e:List Bx) (c:Nat->Nat->Int) (b:Iq) (f:Nat):Prop where
 g:0<=b.g/\b.g<(L e:Int)
 a:0<=b.at_/\b.at_.toNat<(C5 e b.g).Bj.length
 d:0<=c b.g.toNat b.at_.toNat/\c b.g.toNat b.at_.toNat<=(f:Int)
structure D4 (b:List Bx) (a:BE):Prop where
 cells:∀x∈a.cells,FK (L b) (L a.cells) x
 nc:(L a.cells:Int)=(L b:Int)+a.used
 Bt:0<=a.Bt/\a.Bt<=a.fuel
 fuel:a.fuel<=2000000
 used:0<=a.used/\a.used<=a.spare
 spare:a.spare<=2000000
 live:a.B5=false
def flat(a:BE):List Int:=a.BR.flatMap (·.s)
structure St (c:List Bx) (d:Nat->Nat->Int) (a:BE):Prop where
 b:D4 c a
 s:CN (L a.cells) a.Bk.s
 ds:∀f∈a.BR,CN (L a.cells) f.s/\ZE c d f (L f.s+1)
 size:((flat a).length:Int)+(L a.Bk.s:Int)<=256*(a.Bt+1)+a.used
 dl:(L a.BR:Int)<=a.Bt
structure Fk (d:List Bx) (c:Nat->Nat->Int) (a:BE):Prop extends St d c a where
 ne:0<L a.Bk.s
structure FR (d:List Bx) (c:Nat->Nat->Int) (a:BE):Prop extends St d c a where
 f:ZE d c a.Bk (L a.Bk.s)
def FG(c:List Bx)(d:Nat->Nat->Int)(b:BE)(a:AR):Prop:=
 (a.1.fuel=b.fuel/\a.1.spare=b.spare/\b.Bt<=a.1.Bt)/\match a.2 with
 |some v=>D4 c a.1/\0<=v/\v<(L a.1.cells:Int)
 |none=>if a.1.B5 then a.1.BB≠0 else FR c d a.1
variable{c:BE}
theorem NX(e:D4 i c){a:Int}(f:0<=a/\a<(L c.cells:Int)):∃b,B9 c a=c.cells[a.toNat]/\FK (L i) (L c.cells) (B9 c a):=by
 have b:a.toNat<L c.cells:=O1;have d:B9 c a=c.cells[a.toNat]:=by unfold B9;grind
 exact⟨b,d,by rw[d];exact e.cells _ (Ao b)⟩
theorem Rt(b:0<=D/\D<(L i:Int)):∃a,C5 i D=i[D.toNat]:=by
 have a:D.toNat<L i:=O1;exact⟨a,by unfold C5;grind⟩
theorem Fk.dD(a:Fk i wx c):0<=(c.Bk.s.getLast?).getD 0/\(c.Bk.s.getLast?).getD 0<(L c.cells:Int):=by
 rw[Ayx];exact a.s.at (by have:=a.ne;omega)
variable{si:BE}
theorem Mj{gs:List Bx}{D:Nat->Nat->Int}(a:Int)(h:a≠0)(d:si.B5=false)(e:si.fuel=c.fuel)(f:si.spare=c.spare)(g:c.Bt<=si.Bt):FG gs D c (B0 a si,N):=by
 have b:B0 a si={si with B5:=true,BB:=a}:=by unfold B0;rw[d];rfl
 rw[b];exact⟨⟨e,f,g⟩,h⟩
theorem Hm(a:D4 i c):(Dt c=false↔c.Bt=c.fuel)/\(Dt c=false->DO c=B0 1 c):=by
 have b:=a.live;unfold Dt DO;grind
theorem Yf(b:List Iq)(a:Iq):((b++[a]).flatMap (·.s))=b.flatMap (·.s)++a.s:=O2
theorem RN{l:List Iq}{f:Iq}(a:Int)(b:c.BR=l++[f]):G6 a c=({c with Bk:={f with s:=f.s++[a]},BR:=l},N):=by
 unfold G6;rw[b];simp
theorem Qd(a:Int)(b:c.BR=[]):G6 a c=(c,I a):=by
 unfold G6;rw[b];rfl
theorem Yc(e:Fk i wx c){h:Int}(k:0<=h/\h<(L c.cells:Int)):FG i wx c (G6 h c):=by
 rcases Ax6 c.BR with f|⟨r,l,f⟩
 ·rw[Qd h f];exact⟨⟨rfl,rfl,Ayu _⟩,e.b,k⟩
 ·rw[Az3]at f;rw[RN h f];refine⟨⟨rfl,rfl,Ayu _⟩,?_⟩;have j:=e.ds l (by rw[f];simp);have m:=e.size;have o:=e.dl;have p:=e.ne;rw[e.b.live];refine⟨⟨⟨e.b.cells,e.b.nc,e.b.Bt,e.b.fuel,e.b.used,e.b.spare,rfl⟩,j.1.b1 (CN.one k),λn q=>e.ds n O6,?_,?_⟩,⟨j.2.g,j.2.a,?_⟩⟩
  ·unfold flat at m ⊢;grind
  ·grind
  ·have:=j.2.d;grind
theorem Aqc(e:Dz i wx){d:BE}(a:Fk i wx d){c:Int}(h:0<=c/\c<(L i:Int))(m:(C5 i c).BH<(L d.Bk.s:Int)):FG i wx d (Jv i c d,N):=by
 let ⟨f,g⟩:=Rt h
 let ⟨t,u⟩:=e.ar _ f
 unfold Jv;rw[g]at m ⊢;simp only;split
 ·rename_i n
  refine⟨⟨rfl,rfl,Ayu _⟩,?_⟩;rw[a.b.live];have q:=RA (λl=>(B9 d l).right) d.Bk.s i[c.toNat].BH.toNat O1;have w:=a.size;refine⟨⟨⟨a.b.cells,a.b.nc,a.b.Bt,a.b.fuel,a.b.used,a.b.spare,rfl⟩,?_,a.ds,?_,a.dl⟩,⟨h,⟨O2,?_⟩,?_⟩⟩
  ·refine(a.s.take _).b1 λl r=>?_;obtain⟨k,j,rfl⟩:=AE.1 r;have p:=Axk.1 n k j;obtain⟨v,-,o⟩:=NX a.b (a.s k (Az6 (Ay6 j)));exact o.r (by simpa using p)
  ·show((flat d).length:Int)+((C7 _ _ _).length)<=_;grind
  ·rw[g];exact(e.Bj _ f).pos
  ·show 0<=wx c.toNat 0/\wx c.toNat 0<=((C7 _ _ _).length);rw[(e.Bj _ f).start,q];omega
 ·exact Mj 3 nofun a.b.live rfl rfl (Ayu _)
variable{se:AR}
theorem FG.after(a:FG i wx si se)(b:si.fuel=c.fuel)(d:si.spare=c.spare)(e:c.Bt<=si.Bt):FG i wx c se:=
 ⟨⟨a.1.1.trans b,a.1.2.1.trans d,Int.le_trans e a.1.2.2⟩,a.2⟩
theorem Fk.cj(a:Fk i wx c)(k:c.Bt≠c.fuel){s:List Int}(e:CN (L c.cells) s)(d:0<L s)(j:(L s)<=L c.Bk.s+256):Fk i wx (Ct s {c with Bt:=c.Bt+1}):=by
 have f:=a.b.Bt;have g:=a.size;have h:=a.dl;exact⟨⟨⟨a.b.cells,a.b.nc,by show 0<=c.Bt+1/\c.Bt+1<=c.fuel;omega,a.b.fuel,a.b.used,a.b.spare,a.b.live⟩,e,a.ds,by show((flat c).length)+L s<=256*(c.Bt+1+1)+c.used;omega,by show L c.BR<=c.Bt+1;omega⟩,d⟩
theorem Ku{d:List Bx}{f:Nat->Nat->Int}(j:Dz d f):∀(c:Nat) {a:BE},Fk d f a->(a.fuel-a.Bt).toNat=c->FG d f a (FA d c a)
 |0,a,h,hn=>by
  have n:=h.b.Bt;have hb:=(Hm h.b).1.2 O1;rw[FA,(Hm h.b).2 hb];exact Mj 1 nofun h.b.live rfl rfl (Ayu _)
 |c+1,a,h,hn=>by
  have n:=h.b.Bt;have i:a.Bt≠a.fuel:=O1;have hb:Dt a=true:=by
   cases hb:Dt a with
   |true=>rfl
   |false=>exact absurd ((Hm h.b).1.1 hb) i
  obtain⟨r,q,m⟩:=NX h.b h.dD;have k:Fk d f {a with Bt:=a.Bt+1}:=h.cj i (s:=a.Bk.s) h.s h.ne O1;rw[FA,if_pos hb];simp only;have p:CN (L a.cells) a.Bk.s.dropLast:=by rw[Ayz];exact h.s.take _
  split
  ·rename_i e
   have:=h.cj i (s:=a.Bk.s.dropLast++[(B9 a ((a.Bk.s.getLast?).getD 0)).left]) (p.b1 (CN.one (m.l (Be e)))) O2 O5;exact(Ku j c this (by show(a.fuel-(a.Bt+1)).toNat=c;omega)).after rfl rfl (by show a.Bt<=a.Bt+1;omega)
  ·split
   ·rename_i e
    have:=h.cj i (s:=a.Bk.s++[(B9 a ((a.Bk.s.getLast?).getD 0)).left]) (h.s.b1 (CN.one (m.l (Axf e)))) O2 O2;exact(Ku j c this (by show(a.fuel-(a.Bt+1)).toNat=c;omega)).after rfl rfl (by show a.Bt<=a.Bt+1;omega)
   ·split
    ·exact Mj 7 nofun h.b.live rfl rfl O6
    ·split
     ·rename_i e
      split
      ·rename_i o
       exact(Aqc j k (m.g e) o).after rfl rfl O6
      ·refine(Yc k ?_).after rfl rfl O6;have:=h.s.at h.ne;rw[List.headD_eq_head?_getD,List.head?_eq_getElem?];omega
     ·split
      ·exact Mj 5 nofun h.b.live rfl rfl O6
      ·exact(Yc k h.dD).after rfl rfl O6
structure Mv (e:List Bx) (i:Nat->Nat->Int) (c:BE) (b:BJ) (d:Int):Prop where
 eq:FE e c=b
 mem:∃g,∃h:g<L e,b∈e[g].Bj
 f:OS b
 de:d=i c.Bk.g.toNat c.Bk.at_.toNat
 dl:0<=d/\d<=(L c.Bk.s:Int)/\d<=1000
 w:GJ b.op.toNat b.a d=false
 nx:∀k∈JY b c.Bk.at_.toNat,k<(C5 e c.Bk.g).Bj.length/\i c.Bk.g.toNat k=d+C8 b.op.toNat b.a/\0<=i c.Bk.g.toNat k
 gl:(b.op=1->0<=b.a/\b.a<(L e:Int))/\-9223372036854775808<=b.a/\b.a<=9223372036854775807
theorem Ol(l:Dz i wx)(b:FR i wx c):Mv i wx c (FE i c) (wx c.Bk.g.toNat c.Bk.at_.toNat):=by
 let ⟨h,p⟩:=Rt b.f.g
 have s:=b.f.a.2;have e:=b.f.d;have n:=l.Bj _ h;have t:FE i c=(C5 i c.Bk.g).Bj[c.Bk.at_.toNat]:=by unfold FE;grind
 have m:=s;rw[p]at m;have o:FE i c=i[c.Bk.g.toNat].Bj[c.Bk.at_.toNat]:=O6;have j:FE i c∈i[c.Bk.g.toNat].Bj:=O6;let ⟨q,k,r⟩:=n.go _ m e.1
 rw[<-o]at k r;refine⟨rfl,⟨_,h,j⟩,n.ins _ j,rfl,⟨e.1,e.2,q⟩,k,λv u=>?_,l.Ly _ h _ j⟩;grind
theorem NO(a:GJ w D nf=false):DC w D<=nf/\(w=19->nf=1):=by
 simp only[GJ,Bool.or_eq_false_iff,Azm,decide_eq_false_iff_not,beq_eq_false_iff_ne,bne_eq_false_iff_eq]at a;omega
theorem Pu(a:wv.op≠17/\wv.op≠18/\wv.op≠19/\wv.op≠20)(b:0<=D):(D+1).toNat∈JY wv D.toNat:=by
 unfold JY;grind
theorem Sj(a:FR i wx c):(BN c).B5=false/\(BN c).fuel=c.fuel/\(BN c).spare=c.spare/\c.Bt<=(BN c).Bt:=⟨a.b.live,rfl,rfl,by show c.Bt<=c.Bt+1;omega⟩
theorem MU(l:Mv i wx c wv D)(d:FR i wx c)(G:c.Bt≠c.fuel)(e:List Cb)(f j:Int)(h:List Int)(p:j.toNat∈JY wv c.Bk.at_.toNat)(n:0<=j)(o:∀v∈e,FK (L i) (L e) v)(s:CN (L e) h)(r:(L e:Int)=(L i:Int)+f:=by first|omega|(simp<;>omega))(H:c.used<=f/\f<=c.spare:=by omega)(hl:(L h:Int)=(L c.Bk.s:Int)+C8 wv.op.toNat wv.a:=by simp[C8]<;>omega)(K:(L h:Int)<=(L c.Bk.s:Int)+256+(f-c.used):=by simp<;>omega):
 FG i wx c ({c with Bt:=c.Bt+1,cells:=e,used:=f,Bk:=⟨h,c.Bk.g,j⟩},N):=by
 let ⟨t,M,u⟩:=l.nx _ p
 have w:=d.b.Bt;have x:=d.b.used;have y:=d.b.nc;have z:=d.size;have B:=d.dl;have E:=l.dl;have q:(L c.cells)<=L e:=O1;refine⟨⟨rfl,rfl,O6⟩,?_⟩;rw[d.b.live];refine⟨⟨⟨o,r,O6,d.b.fuel,O6,d.b.spare,rfl⟩,s,λk m=>⟨(d.ds k m).1.mono q,(d.ds k m).2⟩,?_,?_⟩,⟨d.f.g,⟨n,t⟩,⟨u,?_⟩⟩⟩
 ·show((flat c).length)+L h<=256*(c.Bt+1+1)+f;omega
 ·grind
 grind
theorem L3(a:Da D c=true):c.used+D<=c.spare/\DJ D c={c with used:=c.used+D}:=by
 refine⟨by simpa[Da]using a,?_⟩;unfold DJ;rw[if_pos a]
theorem Apb(c:∀a∈nv,FK w (L nv) a)(d:FK w (L nv+1) sq):∀a∈nv++[sq],FK w (nv++[sq]).length a:=by
 intro a b;rw[Aw,Azl];rcases Ag.1 b with b|b
 ·exact(c a b).mono O1
 grind
theorem Q2(b:Cb)(a:BE):Ff b a={a with cells:=a.cells++[b],Bk:={a.Bk with s:=a.Bk.s++[(L a.cells:Int)]}}:=rfl
theorem R7(g:Mv i wx c wv D)(d:FR i wx c)(h:c.Bt≠c.fuel){x:Cb}{s:List Int}(k:CN (L c.cells) s)(m:FK (L i) (L c.cells+1) x)(j:wv.op≠17/\wv.op≠18/\wv.op≠19/\wv.op≠20:=by simp)(hl:(L s:Int)+1=(L c.Bk.s:Int)+C8 wv.op.toNat wv.a:=by simp[C8]<;>omega)(u:(L s)<=L c.Bk.s:=by simp):
 FG i wx c (if Da 1 (BN c) then Ff x (Ct s (DJ 1 (BN c))) else B0 2 (BN c),N):=by
 cases hr:Da 1 (BN c) with
 |false=>
  let ⟨n,o,p,q⟩:=Sj d
  exact Mj 2 nofun n o p q
 |true=>
  let ⟨l,e⟩:=L3 hr
  have t:c.used+1<=c.spare:=l;rw[e,Q2];have r:=d.b.nc;have:=d.f.a.1;exact MU g d h (c.cells++[x]) (c.used+1) (c.Bk.at_+1) (s++[(L c.cells:Int)]) (Pu j this) O1 (Apb d.b.cells m) (by rw[Aw,Azl];exact(k.mono O1).b1 (CN.one O1)) (hl:=by simp;omega)
theorem Pn(g:Mv i wx c wv D)(d:FR i wx c)(j:c.Bt≠c.fuel){e:List Int}(l:CN (L c.cells) e)(k:wv.op≠17/\wv.op≠18/\wv.op≠19/\wv.op≠20:=by simp)(h:(L e:Int)=(L c.Bk.s:Int)+C8 wv.op.toNat wv.a:=by simp[C8]<;>omega)(m:(L e)<=L c.Bk.s+256:=by simp<;>omega):
 FG i wx c (Ct e (BN c),N):=
 MU g d j c.cells c.used (c.Bk.at_+1) e (Pu k d.f.a.1) (by have:=d.f.a.1;omega) d.b.cells l d.b.nc ⟨Ayu _,d.b.used.2⟩ h O1
theorem Ath(b a:Nat):FK b a ⟨0,0,0,0,[]⟩:={}
theorem MB:∀b a,GS b a={a with cells:=a.cells++List.replicate b ⟨0,0,0,0,[]⟩,Bk:={a.Bk with s:=a.Bk.s++(AV b).map λc=>((L a.cells+c:Nat):Int)}}
 |0,a=>by simp[GS]
 |b+1,a=>by
  rw[GS,MB b a,Q2];simp[List.replicate_succ',Az0]
theorem Av2(c b d:Int):-9223372036854775808<=Mg c b d/\Mg c b d<=9223372036854775807:=by
 have e:∀a:Int,-9223372036854775808<=Bf a/\Bf a<=9223372036854775807:=λa=>by unfold Bf;omega
 unfold Mg;grind
theorem Aff:FK w s (Gh D nf sx):={k:=by unfold Gh;grind,l:=by unfold Gh;grind,r:=by unfold Gh;grind,g:=by unfold Gh;grind,f:=nofun,fl:=by simp[Gh],n:=Av2 _ _ _}
theorem Aek{gs:List Bx}{D:Nat->Nat->Int}(ah:Dz gs D)(e:FR gs D c)(j:c.Bt≠c.fuel)(q:(FE gs c).op≠19)(y:(FE gs c).op≠8):FG gs D c (CL (FE gs c) (BN c),N):=by
 have h:=Ol ah e;revert h q y;generalize FE gs c=i;generalize D c.Bk.g.toNat c.Bk.at_.toNat=d;intro q y h;obtain⟨u,ia,ar⟩:=i;obtain⟨⟨a2,a3⟩,-⟩:=h.f;obtain⟨t,rfl⟩:∃t:Nat,u=(t:Int):=⟨u.toNat,O6⟩;have U:t<21:=O6;obtain⟨v,B,E,G,ac,ad⟩:=U8 h.f rfl U;obtain⟨ab,aq⟩:=NO h.w;obtain⟨au,av,aw⟩:=h.dl;obtain⟨K,M⟩:=h.gl;have ay:=e.b.nc;have a1:=e.b.used;obtain⟨al,am,an,ao⟩:=Sj e;have r:=λz ai=>Mj (D:=D) (gs:=gs) z ai al am an ao;have O:=e.f.a.1;have H:(BN c).Bk.s=c.Bk.s:=rfl;have af:(BN c).cells=c.cells:=rfl;simp only at q y v B E G ac ad ab aq K M;rcases Nd t U with rfl|rfl|rfl|rfl|rfl|rfl|rfl|rfl|rfl|rfl|rfl|rfl|rfl|rfl|rfl|rfl|rfl|rfl|rfl|rfl|rfl;all_goals
  simp[DC]at ab;simp at v B E G K;simp only[CL,Int.reduceEq,↓reduceIte,Int.cast_ofNat_Int,H,af]
 ·have p:=R7 h e j (x:=⟨1,ia,0,0,[]⟩) (s:=c.Bk.s) e.s {n:=M};cases m:Da 1 (BN c) with
  |false=>grind
  |true=>
   rw[m,(L3 m).2]at p;rwa[(L3 m).2]
 ·exact Pn h e j (e.s.b1 (CN.one O1))
 ·exact Pn h e j (e.s.b1 (CN.one (e.s.at O1)))
 ·have aa:=e.s.at (i:=L c.Bk.s-1) O1;have a4:=e.s.at (i:=L c.Bk.s-2) O1;exact R7 h e j (e.s.take _) {l:=λ_=>by simp only;omega,r:=λ_=>by simp only;omega}
 ·exact Pn h e j ((e.s.take _).b1 (CN.one (e.s.at O1)))
 ·have aa:=e.s.at (i:=L c.Bk.s-1) O1;refine MU h e j (c.cells.set ((c.Bk.s[L c.Bk.s-2-ia.toNat]?).getD 0).toNat ⟨5,0,(c.Bk.s[L c.Bk.s-1]?).getD 0,0,[]⟩) c.used (c.Bk.at_+1) (c.Bk.s.take (L c.Bk.s-1)) (Pu O2 O) O1 (λx k=>?_) (by rw[Ayc];exact e.s.take _);rw[Ayc];rcases Azo k with k|rfl
  ·exact e.b.cells x k
  ·exact {l:=λ_=>aa}
 ·exact Pn h e j (e.s.take _)
 ·cases m:Da ia (BN c) with
  |false=>grind
  |true=>
   obtain⟨ak,ae⟩:=L3 m;have a0:c.used+ia<=c.spare:=ak;rw[if_pos rfl,ae,MB];refine MU h e j (c.cells++List.replicate ia.toNat ⟨0,0,0,0,[]⟩) (c.used+ia) (c.Bk.at_+1) (c.Bk.s++(AV ia.toNat).map λz=>((L c.cells+z:Nat):Int)) (Pu O2 O) O1 (λx k=>?_) ?_
   ·rcases Ag.1 k with k|k
    ·exact(e.b.cells x k).mono O2
    ·rw[List.eq_of_mem_replicate k];exact Ath _ _
   ·refine(e.s.mono O2).b1 λo m=>?_;grind
 ·omega
 iterate 6
  unfold LQ;split
  ·exact r 3 O4
  ·split
   ·exact r 6 O4
   ·have p u l o:=R7 h e j (x:=Gh u l o) (e.s.take (L c.Bk.s-2)) Aff;cases m:Da 1 (BN c)<;>(rw[m]at p;first|exact p _ _ _|exact p 0 0 0)
 ·exact R7 h e j (x:=⟨3,ia / 256,0,0,c.Bk.s.drop _⟩) (e.s.take _) {f:=λo m=>by have:=(e.s.drop _) o m;omega,fl:=by simp;omega,n:=by simp only;omega}
 ·have ag:∀o,B9 (BN c) o=B9 c o:=λ_=>rfl;simp only[KT,H,ag];split
  ·grind
  ·rename_i az
   have aj:0<=(c.Bk.s.getLast?).getD 0/\(c.Bk.s.getLast?).getD 0<(L c.cells:Int):=by
    rw[Ayx];exact e.s.at O1
   obtain⟨a6,a5,ap⟩:=NX e.b aj;have ax:((B9 c ((c.Bk.s.getLast?).getD 0)).BX.length:Int)=ia:=by
    omega
   exact Pn h e j ((by rw[Ayz];exact e.s.take _:CN _ c.Bk.s.dropLast).b1 ap.f)
 ·simp only[KG];split
  ·exact r 3 O4
  ·split
   ·rename_i x k
    have Y:=List.mem_of_find?_eq_some k;exact MU h e j c.cells c.used x.BU c.Bk.s (AE.2 ⟨x,Y,rfl⟩) ((YQ h.f).2 x Y).2.2.1 e.b.cells e.s
   ·exact r 4 O4
 ·exact MU h e j c.cells c.used ia c.Bk.s (.head _) v.1 e.b.cells e.s
 ·exact absurd rfl q
 grind
def C0(a:BE):Nat:=(a.fuel-a.Bt).toNat
theorem JX(a:D4 i c):(Dt c=true↔c.Bt≠c.fuel)/\(Dt c=true->c.Bt<c.fuel):=by
 have b:=Hm a;have d:=a.Bt;grind
theorem Q8(d:Mv i wx c wv D)(a:FR i wx c)(j:c.Bt≠c.fuel)(k:wv.op=19):Fk i wx (BN c):=by
 have e:=a.b.Bt;have f:=a.size;have g:=a.dl;have l:=(NO d.w).2 O1;have h:=d.dl;exact⟨⟨⟨a.b.cells,a.b.nc,by show 0<=c.Bt+1/\c.Bt+1<=c.fuel;omega,a.b.fuel,a.b.used,a.b.spare,a.b.live⟩,a.s,a.ds,by show((flat c).length)+L c.Bk.s<=256*(c.Bt+1+1)+c.used;omega,by show L c.BR<=c.Bt+1;omega⟩,by show 0<L c.Bk.s;omega⟩
theorem Qp(h:Mv i wx c wv D)(d:FR i wx c)(s:c.Bt≠c.fuel)(t:wv.op=8):Fk i wx (Hp (BN c)):=by
 have o:=d.b.Bt;have p:=d.size;have q:=d.dl;have j:=(NO h.w).1;simp[DC]at j;have r:=h.dl;let ⟨k,l,m⟩:=h.nx _ (Pu O1 d.f.a.1)
 simp[C8]at l;refine⟨⟨⟨d.b.cells,d.b.nc,by show 0<=c.Bt+1/\c.Bt+1<=c.fuel;omega,d.b.fuel,d.b.used,d.b.spare,d.b.live⟩,CN.one ?_,λf e=>?_,?_,?_⟩,.refl⟩
 ·rw[Ayx];exact d.s.at (by show L c.Bk.s-1<L c.Bk.s;omega)
 ·rcases Ag.1 (show f∈c.BR++[{(BN c).Bk with s:=(BN c).Bk.s.dropLast}] from e) with e|e
  ·exact d.ds f e
  ·rw[Ax.1 e];refine⟨?_,⟨d.f.g,⟨by show 0<=c.Bk.at_+1;have:=d.f.a.1;omega,k⟩,⟨m,?_⟩⟩⟩
   ·rw[Ayz];exact d.s.take _
   ·show wx c.Bk.g.toNat (c.Bk.at_+1).toNat<=((L c.Bk.s.dropLast+1:Nat));grind
 ·show(((c.BR++[({(BN c).Bk with s:=(BN c).Bk.s.dropLast}:Iq)]).flatMap (λf:Iq=>f.s)).length)+1<=256*(c.Bt+1+1)+c.used;rw[Yf,Aw];show(((flat c).length+L c.Bk.s.dropLast:Nat):Int)+1<=_;grind
 ·show((c.BR++[_]).length)<=c.Bt+1;grind
theorem RC(d:Dz i wx)(a:FR i wx c):FG i wx c (D6 i c):=by
 unfold D6;have g:=Ol d a;cases hb:Dt c with
 |false=>
  rw[(Hm a.b).2 hb];exact Mj 1 nofun a.b.live rfl rfl (Ayu _)
 |true=>
  have e:=(JX a.b).1.1 hb;simp only[if_true];split
  ·rename_i f
   exact(Ku d _ (Q8 g a e f) rfl).after rfl rfl (by show c.Bt<=c.Bt+1;omega)
  ·split
   ·rename_i f
    exact(Ku d _ (Qp g a e f) rfl).after rfl rfl (by show c.Bt<=c.Bt+1;omega)
   ·rename_i h j
    exact Aek d a e h j
theorem Ps(b:Int)(a:BE):(B0 b a).Bt=a.Bt:=by unfold B0;split<;>rfl
theorem FT{P:BE->Prop}[Decidable nk](a:P c)(hb:P si):P (if nk then c else si):=O6
theorem Xb(b:Int)(a:BE):(DJ b a).Bt=a.Bt:=by
 exact FT (P:=λc=>c.Bt=a.Bt) rfl (Ps _ _)
theorem Ano(b:Int)(a:BE):(KT b a).Bt=a.Bt:=by
 exact FT (P:=λc=>c.Bt=a.Bt) (Ps _ _) rfl
theorem Ap5(c:List Co)(b:BE):(KG c b).Bt=b.Bt:=by
 apply FT (P:=λd=>d.Bt=b.Bt) (Ps _ _);cases c.find? _ with
 |none=>exact Ps _ _
 |some a=>rfl
theorem Aph(b:Nat)(a:BE):(GS b a).Bt=a.Bt:=by rw[MB]
theorem Ann(b:BJ)(a:BE):(CL b a).Bt=a.Bt:=by
 repeat' (first|exact Ps _ _|exact Ano _ _|exact Ap5 _ _|exact Xb _ _|exact(Aph _ _).trans (Xb _ _)|refine FT (P:=λc=>c.Bt=a.Bt) ?_ ?_|exact rfl)
theorem Uc(d:Dz i wx)(a:FR i wx c)(hb:Dt c=true):c.Bt+1<=(D6 i c).1.Bt:=by
 unfold D6;have f:=Ol d a;have g:=(JX a.b).1.1 hb;rw[hb];simp only[if_true];split
 ·rename_i e
  exact(Ku d _ (Q8 f a g e) rfl).1.2.2
 ·split
  ·rename_i e
   exact(Ku d _ (Qp f a g e) rfl).1.2.2
  ·rw[Ann];exact Ayu _
theorem Mi(a:se.2≠N\/se.1.B5=true):∀b,E0 i b se=se
 |0=>rfl
 |b+1=>by
  let ⟨d,c⟩:=se
  cases c with
  |some v=>rfl
  |none=>
   rcases a with a|a
   ·grind
   ·rw[E0,if_pos a]
theorem SZ{a:List Bx}{f:Nat->Nat->Int}(j:Dz a f):∀c e {g:BE} {d:AR},FG a f g d->C0 d.1+1<=c->C0 d.1+1<=e->E0 a c d=E0 a e d/\((E0 a c d).2≠N\/(E0 a c d).1.B5=true)/\FG a f g (E0 a c d)
 |0,_,_,_,_,hk,_=>O1
 |_+1,0,_,_,_,_,hn=>O1
 |c+1,e+1,g,(s,I v),hR,hk,hn=>⟨rfl,Be nofun,hR⟩
 |c+1,e+1,g,(s,N),hR,hk,hn=>by
  cases he:s.B5 with
  |true=>
   rw[Mi (Axf he),Mi (Axf he)];grind
  |false=>
   have h:FR a f s:=by
    have:=hR.2;grind
   have k:=RC j h;cases hb:Dt s with
   |false=>
    have l:D6 a s=(B0 1 s,N):=by unfold D6;rw[hb,(Hm h.b).2 hb];rfl
    have i:(B0 1 s).B5=true:=by unfold B0;rw[he];rfl
    rw[E0,E0,he];rw[l,Mi (Axf i),Mi (Axf i)];refine⟨rfl,Axf i,?_⟩;rw[<-l];exact k.after hR.1.1 hR.1.2.1 hR.1.2.2
   |true=>
    have r:=Uc j h hb;have o:=(JX h.b).2 hb;have m:=k.1.1;rw[E0,E0,he];have p:C0 (D6 a s).1+1<=C0 s:=by
     unfold C0;omega
    have n:C0 s+1<=c+1:=hk;have q:C0 s+1<=e+1:=hn;refine SZ j c e (k.after hR.1.1 hR.1.2.1 hR.1.2.2) ?_ ?_<;>omega
def NK(b:List Bx)(a:AR):AR:=E0 b (C0 a.1+1) a
theorem Apw(d:Dz i wx)(a:FR i wx c):NK i (c,N)=NK i (D6 i c):=by
 have f:=RC d a;unfold NK;show E0 i (C0 c+1) (c,N)=_;rw[E0,if_neg (by rw[a.b.live];decide)];cases hb:Dt c with
 |false=>
  have g:D6 i c=(B0 1 c,N):=by unfold D6;rw[hb,(Hm a.b).2 hb];rfl
  have e:(B0 1 c).B5=true:=by unfold B0;grind
  rw[g,Mi (Axf e),Mi (Axf e)]
 |true=>
  have k:=Uc d a hb;have j:=(JX a.b).2 hb;have h:=f.1.1;exact(SZ d _ _ f (by unfold C0;omega) .refl).1
theorem Alh(a:se.2≠N\/se.1.B5=true):NK i se=se:=Mi a _
theorem TH{D:Nat->Nat->Int}(a:D4 i c){b:Int}(d:0<=b/\b<(L c.cells:Int)):Fk i D (I6 b c):=by
 have g:=a.Bt;have h:=a.used;exact⟨⟨⟨a.cells,a.nc,a.Bt,a.fuel,a.used,a.spare,a.live⟩,CN.one d,λf e=>(by cases e),(by show([].length:Int)+1<=256*(c.Bt+1)+c.used;simp;omega),(by show([].length:Int)<=c.Bt;simp;omega)⟩,.refl⟩
theorem PM{D:Nat->Nat->Int}(d:Dz i D)(e:D4 i c){a:Int}(f:0<=a/\a<(L c.cells:Int)):CT i a c=NK i (IJ i (I6 a c))/\FG i D c (CT i a c)/\((CT i a c).2≠N\/(CT i a c).1.B5=true):=by
 have b:FG i D c (IJ i (I6 a c)):=(Ku d _ (TH (D:=D) e f) rfl).after rfl rfl (Ayu _);have k:=b.1.1;have l:=b.1.2.2;obtain⟨g,h,j⟩:=SZ d ((c.fuel-c.Bt).toNat+1) (C0 (IJ i (I6 a c)).1+1) b (by unfold C0;omega) .refl;exact⟨g,j,h⟩
theorem J2(b:Int)(a:BE):(B0 b a).cells=a.cells:=by unfold B0;split<;>rfl
theorem Yl(b:Int)(a:BE):(DJ b a).cells=a.cells:=by
 exact FT (P:=λc=>c.cells=a.cells) rfl (J2 _ _)
theorem YE(b:Cb)(a:BE):(L a.cells)<=(Ff b a).cells.length:=by
 show _<=(a.cells++[b]).length;simp
theorem VD:∀b a,L a.cells<=(GS b a).cells.length
 |0,_=>Ac _
 |b+1,a=>Ay (VD b a) (YE _ _)
theorem Apr(b:Int)(a:BE):(KT b a).cells=a.cells:=by
 exact FT (P:=λc=>c.cells=a.cells) (J2 _ _) rfl
theorem Aji(c:List Co)(b:BE):(KG c b).cells=b.cells:=by
 apply FT (P:=λd=>d.cells=b.cells) (J2 _ _);cases c.find? _ with
 |none=>exact J2 _ _
 |some a=>rfl
theorem Awd(c:Cb)(b a:BE)(d:a.cells=b.cells):(L b.cells)<=(Ff c a).cells.length:=d▸YE c a
theorem Aub(d:BJ)(b:BE):(L b.cells)<=(CL d b).cells.length:=by
 unfold CL LQ;have a:∀{c:BE},c.cells=b.cells->L b.cells<=L c.cells:=λe=>O6;repeat' (first|exact a (J2 _ _)|exact a (Apr _ _)|exact a (Aji _ _)|exact Awd _ _ _ (Yl _ _)|exact Ay (a (Yl _ _)) (VD _ _)|refine FT (P:=λc=>L b.cells<=L c.cells) ?_ ?_|exact a rfl|(show _<=(List.set _ _ _).length;simp))
theorem Xy(b:Int)(a:BE):(G6 b a).1.cells=a.cells:=by unfold G6;split<;>rfl
theorem Anz(b:Int)(a:BE):(Jv i b a).cells=a.cells:=by
 exact FT (P:=λc=>c.cells=a.cells) rfl (J2 _ _)
theorem Rs(a:BE):(DO a).cells=a.cells:=by
 exact FT (P:=λb=>b.cells=a.cells) (J2 _ _) (FT (P:=λb=>b.cells=a.cells) rfl rfl)
theorem Oa{c:List Bx}:∀b a,(FA c b a).1.cells=a.cells
 |0,a=>Rs a
 |b+1,a=>by
  rw[FA];simp only;split
  ·split
   ·exact Oa b _
   ·split
    ·exact Oa b _
    ·split
     ·exact J2 _ _
     ·split
      ·split
       ·exact Anz _ _
       ·exact Xy _ _
      ·split
       ·exact J2 _ _
       ·exact Xy _ _
  ·exact Rs a
theorem Aew(a:BE):(L a.cells)<=(D6 i a).1.cells.length:=by
 unfold D6;split
 ·simp only;split
  ·exact Ayn (congrArg L (Oa _ (BN a)).symm)
  ·split
   ·exact Ayn (congrArg L (Oa _ (Hp (BN a))).symm)
   ·exact Aub _ (BN a)
 ·exact Ayn (congrArg L (Rs a).symm)
theorem Za{c:List Bx}:∀a b,L b.1.cells<=(E0 c a b).1.cells.length
 |0,_=>Ac _
 |a+1,(st,N)=>by
  rw[E0];split
  ·omega
  ·exact Ay (Aew st) (Za a _)
 |a+1,(st,I v)=>Ac _
theorem Ahg{gs:List Bx}(b:Int)(a:BE):(L a.cells)<=(CT gs b a).1.cells.length:=Ay (Ayn (congrArg L (Oa _ (I6 b a)).symm)) (Za _ _)
abbrev TD:=List UInt8×Int
def H1(a:Cb):List UInt8:=if a.BB=1 then Lib.itoa a.n else if a.BB=3 then 40::Lib.itoa a.n else [102,117,110]
def Gu(b:List Int):List TD:=b.flatMap λa=>[([32],-1),([],a)]
def F7(a:Cb):List TD:=if a.BB=3 then Gu a.BX.reverse++[([41],-1)] else []
abbrev E5:=BE×Option (List UInt8)
def Ek(a:List UInt8)(c:BE)(b:List UInt8)(d:List UInt8->E5):E5:=if L b+L a<=2000 then d (b++a) else (B0 8 c,N)
def EQ(d:List Bx)(c:Int)(b:BE):BE×Option Cb:=
 let a:=CT d c b
 if Dt a.1 then ({a.1 with Bt:=a.1.Bt+1},I (B9 a.1 (a.2.getD 0))) else (DO a.1,N)
def Fo(b:List Bx):Nat->List TD->BE->List UInt8->E5
 |_,[],a,t=>(a,I t)
 |0,_::_,a,_=>(a,N)
 |n+1,(s,c)::L,a,t=>
  if 0<=c then match EQ b c a with
   |(a1,I x)=>Ek (H1 x) a1 t λd=>Fo b n (F7 x++L) a1 d
   |(a1,N)=>(a1,N)
  else Ek s a t λd=>Fo b n L a d
def tM(L:List TD)(a:BE):Nat:=1000*C0 a+L.length
def HN(a:List TD)(b:BE):Prop:=∀c∈a,c.2<(L b.cells:Int)
theorem Yk:∀a:List Int,(Gu a).length=2*L a
 |[]=>rfl
 |b::a=>by
  have:=Yk a;show(_::_::Gu a).length=2*(b::a).length;grind
theorem Tj(a:FK w s sq):(F7 sq).length<=511:=by
 have:=a.fl;unfold F7;split
 ·rw[Aw,Yk,Ayt];simp;omega
 ·simp
theorem Aev(d:FK w s sq):∀b∈F7 sq,b.2<(s:Int):=by
 intro b a;have e:(-1:Int)<s:=O1;unfold F7 at a;split at a
 ·rcases Ag.1 a with a|a
  ·let ⟨c,f,a⟩:=AU.1 a
   simp[AX,Axw,or_false]at a;rcases a with rfl|rfl
   ·exact e
   ·exact(d.f c (Azx.1 f)).2
  grind
 ·cases a
theorem D4.step(a:D4 i c)(hb:Dt c=true):D4 i {c with Bt:=c.Bt+1}:=by
 have b:=a.Bt;have d:=(JX a).2 hb;exact⟨a.cells,a.nc,⟨O6,O6⟩,a.fuel,a.used,a.spare,a.live⟩
theorem OT{gs:List Bx}(i:Dz gs wx)(h:D4 gs c){a:Int}(k:0<=a/\a<(L c.cells:Int)):
 (∃g b,CT gs a c=({(EQ gs a c).1 with Bt:=(EQ gs a c).1.Bt-1},I b)/\Dt (CT gs a c).1=true/\0<=b/\b<((CT gs a c).1.cells.length:Int)/\g=B9 (CT gs a c).1 b/\EQ gs a c=((EQ gs a c).1,I g)/\D4 gs (EQ gs a c).1/\L c.cells<=(EQ gs a c).1.cells.length/\C0 (EQ gs a c).1+1<=C0 c/\FK (L gs) (EQ gs a c).1.cells.length g)\/
 (EQ gs a c=(DO (CT gs a c).1,N)/\Dt (CT gs a c).1=false/\(DO (CT gs a c).1).B5=true):=by
 obtain⟨-,j,q⟩:=PM i h k;have l:=Ahg (gs:=gs) a c;unfold EQ;generalize CT gs a c=r at*;let ⟨d,m⟩:=r
 simp only at*;cases hb:Dt d with
 |false=>
  right
  refine⟨rfl,rfl,?_⟩;unfold Dt at hb;unfold DO B0;grind
 |true=>
  left
  have s:d.B5=false:=by
   unfold Dt at hb;grind
  cases m with
  |none=>
   grind
  |some b=>
   let ⟨⟨n,o,p⟩,f,e⟩:=j
   have t:=(JX f).2 hb;refine⟨B9 d b,b,?_,rfl,e.1,e.2,rfl,rfl,f.step hb,l,?_,?_⟩
   ·simp
   ·show(d.fuel-(d.Bt+1)).toNat+1<=(c.fuel-c.Bt).toNat;grind
   ·apply f.cells _;have v:=e.2;have u:b.toNat<L d.cells:=O6;unfold B9;grind
variable{zn:TD}{sw:List TD}
theorem HN.more(d:HN (zn::sw) c)(e:FK (L i) (L si.cells) sq)(f:(L c.cells)<=L si.cells):HN (F7 sq++sw) si:=by
 intro b a;rcases Ag.1 a with a|a
 ·exact Aev e b a
 ·have:=d b (Awv _ a);omega
theorem HN.tail(a:HN (zn::sw) c):HN sw c:=λd b=>a d (Awv _ b)
variable{yd yy:List UInt8->E5}
theorem Q5(a:yd (va++o)=yy (va++o)):Ek o c va yd=Ek o c va yy:=by unfold Ek;rw[a]
theorem T2{g:List Bx}{k:Nat->Nat->Int}(i:Dz g k):∀e d {b:List TD} {a:BE} {f:List UInt8},D4 g a->HN b a->tM b a<=e->tM b a<=d->Fo g e b a f=Fo g d b a f
 |e,d,[],a,f,_,_,_,_=>by cases e<;>cases d<;>rfl
 |0,_,p::b,a,f,_,_,hn,_=>by unfold tM at hn;simp at hn
 |_+1,0,p::b,a,f,_,_,_,hk=>by unfold tM at hk;simp at hk
 |e+1,d+1,(s,c)::b,a,f,hW,hT,hn,hk=>by
  rw[Fo,Fo];unfold tM at hn hk;rw[AO]at hn hk;split
  ·rename_i l
   rcases OT i hW ⟨l,hT _ (Aw3 ..)⟩ with⟨r,q,-,-,-,-,-,h,m,n,o,j⟩|⟨h,-,-⟩
   ·rw[h];have:=Tj j;refine Q5 (T2 i e d m (hT.more j n) ?_ ?_)<;>(unfold tM;rw[Aw];omega)
   ·rw[h]
  ·exact Q5 (T2 i e d hW hT.tail (by unfold tM;omega) (by unfold tM;omega))
def DK(c:List Bx)(a:List TD)(b:BE)(d:List UInt8):E5:=Fo c (tM a b) a b d
theorem Qt(a:BE)(b:List UInt8):DK i [] a b=(a,I b):=by unfold DK;cases tM [] a<;>rfl
theorem UH(g:Dz i wx){k:List UInt8}{c:Int}{b:List TD}{a:BE}{l:List UInt8}(m:D4 i a)(h:HN ((k,c)::b) a)(f:0<=c):DK i ((k,c)::b) a l=match EQ i c a with
 |(a1,I e)=>Ek (H1 e) a1 l λp=>DK i (F7 e++b) a1 p
 |(a1,N)=>(a1,N):=by
 rw[DK,tM,AO,show 1000*C0 a+(L b+1)=(1000*C0 a+L b)+1 from rfl,Fo,if_pos f];rcases OT g m ⟨f,h _ (Aw3 ..)⟩ with⟨e,r,-,-,-,-,-,d,n,o,q,j⟩|⟨d,-,-⟩
 ·rw[d];have:=Tj j;exact Q5 (T2 g _ _ n (h.more j o) (by unfold tM;grind) .refl)
 ·rw[d]
theorem Ql(a:¬0<=D):DK i ((o,D)::sw) c va=Ek o c va λb=>DK i sw c b:=by
 rw[DK,tM,AO,show 1000*C0 c+(L sw+1)=(1000*C0 c+L sw)+1 from rfl,Fo,if_neg a];rfl
theorem Qv{d:List Bx}{o:Nat->Nat->Int}(f:Dz d o):∀i {X L:List TD} {a:BE} {t:List UInt8},D4 d a->HN X a->HN L a->tM X a<=i->
 (∃b k,DK d X a t=(b,I k)/\DK d (X++L) a t=DK d L b k/\D4 d b/\a.cells.length<=b.cells.length/\b.fuel=a.fuel/\b.spare=a.spare)\/(∃b,DK d X a t=(b,N)/\DK d (X++L) a t=(b,N)/\b.B5=true)
 |_,[],L,a,t,hW,_,_,_=>Be ⟨a,t,Qt a t,rfl,hW,Ac _,rfl,rfl⟩
 |0,_::_,_,_,_,_,_,_,hn=>by unfold tM at hn;simp at hn
 |i+1,(s,c)::X,L,a,t,hW,hT,hL,hn=>by
  unfold tM at hn;rw[AO]at hn;have v:HN ((s,c)::(X++L)) a:=λg j=>(Ag.1 (show g∈((s,c)::X)++L from j)).elim (hT g) (hL g);by_cases e:0<=c
  ·rw[UH f hW hT e,Awy,UH f hW v e];rcases OT f hW ⟨e,hT _ (Aw3 ..)⟩ with⟨y,M,m,-,-,-,-,l,w,x,H,n⟩|⟨l,-,E⟩
   ·obtain⟨-,h,-⟩:=PM f hW ⟨e,hT _ (Aw3 ..)⟩;have G:(EQ d c a).1.fuel=a.fuel:=by rw[m]at h;exact h.1.1
    have K:(EQ d c a).1.spare=a.spare:=by rw[m]at h;exact h.1.2.1
    rw[l];have:=Tj n;simp only;unfold Ek;split
    ·rcases Qv f i (t:=t++H1 y) w (hT.more n x) (λg j=>by have:=hL g j;omega) (by unfold tM;grind) with⟨p,k,q,r,u,z,B,D⟩|⟨p,q,r,u⟩
     ·grind
     grind
    ·exact Axf ⟨_,rfl,rfl,by unfold B0;grind⟩
   grind
  ·rw[Ql e,Awy,Ql e];unfold Ek;split
   ·exact Qv f i hW hT.tail hL (by unfold tM;omega)
   ·exact Axf ⟨_,rfl,rfl,by unfold B0;rw[hW.live];rfl⟩
def KZ(a:BE):Prop:=(a.B5=true->a.BB≠0)/\(a.B5=false->a.BB=0)
theorem J6(d:D≠0)(b:KZ c):KZ (B0 D c):=by
 unfold B0;split
 ·exact b
 ·exact⟨λ_=>d,λa=>by cases a⟩
theorem Vq(b:Int)(a:KZ c):KZ (DJ b c):=by
 exact FT a (J6 nofun a)
theorem Aq2(a:Nat)(b:KZ c):KZ (GS a c):=by
 induction a with
 |zero=>exact b
 |succ a ih=>exact ih
theorem Ap8(b:Int)(a:KZ c):KZ (KT b c):=by
 exact FT (J6 nofun a) a
theorem Asx(b:List Co)(a:KZ c):KZ (KG b c):=by
 refine FT (J6 nofun a) ?_;cases b.find? _ with
 |none=>exact J6 nofun a
 |some c=>exact a
theorem XR(b:Cb)(a:KZ c):KZ (Ff b c):=a
theorem Agh(b:List Int)(a:KZ c):KZ (Ct b c):=a
theorem Asb(b:BJ)(a:KZ c):KZ (CL b c):=by
 unfold CL LQ;repeat' (first|exact J6 O4 a|exact Ap8 _ a|exact Asx _ a|exact XR _ (Agh _ (Vq _ a))|exact XR _ (Vq _ a)|exact Aq2 _ (Vq _ a)|refine FT ?_ ?_|exact a)
theorem QT(a:KZ c):KZ (DO c):=by
 exact FT (J6 nofun a) (FT a a)
theorem Aa0(b:Int)(a:KZ c):KZ (G6 b c).1:=by unfold G6;split<;>exact a
theorem Afi(b:Int)(a:KZ c):KZ (Jv i b c):=by
 exact FT a (J6 nofun a)
theorem OK{d:List Bx}:∀b c,KZ c->KZ (FA d b c).1
 |0,c,h=>QT h
 |b+1,c,h=>by
  rw[FA];simp only;have a:=h;split
  ·split
   ·exact OK b _ a
   ·split
    ·exact OK b _ a
    ·split
     ·exact J6 nofun a
     ·split
      ·split
       ·exact Afi _ a
       ·exact Aa0 _ a
      ·split
       ·exact J6 nofun a
       ·exact Aa0 _ a
  ·exact QT h
theorem Avk(b:BE)(c:KZ b):KZ (D6 i b).1:=by
 unfold D6;split
 ·have a:=c;simp only;split
  ·exact OK _ _ a
  ·split
   ·exact OK _ (Hp (BN b)) a
   ·exact Asb _ a
 ·exact QT c
theorem XP{c:List Bx}:∀a b,KZ b.1->KZ (E0 c a b).1
 |0,_,h=>h
 |a+1,(st,N),h=>by
  rw[E0];split
  ·exact h
  ·exact XP a _ (Avk st h)
 |a+1,(st,I v),h=>h
theorem Alz{gs:List Bx}(a:Int)(b:KZ c):KZ (CT gs a c).1:=XP _ _ (OK _ (I6 a c) b)
theorem Akx{gs:List Bx}(a:Int)(d:KZ c):KZ (EQ gs a c).1:=by
 have b:=Alz (gs:=gs) a d;unfold EQ;simp only;split
 ·exact b
 ·exact QT b
theorem VB{gs:List Bx}:∀a i b e,KZ b->KZ (Fo gs a i b e).1
 |a,[],b,e,h=>by cases a<;>exact h
 |0,_::_,b,_,h=>h
 |a+1,(g,c)::i,b,e,h=>by
  rw[Fo];have k:∀g d f,KZ d->KZ (Ek g d e (λj=>Fo gs a f d j)).1:=λg d f hb=>by
   unfold Ek;split
   ·exact VB a f d _ hb
   ·exact J6 nofun hb
  split
  ·have l:=Akx (gs:=gs) c h;grind
  grind
theorem Aqx(a:List TD)(b:List UInt8)(d:KZ c):KZ (DK i a c b).1:=VB _ a c b d
theorem Al6(c:n.ownsRow w 5 1 p (L o) (Kz o)):(convert 116 9 p).run Aa n=.ok (S ⟨o.toArray⟩) n:=by
 rcases c.2 with⟨rfl,e⟩|⟨a,d,f,rfl,-,-,g,-⟩
 ·obtain rfl:o=[]:=Ay9.1 e;exact run_convert_bytes_nil n _ 5 underlying116 underlying5 0 0 _ Awz
 ·exact run_convert_bytes_back n 116 9 5 ⟨a,0,N⟩ d o underlying116 underlying5 Awz (λb h=>by
   have:=c.cellAt b O1;rw[show(⟨a,0,N⟩:Addr).add b=⟨a,b,N⟩ from by unfold Addr.add;grind,this];unfold Kz;grind)
def F3(b:Nat):List Cb:=(AV b).map λa:Nat=>⟨4,(a:Int),0,0,[]⟩
def KK(b:Nat)(a c:Int):BE:=⟨F3 b,⟨[],0,0⟩,[],HF a 2000000,HF c 2000000,0,0,0,false⟩
def Du(a:List Bx)(c b d:Int):E5:=DK a [([],c)] (KK (L a) b d) []
def Jd(b:List Bx)(c a d:Int):X:=
 T #[V C (Du b c a d).1.BB,S ⟨((Du b c a d).2.getD []).toArray⟩,V C (Du b c a d).1.Bt,V C (Du b c a d).1.used]
theorem XO(a:Int):0<=HF a 2000000/\HF a 2000000<=2000000:=by
 unfold HF;omega
theorem S6(j:(L i)<=200000)(b f:Int):D4 i (KK (L i) b f):=by
 have c:=XO b;have d:=XO f;have k:(F3 (L i)).length=L i:=by simp[F3]
 refine⟨λn h=>?_,?_,⟨Ayu _,c.1⟩,c.2,⟨Ayu _,d.1⟩,d.2,rfl⟩
 ·obtain⟨l,e,rfl⟩:=AE.1 h;have e:=Ayo.1 e;exact⟨⟨O2,O2⟩,λa=>(by simp at a),λa=>(by simp at a),λ_=>⟨O2,by simp;omega⟩,λm g=>(by cases g),O2,⟨O2,O6⟩⟩
 ·show(((F3 (L i)).length:Nat):Int)=L i+0;omega
theorem VU(a:Nat):(F3 a).length=a:=by simp[F3]
def Kj:List X:=[V C 0,S ⟨#[]⟩,V C 0,V C 0]
theorem Vi(e:B7 n w Kj)(b c d a:X):B7 ((((n.setCell ⟨w,0,N⟩ b).setCell ⟨w,1,N⟩ c).setCell ⟨w,2,N⟩ d).setCell ⟨w,3,N⟩ a) w [b,c,d,a]:=
 B7.set (B7.set (B7.set (B7.set e (by simp[Kj]) _) (by simp[Kj]) _) (by simp[Kj]) _) .refl _
theorem Y2(g:Dz i wx)(l:i.length<=200000)(n:0<=D/\D<(i.length:Int))(b c:Int):(∃a f,Du i D b c=(a,I f)/\a.B5=false)\/(∃a,Du i D b c=(a,N)/\a.B5=true):=by
 have h:HN [([],D)] (KK i.length b c):=λm e=>by
  rw[Ax.1 e];show D<((F3 i.length).length);rw[VU];omega
 rcases Qv g (tM [([],D)] (KK i.length b c)) (L:=[]) (S6 l b c) h (λm e=>by cases e) .refl with⟨a,f,d,-,j,-⟩|⟨a,d,-,k⟩
 ·exact Be ⟨a,f,d,j.live⟩
 ·exact Axf ⟨a,d,k⟩
theorem RL(a:wv.op≠1):Es H w1 w wv=wv:=by unfold Es;rw[if_neg a]
theorem Am7(d:List BD)(c:BD)(e:Nat)(b:BJ):DC (Es d c e b).op.toNat (Es d c e b).a=DC b.op.toNat b.a/\C8 (Es d c e b).op.toNat (Es d c e b).a=C8 b.op.toNat b.a:=by
 by_cases f:b.op=1
 ·rw[(LX d c e b).1,f];exact⟨rfl,rfl⟩
 ·rw[RL f];omega
theorem Av3(c:List BD)(b:BD)(d:Nat)(a:BJ)(f:Nat):JY (Es c b d a) f=JY a f:=by
 by_cases e:a.op=1
 ·unfold JY;rw[(LX c b d a).1,(LX c b d a).2,e];rfl
 ·rw[RL e]
theorem Nz.mv(d:Nz wl D vp)(b:List BD)(a:BD)(c:Nat):Nz (wl.map (Es b a c)) D vp:=by
 refine⟨by rw[An];exact d.pos,by rw[An];exact d.len,d.start,λu m=>?_,λf g j=>?_⟩
 ·obtain⟨e,l,rfl⟩:=AE.1 m;let ⟨p,r⟩:=d.ins e l
  refine⟨by rw[(LX b a c e).1];exact p,?_⟩;rw[(LX b a c e).1,(LX b a c e).2];by_cases i:e.op=1
  ·grind
  ·rwa[RL i]
 ·rw[An]at g;let ⟨q,h,s⟩:=d.go f g j
  rw[AN];let ⟨n,o⟩:=Am7 b a c wl[f]
  refine⟨q,?_,λt k=>?_⟩
  ·unfold GJ at h ⊢;rw[n,o,(LX b a c wl[f]).1];exact h
  ·rw[Av3]at k;grind
theorem S9(b:List BD):∀c d,(JM b c d).length=(c.map λa=>L a.Bv).sum
 |[],_=>rfl
 |a::r,d=>by
  rw[JM,Aw,An,S9 b r,A1,Axm]
theorem Aa6(d:List BD):∀f g,∀c∈JM d f g,∃a∈f,∃e,∃h∈a.Bv,c=J4 d a e h/\e+L a.Bv<=g+(f.map λa=>L a.Bv).sum
 |[],_,c,b=>by cases b
 |a::r,g,c,b=>by
  rcases Ag.1 b with b|b
  ·grind
  ·let ⟨i,k,e,h,l,j,m⟩:=Aa6 d r _ c b
   grind
theorem Yt{e:Oy}:∀{d:List Bx} {b a:Nat} {c:Int},GL e d b=I (a,c)->b<=a/\a<b+L d
 |g::r,b,a,c,h=>by
  rw[GL]at h;rw[AO];split at h
  ·cases h;omega
  ·have:=Yt h;omega
theorem Tm{j:Oy}:∀{f:List BD} {e b a g:Nat} {d:Int},FQ j f e b=I (a,g,d)->b<=a/\a<b+(f.map λc=>L c.Bv).sum
 |c::r,e,b,a,g,d,h=>by
  rw[FQ]at h;rw[A1,Axm];split at h
  ·rename_i l k i
   cases h;have:=Yt i;omega
  ·have:=Tm h;omega
theorem V0{r:Oy}(p:DZ H r)(q:∀b∈H,Gb b):(∃n,Dz (Cj H) n)/\0<=Dx H r/\Dx H r<((Cj H).length:Int):=by
 let ⟨ag,aj,v⟩:=p.e
 have U:=p.s;have y:∀b∈H,G8 H b=false:=λb d=>by
  obtain⟨i,l,rfl⟩:=AQ d;exact Td p.m i l
 have Y:∀b∈H,∀c∈b.Bv,∀i∈c.Bj,-9223372036854775808<=i.a/\i.a<=9223372036854775807:=λb d c f i l=>by
  obtain⟨af,-,o⟩:=q b d;exact((o.i.x c f).i i l).i
 have w:=λb d=>(q b d).sound;have ab:(Cj H).length=(H.map λb=>L b.Bv).sum:=S9 H H 0;have hb:Cg H (L H)=(H.map λb=>L b.Bv).sum:=by unfold Cg;simp
 have E:(Cj H).length<=200000:=by
  have:=WG w;omega
 have u:∀g∈Cj H,∃b∈H,∃e,∃c∈b.Bv,g=J4 H b e c/\e+L b.Bv<=(Cj H).length:=λg j=>by
  let ⟨b,d,e,c,f,k,G⟩:=Aa6 H H 0 g j
  grind
 have D:∀c (p:c<(Cj H).length),∃n,Nz (Cj H)[c].Bj (Cj H)[c].BH n:=λc f=>by
  obtain⟨b,d,e,g,j,k,-⟩:=u _ (Ao f);obtain⟨-,n,B⟩:=(q b d).dS g j;rw[k];exact⟨n,B.mv H b e⟩
 refine⟨⟨λc=>if f:c<(Cj H).length then Classical.choose (D c f) else λ_=>0,E,λc f=>?_,λc f=>?_,λc f i l=>?_⟩,?_,?_⟩
 ·obtain⟨b,d,e,g,j,k,-⟩:=u _ (Ao f);rw[k];exact((q b d).dS g j).1
 ·grind
 ·let ⟨b,d,e,g,j,k,G⟩:=u _ (Ao f)
  rw[k]at l;obtain⟨h,K,rfl⟩:=AE.1 (show i∈g.Bj.map (Es H b e) from l);by_cases o:h.op=1
  ·have aa:=((w b d).ix g j h K).g o;have ae:0<=G2 H b e h.a/\G2 H b e h.a<((Cj H).length):=by
    unfold G2;split
    ·rename_i ac
     have x:h.a.toNat<L b.BG:=O1;rw[Af x];simp[Option.bind_some];have t:=y b d;unfold G8 at t;rw[Ax9]at t;have ad:=t b.BG[h.a.toNat] (Ao x);cases hx2:Gj H b.BG[h.a.toNat].Bo with
     |none=>grind
     |some z=>
      let ⟨ah,ai,M⟩:=z
      have:=Tm hx2;simp only;omega
    ·omega
   have O:(Es H b e h).a=G2 H b e h.a:=by unfold Es;rw[if_pos o]
   omega
  ·rw[RL o];grind
 ·unfold Dx;grind
 ·unfold Dx;rw[v];have:=Tm v;simp only;omega
end Go.Proofs.YtpkbnogifdlcmaaGreatDoor
