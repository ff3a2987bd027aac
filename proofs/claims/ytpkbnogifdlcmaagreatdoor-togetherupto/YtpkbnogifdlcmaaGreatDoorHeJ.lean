import Derived.Test.YtpkbnogifdlcmaaGreatDoorTqJ
import Derived.Test.YtpkbnogifdlcmaaGreatDoorHiJ
set_option linter.unusedSimpArgs false
set_option maxHeartbeats 400000
open List renaming length->L
open Option renaming none->N,some->I
open Or renaming inl->Be,inr->Axf
namespace Go.Proofs.YtpkbnogifdlcmaaGreatDoor
open Go.RowKit Go.Sort Go.Proofs.Tryz
variable{i nz:List Bx}{wh:Int->Int}{D nf:Int}{nv:List Cb}{c si z3 z4:BE}{wa n3 y3:Type}{wv:BJ}{wi:List Int}{w s b j:Nat}{nk:Prop}{wx:Nat->Nat->Int}{sq:Cb}{o va:List UInt8}{yd yy:List UInt8->E5}{w1 sl:BD}{f wq:List Oy}{wm:List BI}{nw:List (List BI)}{nt:BI}{H vw:List BD}{m w0 v1 s9:Oy}{n7 yf:Nat->List Oy}{nd xh:Nat->List BI}{nj xy:Nat->List (List BI)}{v2:Nat->List Bx}{ve zr:Bx}{vc:DL}{x1:List (List UInt8×Nat)}{xk:List DL}{sr:List (DL×Bool)}{w4:Bool}
def rI(c:Int->Int)(b:BJ):BJ:=if b.op=1 then {b with a:=c b.a} else b
def rC(b:Int->Int)(a:Cb):Cb:=⟨a.BB,if a.BB=4 then b a.n else a.n,if a.BB=5\/a.BB=2 then b a.left else a.left,if a.BB=2 then b a.right else a.right,a.BX.map b⟩
def rF(a:Int->Int)(f:Iq):Iq:=⟨f.s.map a,a f.g,f.at_⟩
def rA(b:Int->Int)(c:List Cb)(d:Int)(a:BE):BE:={a with cells:=c,Bk:=⟨a.Bk.s.map b,d,a.Bk.at_⟩,BR:=a.BR.map (rF b)}
structure Rn (b c:List Bx) (a:Int->Int):Prop where
 hi:∀r,(L b:Int)<=r->a r=r+((L c:Int)-(L b:Int))
 lo:∀r,0<=r->r<(L b:Int)->0<=a r/\a r<(L c:Int)
 inj:∀r q,0<=r->0<=q->a r=a q->r=q
 ar:∀g,0<=g->g<(L b:Int)->(C5 c (a g)).BH=(C5 b g).BH
 cd:∀g,0<=g->g<(L b:Int)->(C5 c (a g)).Bj=(C5 b g).Bj.map (rI a)
abbrev c0:Cb:=⟨0,0,0,0,[]⟩
structure CR (d f:List Bx) (e:Int->Int) (a b:List Cb):Prop where
 l:(L b:Int)=(L a:Int)+((L f:Int)-(L d:Int))
 g:(L d)<=L a
 c:∀r:Int,0<=r->r<(L a:Int)->(b[(e r).toNat]?).getD c0=rC e ((a[r.toNat]?).getD c0)
def RR(d e:List Bx)(b:Int->Int)(a f:AR):Prop:=∃c g,CR d e b a.1.cells c/\f=(rA b c g a.1,a.2.map b)/\(a.1.B5=false->a.2=N->g=b a.1.Bk.g)
theorem CR.rg(e:Rn i nz wh){b c:List Cb}(d:CR i nz wh b c)(f:0<=D)(h:D<(L b:Int)):0<=wh D/\wh D<(L c:Int):=by
 have k:=d.l;have j:=d.g;rcases Int.lt_or_le D (L i) with a|a
 ·have:=e.lo D f a;omega
 ·have:=e.hi D a;omega
theorem CR.add(j:Rn i nz wh){a d:List Cb}(b:CR i nz wh a d)(k:Cb):CR i nz wh (a++[k]) (d++[rC wh k]):=by
 have o:=b.l;have n:=b.g;refine⟨by simp;omega,by simp;omega,λf h m=>?_⟩;rw[Aw,Azl]at m;rcases Int.lt_or_le f (L a) with e|e
 ·have:=b.rg j h e;rw[A8 O1,A8 O1];exact b.c f h e
 ·obtain rfl:f=L a:=O1;have:=j.hi (L a) O1;rw[show(wh (L a:Int)).toNat=L d by omega];simp
theorem CR.set(h:Rn i nz wh){d k:List Cb}(b:CR i nz wh d k){a:Int}(m:0<=a)(p:a<(L d:Int))(n:Cb):CR i nz wh (d.set a.toNat n) (k.set (wh a).toNat (rC wh n)):=by
 refine⟨by simpa using b.l,by simpa using b.g,λj e f=>?_⟩;rw[Ayc]at f;have r:=b.rg h e f;have s:=b.rg h m p;rw[List.getElem?_set,List.getElem?_set];by_cases o:j=a
 ·grind
 ·rw[if_neg (λq=>o (h.inj j a e m O1)),if_neg O1];exact b.c j e f
theorem Rc{g:Int}{a:BE}(b:CR i nz wh a.cells nv)(d:0<=D)(e:D<(L a.cells:Int)):B9 (rA wh nv g a) (wh D)=rC wh (B9 a D):=b.c D d e
theorem R4(a:Int):B0 a (rA wh nv D c)=rA wh nv D (B0 a c):=by
 unfold B0;show(if c.B5 then _ else _)=_;split<;>rfl
theorem RR.end{g:Int}{st:BE}(c:CR i nz wh st.cells nv)(d:st.B5=false)(a:Int):RR i nz wh (B0 a st,N) (B0 a (rA wh nv g st),N):=by
 refine⟨nv,g,by rw[J2];exact c,by rw[R4];rfl,λb=>?_⟩;unfold B0 at b;grind
theorem P5(a:List Int)(b:0<L a):((a.map wh).getLast?).getD 0=wh ((a.getLast?).getD 0):=by
 grind
theorem Xg{st:BE}(c:CR i nz wh st.cells nv)(b:Int):RR i nz wh (G6 b st) (G6 (wh b) (rA wh nv D st)):=by
 rcases Ax6 st.BR with a|⟨l,f,a⟩
 ·rw[Qd b a,Qd (wh b) (by show st.BR.map _=_;rw[a];rfl)];exact⟨nv,D,c,rfl,λ_ c=>by cases c⟩
 ·rw[Az3]at a;rw[RN b a,RN (l:=l.map (rF wh)) (f:=rF wh f) (wh b) (by show st.BR.map _=_;rw[a];simp)];exact⟨nv,wh f.g,c,by simp[rA,rF],λ_ _=>rfl⟩
theorem all_eq{c d:wa->Bool}:∀{a:List wa},(∀b∈a,c b=d b)->a.all c=a.all d
 |[],_=>rfl
 |b::a,h=>O6
theorem Am2{st:BE}(j:Rn i nz wh)(e:CR i nz wh st.cells nv)(n:CN (L st.cells) st.Bk.s)(m:st.B5=false){a:Int}(f:0<=a/\a<(L i:Int)):RR i nz wh (Jv i a st,N) (Jv nz (wh a) (rA wh nv D st),N):=by
 have k:Lz (C5 i a).BH.toNat (rA wh nv D st)=(Lz (C5 i a).BH.toNat st).map wh:=by
  show List.take _ (List.drop ((st.Bk.s.map wh).length-1-_) (st.Bk.s.map wh))=_;rw[An,<-List.map_drop,<-Ay5];rfl
 have g:∀b∈Lz (C5 i a).BH.toNat st,B9 (rA wh nv D st) (wh b)=rC wh (B9 st b):=λb d=>by
  have:=n b (Az6 (Ay6 d));exact Rc e this.1 this.2
 unfold Jv;dsimp only;rw[j.ar a f.1 f.2,k,List.all_map,show(Lz (C5 i a).BH.toNat st).all ((λc=>decide ((B9 (rA wh nv D st) c).BB=2))∘wh)=(Lz (C5 i a).BH.toNat st).all λc=>decide ((B9 st c).BB=2) from all_eq λb d=>by show decide ((B9 (rA wh nv D st) (wh b)).BB=2)=_;rw[g b d];rfl];split
 ·rename_i l
  refine⟨nv,wh a,e,?_,λ_ _=>rfl⟩;have h:C7 (λc=>(B9 (rA wh nv D st) c).right) (st.Bk.s.map wh) (C5 i a).BH.toNat=(C7 (λc=>(B9 st c).right) st.Bk.s (C5 i a).BH.toNat).map wh:=by
   unfold C7;rw[AC,An];congr 1
   ·simp
   rw[<-List.map_drop,<-Ay5,A4,A4];refine Ays λb d=>?_;have o:=Axk.1 l b d;show(B9 (rA wh nv D st) (wh b)).right=_;rw[g b d];show(if (B9 st b).BB=2 then _ else _)=_;grind
  show(({rA wh nv D st with Bk:=⟨C7 _ (st.Bk.s.map wh) _,_,_⟩}:BE),_)=_;rw[h];rfl
 ·exact RR.end e m 3
theorem Pv{f i:List Bx}{a:Int->Int}{t:Nat->Nat->Int}{c:List Cb}(j:Rn f i a):∀(e:Nat) {st:BE} {g:Int},Fk f t st->CR f i a st.cells c->(st.fuel-st.Bt).toNat=e->RR f i a (FA f e st) (FA i e (rA a c g st))
 |0,st,g,hw,h,hn=>by
  have w:=hw.b.Bt;have d:st.Bt=st.fuel:=O1;rw[FA,FA];rw[show DO st=B0 1 st by unfold DO;rw[if_pos d],show DO (rA a c g st)=B0 1 (rA a c g st) by unfold DO;rw[if_pos (show(rA a c g st).Bt=(rA a c g st).fuel from d)]];exact RR.end h hw.b.live 1
 |e+1,st,g,hw,h,hn=>by
  have w:=hw.b.Bt;have k:st.Bt≠st.fuel:=O1;have hb:=(JX hw.b).1.2 k;obtain⟨G,E,n⟩:=NX hw.b hw.dD;have B:(((rA a c g st).Bk.s.getLast?).getD 0)=a ((st.Bk.s.getLast?).getD 0):=P5 _ hw.ne;have D:=hw.cj k (s:=st.Bk.s) hw.s hw.ne O1;have y:CN (L st.cells) st.Bk.s.dropLast:=by rw[Ayz];exact hw.s.take _
  rw[FA,FA,if_pos hb,if_pos (show Dt (rA a c g st)=true from hb)];simp only[B,Rc (g:=g) h hw.dD.1 hw.dD.2];generalize hx:B9 st ((st.Bk.s.getLast?).getD 0)=x at*;have z:(rC a x).BB=x.BB:=rfl;rw[z];split
  ·rename_i r
   have o:=hw.cj k (s:=st.Bk.s.dropLast++[x.left]) (y.b1 (CN.one (n.l (Be r)))) O2 O5;have:=Pv j e (g:=g) o h (by show(st.fuel-(st.Bt+1)).toNat=e;omega);have d:Ct ((rA a c g st).Bk.s.dropLast++[(rC a x).left]) {rA a c g st with Bt:=(rA a c g st).Bt+1}=rA a c g (Ct (st.Bk.s.dropLast++[x.left]) {st with Bt:=st.Bt+1}):=by
    simp[rA,Ct,rC,r,List.map_dropLast]
   rw[d];omega
  ·split
   ·rename_i p
    have o:=hw.cj k (s:=st.Bk.s++[x.left]) (hw.s.b1 (CN.one (n.l (Axf p)))) O2 O2;have:=Pv j e (g:=g) o h (by show(st.fuel-(st.Bt+1)).toNat=e;omega);have d:Ct ((rA a c g st).Bk.s++[(rC a x).left]) {rA a c g st with Bt:=(rA a c g st).Bt+1}=rA a c g (Ct (st.Bk.s++[x.left]) {st with Bt:=st.Bt+1}):=by
     simp[rA,Ct,rC,p]
    rw[d];omega
   ·split
    ·exact RR.end (st:={st with Bt:=st.Bt+1}) h hw.b.live 7
    ·split
     ·rename_i q
      have m:=n.g q;have v:(rC a x).n=a x.n:=if_pos q;rw[v,j.ar _ m.1 m.2,show((rA a c g st).Bk.s.length:Int)=(L st.Bk.s:Int) by simp[rA]];split
      ·exact Am2 j (st:={st with Bt:=st.Bt+1}) h hw.s hw.b.live m
      ·have u:(rA a c g st).Bk.s.headD 0=a (st.Bk.s.headD 0):=by
        have:=hw.ne;show(st.Bk.s.map a).headD 0=_;cases d:st.Bk.s with
        |nil=>rw[d]at this;simp at this
        |cons _ _=>rfl
       rw[u];exact Xg (st:={st with Bt:=st.Bt+1}) h _
     ·rw[show(rA a c g st).Bk.s.length=L st.Bk.s by simp[rA]];split
      ·exact RR.end (st:={st with Bt:=st.Bt+1}) h hw.b.live 5
      ·exact Xg (st:={st with Bt:=st.Bt+1}) h _
theorem YP(a:wv.op≠1):rI wh wv=wv:=if_neg a
theorem Atg(a:BJ):(rI wh a).op=a.op:=by unfold rI;split<;>rfl
theorem LC(a:w<L wi):((wi.map wh)[w]?).getD 0=wh ((wi[w]?).getD 0):=by
 grind
theorem RR.C7(b:CR i nz wh c.cells nv)(a:List Int):RR i nz wh (Ct a c,N) (Ct (a.map wh) (rA wh nv (wh c.Bk.g) c),N):=⟨nv,_,b,rfl,λ_ _=>rfl⟩
theorem RR.ite[Decidable nk](a:nk->RR i nz wh (c,N) (si,N))(b:¬nk->RR i nz wh (z3,N) (z4,N)):RR i nz wh (if nk then c else z3,N) (if nk then si else z4,N):=by
 grind
theorem RR.mk{st:BE}(c:Rn i nz wh)(a:CR i nz wh st.cells nv)(b:Cb):RR i nz wh (Ff b st,N) (Ff (rC wh b) (rA wh nv (wh st.Bk.g) st),N):=by
 have d:=a.l;have:=c.hi (L st.cells) (by have:=a.g;omega);refine⟨_,_,a.add c b,?_,λ_ _=>rfl⟩;rw[Q2,Q2];simp[rA];omega
theorem RR.e4{e f:List Bx}{a:Int->Int}{c:List Cb}{st:BE}(i:Rn e f a)(h:CR e f a st.cells c):∀b,∃C2,CR e f a (GS b st).cells C2/\GS b (rA a c (a st.Bk.g) st)=rA a C2 (a st.Bk.g) (GS b st)
 |0=>⟨c,h,rfl⟩
 |b+1=>by
  let ⟨C2,m,j⟩:=RR.e4 i h b
  have k:(GS b st).Bk.g=st.Bk.g:=by rw[MB]
  let ⟨C3,l,n,d,r⟩:=RR.mk i m ⟨0,0,0,0,[]⟩
  rw[k]at d;refine⟨C3,n,?_⟩;rw[GS,j];apply Eq.trans (congrArg Prod.fst d);have o:=congrArg (λq:AR=>q.1.Bk.g) d;have p:a st.Bk.g=l:=o;rw[p];rfl
theorem UZ(a:Int):Da a (rA wh nv D c)=Da a c:=rfl
theorem Tk(a:Int):DJ a (rA wh nv D c)=rA wh nv D (DJ a c):=by
 unfold DJ;rw[UZ];split
 ·rfl
 ·exact R4 2
theorem RR.room{st:BE}(d:Rn i nz wh)(c:CR i nz wh st.cells nv)(f:st.B5=false)(b:Cb)(a:List Int):RR i nz wh (if Da 1 st then Ff b (Ct a (DJ 1 st)) else B0 2 st,N) (if Da 1 (rA wh nv (wh st.Bk.g) st) then Ff (rC wh b) (Ct (a.map wh) (DJ 1 (rA wh nv (wh st.Bk.g) st))) else B0 2 (rA wh nv (wh st.Bk.g) st),N):=by
 refine RR.ite (λe=>?_) λ_=>RR.end c f 2;rw[Tk,(L3 e).2];exact RR.mk d (st:=Ct a {st with used:=st.used+1}) c b
theorem RE{x:Cb}(a:x.BB≠4):(rC wh x).n=x.n:=if_neg a
theorem Atn{h:List Bx}{st:BE}(k:Rn h nz wh)(B:FR h wx st){i:BJ}{U:Int}(j:Mv h wx st i U)(b:CR h nz wh st.cells nv)(ao:i.op≠19)(ap:i.op≠8):RR h nz wh (CL i (BN st),N) (CL (rI wh i) (BN (rA wh nv (wh st.Bk.g) st)),N):=by
 have G:BN (rA wh nv (wh st.Bk.g) st)=rA wh nv (wh (BN st).Bk.g) (BN st):=rfl;have z:CN (BN st).cells.length (BN st).Bk.s:=B.s;have hb:∀{e:Int},0<=e/\e<((BN st).cells.length:Int)->FK (L h) (L st.cells) (B9 (BN st) e):=λp=>(NX B.b p).2.2;have y:(BN st).B5=false:=B.b.live;have aq:=j.f.1.1;have c:DC i.op.toNat i.a<=((BN st).Bk.s.length:Int):=by
  have:=(NO j.w).1;have:=j.dl;show _<=(L st.Bk.s:Int);omega
 have l:=(U8 j.f (m:=i.op.toNat) O1 (by have:=j.f.1;omega)).1;replace b:CR h nz wh (BN st).cells nv:=b
 rw[G];clear G j B;generalize BN st=st at*;have u:∀{e:Int},0<=e/\e<(L st.cells:Int)->B9 (rA wh nv (wh st.Bk.g) st) (wh e)=rC wh (B9 st e):=λp=>Rc b p.1 p.2;have v:(rA wh nv (wh st.Bk.g) st).Bk.s=st.Bk.s.map wh:=rfl;have d:=λab=>RR.end (g:=wh st.Bk.g) b y ab;by_cases q:i.op=1
 ·have:rI wh i={i with a:=wh i.a}:=if_pos q;rw[this];unfold CL;dsimp only;rw[if_neg O1,if_pos q,if_neg O1,if_pos q,v,show st.Bk.s.map wh++[wh i.a]=(st.Bk.s++[i.a]).map wh by simp];exact RR.C7 b _
 rw[YP q];unfold CL;dsimp only;rw[v,An];refine RR.ite (λa=>?_) λc0=>?_
 ·rw[UZ];refine RR.ite (λE=>?_) λ_=>d 2;rw[Tk,(L3 E).2];exact RR.mk k (st:={st with used:=st.used+1}) b ⟨1,i.a,0,0,[]⟩
 refine RR.ite (λa=>absurd a q) λ_=>?_;refine RR.ite (λa=>?_) λag=>?_
 ·rw[a]at c l;simp[DC]at c l;rw[LC O1,show ∀r,st.Bk.s.map wh++[wh r]=(st.Bk.s++[r]).map wh by simp];exact RR.C7 b _
 refine RR.ite (λa=>?_) λai=>?_
 ·rw[a]at c;simp[DC]at c;rw[LC O1,LC O1,<-Ay5];exact RR.room k b y ⟨2,0,_,_,[]⟩ _
 refine RR.ite (λa=>?_) λaj=>?_
 ·rw[a]at c l;simp[DC]at c l;rw[LC O1,<-Ay5,show ∀(O:List Int) r,O.map wh++[wh r]=(O++[r]).map wh by simp];exact RR.C7 b _
 refine RR.ite (λa=>?_) λak=>?_
 ·rw[a]at c l;simp[DC]at c l;have K:=z.at (i:=L st.Bk.s-2-i.a.toNat) O1;rw[LC O1,LC O1,<-Ay5];exact⟨_,_,b.set k K.1 K.2 ⟨5,0,_,0,[]⟩,rfl,λ_ _=>rfl⟩
 refine RR.ite (λa=>?_) λal=>?_
 ·rw[<-Ay5];exact RR.C7 b _
 refine RR.ite (λa=>?_) λam=>?_
 ·rw[UZ];refine RR.ite (λE=>?_) λ_=>d 2;rw[Tk,(L3 E).2];obtain⟨C2,H,Y⟩:=RR.e4 k (st:={st with used:=st.used+i.a}) b i.a.toNat;refine⟨C2,_,H,Prod.ext Y rfl,λ_ _=>?_⟩;rw[MB]
 refine RR.ite (λa=>?_) λac=>?_
 ·rw[<-Ay5,<-List.map_drop];exact RR.room k b y ⟨3,i.a / 256,0,0,_⟩ _
 have M:0<L st.Bk.s->0<=(st.Bk.s.getLast?).getD 0/\(st.Bk.s.getLast?).getD 0<(L st.cells:Int):=λan=>by
  rw[Ayx];exact z.at O1
 refine RR.ite (λa=>?_) λad=>?_
 ·rw[a]at c;simp[DC]at c;unfold KT;dsimp only;rw[v,P5 _ O1,u (M O1)];have o:(rC wh (B9 st ((st.Bk.s.getLast?).getD 0))).BB=(B9 st ((st.Bk.s.getLast?).getD 0)).BB:=rfl;have aa:(rC wh (B9 st ((st.Bk.s.getLast?).getD 0))).BX=(B9 st ((st.Bk.s.getLast?).getD 0)).BX.map wh:=rfl;rw[o,aa,An];refine RR.ite (λ_=>d 3) λ_=>?_;rw[<-List.map_dropLast,<-AC];exact RR.C7 b _
 refine RR.ite (λa=>?_) λae=>?_
 ·rw[a]at c;simp[DC]at c;unfold KG;dsimp only;rw[v,P5 _ O1,u (M O1)];have o:(rC wh (B9 st ((st.Bk.s.getLast?).getD 0))).BB=(B9 st ((st.Bk.s.getLast?).getD 0)).BB:=rfl;rw[o];refine RR.ite (λ_=>d 3) λau=>?_;rw[RE O1];split
  ·exact⟨nv,_,b,rfl,λ_ _=>rfl⟩
  ·exact d 4
 refine RR.ite (λa=>⟨nv,_,b,rfl,λ_ _=>rfl⟩) λaf=>?_;refine RR.ite (λa=>d 4) λah=>?_;have H:2<=L st.Bk.s:=by
  unfold DC at c;rw[if_neg O1,if_neg O1,if_neg O1,if_neg O1,if_neg O1,if_neg O1,if_neg O1,if_neg O1,if_neg O1,if_neg O1]at c;omega
 rw[LC O1,LC O1,u (z.at (i:=L st.Bk.s-1) O1),u (z.at (i:=L st.Bk.s-2) O1),<-Ay5];unfold LQ;have o:∀x:Cb,(rC wh x).BB=x.BB:=λ_=>rfl;rw[o,o];refine RR.ite (λ_=>d 3) λar=>?_;rw[RE (x:=B9 st ((st.Bk.s[L st.Bk.s-2]?).getD 0)) O1,RE (x:=B9 st ((st.Bk.s[L st.Bk.s-1]?).getD 0)) O1];refine RR.ite (λ_=>d 6) λ_=>?_;have p:=RR.room k b y (Gh i.op (B9 st ((st.Bk.s[L st.Bk.s-2]?).getD 0)).n (B9 st ((st.Bk.s[L st.Bk.s-1]?).getD 0)).n) (st.Bk.s.take (L st.Bk.s-2));rw[show ∀t D a,rC wh (Gh t D a)=Gh t D a by intro t D a;unfold Gh rC;dsimp only;split<;>rfl]at p;grind
theorem Awf(b:Rn i nz wh)(a:0<=c.Bk.g/\c.Bk.g<(L i:Int)):FE nz (rA wh nv (wh c.Bk.g) c)=rI wh (FE i c):=by
 show(((C5 nz (wh c.Bk.g)).Bj[c.Bk.at_.toNat]?).getD ⟨0,0,[]⟩)=rI wh (((C5 i c.Bk.g).Bj[c.Bk.at_.toNat]?).getD ⟨0,0,[]⟩);rw[b.cd _ a.1 a.2,Awt];cases (C5 i c.Bk.g).Bj[c.Bk.at_.toNat]?<;>rfl
theorem Ajt(k:Rn i nz wh)(n:Dz i wx)(a:FR i wx c)(j:CR i nz wh c.cells nv):RR i nz wh (D6 i c) (D6 nz (rA wh nv (wh c.Bk.g) c)):=by
 have h:=Ol n a;unfold D6;show RR i nz wh _ (if Dt c then _ else _);cases hb:Dt c with
 |false=>
  rw[if_neg nofun,if_neg nofun,(Hm a.b).2 hb];have l:DO (rA wh nv (wh c.Bk.g) c)=B0 1 (rA wh nv (wh c.Bk.g) c):=by
   have:=(Hm a.b).1.1 hb;unfold DO;rw[if_pos (show(rA wh nv (wh c.Bk.g) c).Bt=(rA wh nv (wh c.Bk.g) c).fuel from this)]
  rw[l];exact RR.end j a.b.live 1
 |true=>
  have m:=(JX a.b).1.1 hb;dsimp only;rw[Awf k a.f.g,Atg];by_cases d:(FE i c).op=19
  ·rw[if_pos d,if_pos d];exact Pv k _ (Q8 h a m d) j rfl
  ·rw[if_neg d,if_neg d];by_cases e:(FE i c).op=8
   ·rw[if_pos e,if_pos e];have o:=(NO h.w).1;simp[DC]at o;have:=h.dl;have l:Hp (BN (rA wh nv (wh c.Bk.g) c))=rA wh nv 0 (Hp (BN c)):=by
     show({(BN (rA wh nv (wh c.Bk.g) c)) with BR:=_,Bk:=⟨[(((c.Bk.s.map wh).getLast?).getD 0)],0,0⟩}:BE)=_;rw[P5 _ O1];simp[rA,Hp,BN,rF,List.map_dropLast]
    rw[l];exact Pv k _ (Qp h a m e) j rfl
   ·rw[if_neg e,if_neg e];exact Atn k a h j d e
theorem ZK{a b:List Bx}{e:Int->Int}{f:Nat->Nat->Int}(p:Rn a b e)(k:Dz a f):∀c {r:BE} {l d:AR},FG a f r l->RR a b e l d->RR a b e (E0 a c l) (E0 b c d)
 |0,_,_,_,_,h=>h
 |c+1,_,(s,I v),d,hr,h=>by
  have ⟨m,n,i,j,o⟩:=h;rw[j];exact⟨m,n,i,rfl,λ_ g=>by cases g⟩
 |c+1,_,(s,N),d,hr,h=>by
  have ⟨m,n,i,j,o⟩:=h;rw[j];show RR a b e (if s.B5 then _ else _) (if s.B5 then _ else _);cases he:s.B5 with
  |true=>
   grind
  |false=>
   have q:FR a f s:=by
    have:=hr.2;grind
   have g:=o he rfl;subst g;exact ZK p k c (RC k q) (Ajt p k q i)
theorem Av8{D:Nat->Nat->Int}{d:Int}(b:Rn i nz wh)(a:Dz i D)(g:D4 i c)(f:0<=nf/\nf<(L c.cells:Int))(e:CR i nz wh c.cells nv):RR i nz wh (CT i nf c) (CT nz (wh nf) (rA wh nv d c)):=by
 have hb:=TH (D:=D) g f;exact ZK b a _ (Ku a _ hb rfl) (Pv b ((I6 nf c).fuel-(I6 nf c).Bt).toNat hb e rfl)
theorem Ar1{g:Int}(l:Rn i nz wh)(d:Dz i wx)(h:D4 i c)(e:0<=D/\D<(L c.cells:Int))(j:CR i nz wh c.cells nv):∃C2 a,CR i nz wh (EQ i D c).1.cells C2/\EQ nz (wh D) (rA wh nv g c)=(rA wh C2 a (EQ i D c).1,(EQ i D c).2.map (rC wh)):=by
 obtain⟨C2,a,b,k,-⟩:=Av8 l d h e j;obtain⟨-,f,o⟩:=PM d h e;unfold EQ;rw[k];generalize CT i D c=r at*;dsimp only;show ∃C3 n,_/\(if Dt r.1 then _ else _)=_;cases hb:Dt r.1 with
 |false=>
  rw[if_neg nofun,if_neg nofun];refine⟨C2,a,by rw[Rs];exact b,?_⟩;have:DO (rA wh C2 a r.1)=rA wh C2 a (DO r.1):=by
   unfold DO;show(if r.1.Bt=r.1.fuel then _ else if r.1.B5 then _ else _)=_;split
   ·exact R4 1
   ·split<;>rfl
  rw[this];rfl
 |true=>
  have p:r.1.B5=false:=by
   unfold Dt at hb;grind
  let ⟨q,m⟩:=r
  cases m with
  |none=>grind
  |some v=>exact⟨C2,a,b,Prod.ext rfl (congrArg I (Rc b f.2.2.1 f.2.2.2))⟩
def rT(b:Int->Int)(a:TD):TD:=(a.1,if 0<=a.2 then b a.2 else a.2)
theorem Awe(a:Cb):H1 (rC wh a)=H1 a:=by
 unfold H1;show(if a.BB=1 then Lib.itoa (rC wh a).n else if a.BB=3 then 40::Lib.itoa (rC wh a).n else _)=_;by_cases b:a.BB=4
 ·grind
 ·rw[RE b]
theorem Aep(b:∀a∈wi,0<=a):Gu (wi.map wh)=(Gu wi).map (rT wh):=by
 induction wi with
 |nil=>rfl
 |cons x wi ih=>
  show _::_::Gu (wi.map wh)=_::_::(Gu wi).map (rT wh);rw[ih λa c=>b a (.tail _ c)];have:=b x (.head _);simp[rT,this]
theorem As6(b:∀a∈sq.BX,0<=a):F7 (rC wh sq)=(F7 sq).map (rT wh):=by
 unfold F7;show(if sq.BB=3 then Gu (sq.BX.map wh).reverse++_ else _)=_;split
 ·rw[<-List.map_reverse,Aep λa c=>b a (Azx.1 c),AC];rfl
 ·rfl
theorem Xe(b:∀o,∃C2 a,yy o=(rA wh C2 a (yd o).1,(yd o).2)):∃C2 a,Ek va (rA wh nv D c) o yy=(rA wh C2 a (Ek va c o yd).1,(Ek va c o yd).2):=by
 unfold Ek;split
 ·exact b _
 ·exact⟨nv,D,by rw[R4]⟩
theorem UQ{i l:List Bx}{j:Int->Int}{u:Nat->Nat->Int}(n:Rn i l j)(m:Dz i u):∀b {k:List TD} {a:BE} {t:List UInt8} {e:List Cb} {g:Int},D4 i a->HN k a->CR i l j a.cells e->∃C2 o,Fo l b (k.map (rT j)) (rA j e g a) t=(rA j C2 o (Fo i b k a t).1,(Fo i b k a t).2)
 |b,[],a,t,e,g,_,_,_=>by cases b<;>exact⟨e,g,rfl⟩
 |0,_::_,a,t,e,g,_,_,_=>⟨e,g,rfl⟩
 |b+1,(s,c)::k,a,t,e,g,hW,hT,h=>by
  show ∃C2 o,Fo l (b+1) ((s,if 0<=c then j c else c)::_) _ t=_;simp[Fo];by_cases d:0<=c
  ·have p:=hT _ (Aw3 ..);rw[if_pos d,if_pos (h.rg n d p).1,if_pos d];let ⟨C2,o,w,v⟩:=Ar1 n m hW ⟨d,p⟩ h (g:=g)
   rw[v];rcases OT m hW ⟨d,p⟩ with⟨H,G,-,-,-,-,-,q,x,y,E,r⟩|⟨q,-,-⟩
   ·rw[q];simp only[Azb];rw[Awe];refine Xe λD=>?_;rw[As6 λB z=>(r.f B z).1,<-AC];exact UQ n m b x (hT.more r y) w
   grind
  ·rw[if_neg d,if_neg d,if_neg d];exact Xe λD=>UQ n m b hW hT.tail h
theorem Aje(f:Rn i nz wh):CR i nz wh (F3 (L i)) (F3 (L nz)):=by
 have e:∀{d:Nat} {a:Int},0<=a->a<d->((F3 d)[a.toNat]?).getD c0=⟨4,a,0,0,[]⟩:=fun {d a} c b=>by
  unfold F3;grind
 refine⟨by simp[F3];omega,by simp[F3],λa c b=>?_⟩;have g:((F3 (L i)).length)=L i:=by simp[F3]
 rw[g]at b;have:=f.lo a c b;rw[e this.1 this.2,e c b];rfl
theorem Aod(f:Rn i nz wh)(e:Dz i wx){a:Int}(h:0<=a/\a<(L i:Int))(b c:Int):
 (Du nz (wh a) b c).2=(Du i a b c).2/\(Du nz (wh a) b c).1.BB=(Du i a b c).1.BB/\(Du nz (wh a) b c).1.Bt=(Du i a b c).1.Bt/\(Du nz (wh a) b c).1.used=(Du i a b c).1.used:=by
 have m:HN [([],a)] (KK (L i) b c):=λo n=>by
  rw[Ax.1 n];show a<((F3 (L i)).length);simpa[F3]using h.2
 let ⟨C2,l,d⟩:=UQ f e (tM [([],a)] (KK (L i) b c)) (t:=[]) (g:=0) (S6 e.Q9 b c) m (Aje f)
 have j:[(([],a))].map (rT wh)=[([],wh a)]:=by simp[rT,h.1]
 rw[j]at d;have k:Du nz (wh a) b c=(rA wh C2 l (Du i a b c).1,(Du i a b c).2):=d;rw[k];exact⟨rfl,rfl,rfl,rfl⟩
theorem Ac7(g:List BD):∀a c d i f j,a[d]?=I f->f.Bv[i]?=I j->(JM g a c)[Cg a d+i]?=I (J4 g f (c+Cg a d) j)
 |[],c,d,i,f,j,h,_=>by simp at h
 |b::a,c,0,i,f,j,h,e=>by
  simp at h;subst h;have:=(AK.1 e).1;show((b.Bv.map (J4 g b c))++JM g a (c+L b.Bv))[0+i]?=_;rw[Bg,A8 (by simpa using this),Awt,e];rfl
 |b::a,c,d+1,i,f,j,h,e=>by
  have:=Ac7 g a (c+L b.Bv) d i f j (by simpa using h) e;have hb:Cg (b::a) (d+1)=L b.Bv+Cg a d:=rfl;show((b.Bv.map (J4 g b c))++JM g a (c+L b.Bv))[_]?=_;grind
theorem YU:∀c a,a<(c.map λb=>L b.Bv).sum->∃d e b f,c[d]?=I b/\b.Bv[e]?=I f/\a=Cg c d+e
 |[],a,h=>by simp at h
 |P::c,a,h=>by
  rcases Aw8 a (L P.Bv) with g|g
  ·exact⟨0,a,P,_,rfl,Af g,by simp[Cg]⟩
  ·obtain⟨d,e,b,f,i,j,k⟩:=YU c (a-L P.Bv) (by simp at h;omega);exact⟨d+1,e,b,f,i,j,by simp[Cg]at k ⊢;omega⟩
theorem Aat:∀a {j k b c:Nat} {d f:BD} {g i:Bx},a[j]?=I d->d.Bv[b]?=I g->a[k]?=I f->f.Bv[c]?=I i->Cg a j+b=Cg a k+c->j=k/\b=c
 |[],j,k,b,c,d,f,g,i,h,_,_,_,_=>by simp at h
 |P::a,0,0,b,c,d,f,g,i,h1,e1,h2,e2,e=>⟨rfl,O1⟩
 |P::a,0,k+1,b,c,d,f,g,i,h1,e1,h2,e2,e=>by
  simp at h1;subst h1;have:=(AK.1 e1).1;simp[Cg]at e;omega
 |P::a,j+1,0,b,c,d,f,g,i,h1,e1,h2,e2,e=>by
  simp at h2;subst h2;have:=(AK.1 e2).1;simp[Cg]at e;omega
 |P::a,j+1,k+1,b,c,d,f,g,i,h1,e1,h2,e2,e=>by
  have:=Aat a (by simpa using h1) e1 (by simpa using h2) e2 (by simp[Cg]at e ⊢;omega);omega
theorem X7{e:Oy}:∀{b:List Bx} {c d:Nat} {a:Bx},(b.map (·.Bo)).Nodup->b[c]?=I a->a.exp=true->a.Bo=e->GL e b d=I (d+c,a.BH)
 |[],c,d,a,_,h,_,_=>by simp at h
 |x::b,0,d,a,_,h,he,ht=>by
  simp at h;subst h;rw[GL,he,ht];simp
 |x::b,c+1,d,a,hn,h,he,ht=>by
  rw[A1,Axj]at hn;have f:b[c]?=I a:=by simpa using h
  have i:x.Bo≠e:=λg=>hn.1 (AE.2 ⟨a,Aw1 f,by rw[ht,g]⟩);rw[GL,X7 hn.2 f he ht];simp[i];omega
theorem Rr{d:Oy}:∀{b:List Bx} {c:Nat},(∀a∈b,a.exp=true->a.Bo≠d)->GL d b c=N
 |[],c,_=>rfl
 |x::b,c,h=>by
  rw[GL,Rr λa e=>h a (.tail _ e)];grind
theorem Xn{k:Oy}:∀{d:List BD} {c j n f:Nat} {b:BD} {a:Bx},d[c]?=I b->(b.Bv.map (·.Bo)).Nodup->b.Bv[f]?=I a->a.exp=true->a.Bo=k->(∀i g,i<c->d[i]?=I g->∀a∈g.Bv,a.exp=true->a.Bo≠k)->FQ k d j n=I (n+Cg d c+f,j+c,a.BH)
 |[],c,j,n,f,b,a,h,_,_,_,_,_=>by simp at h
 |P::d,0,j,n,f,b,a,h,hn,e,he,ht,_=>by
  simp at h;subst h;rw[FQ,X7 hn e he ht];rfl
 |P::d,c+1,j,n,f,b,a,h,hn,e,he,ht,hk=>by
  rw[FQ,Rr (hk 0 P O1 rfl)];rw[Xn (by simpa using h) hn e he ht λi g m l=>hk (i+1) g O1 (by simpa using l)];simp[Cg];omega
def El(a:BD):List Oy:=a.Bv.map (·.Bo)
def nr(a:List BD)(b:Nat)(c:Oy):Int:=(Cg a b:Int)+Cu c ((a[b]?.map El).getD [])
theorem OU.nn(a:OU w1 f wm nw i):(El w1).Nodup:=by
 have:=a.nd;unfold D3 at this;rw[<-a.k]at this;have b:=a.g.map (·.Bo);rw[A4]at b;exact b.nodup_iff.2 (AY.1 this).2.1
theorem OU.pos{e:List Oy}(c:OU w1 e wm nw i)(j:(wm++nw.flatten)[w]?=I nt):∃(d:Nat) (b:Bx),i[w]?=I b/\b.Bo=nt.1/\b.BH=(L nt.2.1:Int)/\b.exp=!Ce nt.1/\w1.Bv[d]?=I {b with Bj:=b.Bj.map (EI (D3 e wm nw) (e++El w1))}/\Cu nt.1 (El w1)=(d:Int):=by
 obtain⟨p,n,q,o,g,-,-,h,-⟩:=c.f.a w (by have:=(AK.1 j).1;rw[c.f.l]at this;omega);rw[j]at g;cases g;let ⟨d,m,k⟩:=AQ (c.g.mem_iff.2 (AE.2 ⟨_,Aw1 h,rfl⟩))
 exact⟨d,_,h,rfl,rfl,rfl,(Af m).trans (congrArg I k),OD c.nn (by unfold El;grind)⟩
theorem OU.inv{h:List Oy}(a:OU w1 h wm nw i){d:Bx}(m:w1.Bv[w]?=I d):∃(b:Nat) (c:BI),(wm++nw.flatten)[b]?=I c/\c.1=d.Bo/\Cu c.1 (El w1)=(w:Int)/\d.exp=!Ce c.1:=by
 obtain⟨r,n,rfl⟩:=AE.1 (a.g.mem_iff.1 (Aw1 m));obtain⟨b,o,rfl⟩:=AQ n;have g:b<(wm++nw.flatten).length:=by rwa[a.f.l,<-a.f.g]
 obtain⟨t,s,e,j,-,k,p,q⟩:=a.pos (Af g);rw[Af o]at e;cases e;refine⟨b,_,Af g,j.symm,?_,k⟩;exact OD a.nn (by unfold El;grind)
theorem OU.uq(e:OU w1 f wm nw i){a:Nat}{b:BI}(c:(wm++nw.flatten)[w]?=I nt)(d:(wm++nw.flatten)[a]?=I b)(j:nt.1=b.1):w=a:=by
 obtain⟨g,rfl⟩:=AK.1 c;obtain⟨h,rfl⟩:=AK.1 d;exact(List.getElem_inj (h₀:=O6) (h₁:=O6) (AY.1 e.nd).2.1).1 O6
theorem OU.fst(d:OU w1 f wm nw i)(a:(wm++nw.flatten)[w]?=I nt)(e:Ce nt.1=false):wm[w]?=I nt:=by
 rcases Aw8 w (L wm) with b|b
 ·grind
 ·rw[Bi b]at a;have:=d.c nt (Aw1 a);grind
theorem OU.wd(b:OU w1 f wm nw i)(a:nt∈wm):Ce nt.1=false:=b.w _ (Ag.2 (.inr (Axa a)))
structure Dj (a:List BD) (d:Nat->List Oy) (b:Nat->List BI) (e:Nat->List (List BI)) (c:Nat->List Bx):Prop where
 u:∀{k:Nat} {O:BD},a[k]?=I O->OU O (d k) (b k) (e k) (c k)
 x:∀{k k':Nat} {O O':BD} {i i':Nat} {t t':BI},a[k]?=I O->a[k']?=I O'->(b k)[i]?=I t->(b k')[i']?=I t'->t.1=t'.1->k=k'/\i=i'
 i:∀{k:Nat} {O:BD} {y:Dv},a[k]?=I O->y∈O.BG->∃(k':Nat) (O':BD) (i:Nat) (t:BI),a[k']?=I O'/\(b k')[i]?=I t/\t.1=y.Bo/\(L t.2.1:Int)=y.BH
theorem Ni(a:H[w]?=I w1)(b:Cu m (El w1)=(s:Int)):nr H w m=((Cg H w+s:Nat):Int):=by
 unfold nr;grind
theorem Dj.at{i:Nat}(j:Dj H n7 nd nj v2)(e:H[w]?=I w1)(h:(nd w++(nj w).flatten)[i]?=I nt):∃(a:Bx) (b:Nat),(v2 w)[i]?=I a/\a.BH=(L nt.2.1:Int)/\nr H w nt.1=(b:Int)/\(Cj H)[b]?=I (J4 H w1 (Cg H w) {a with Bj:=a.Bj.map (EI (D3 (n7 w) (nd w) (nj w)) (n7 w++El w1))}):=by
 obtain⟨k,a,c,-,d,-,f,g⟩:=(j.u e).pos h;have:=Ac7 H H 0 w k w1 _ e f;rw[Bg]at this;exact⟨a,_,c,d,Ni e g,this⟩
theorem Avv(a:List BD):(Cj a).length=(a.map λb=>L b.Bv).sum:=S9 a a 0
theorem Dj.any(k:Dj H n7 nd nj v2){f:Nat}(g:f<(Cj H).length):∃(a:Nat) (c:BD) (e:Nat) (b:BI),H[a]?=I c/\(nd a++(nj a).flatten)[e]?=I b/\nr H a b.1=(f:Int):=by
 rw[Avv]at g;obtain⟨a,m,c,l,d,j,rfl⟩:=YU H f g;obtain⟨e,b,h,-,i,-⟩:=(k.u d).inv j;exact⟨a,c,e,b,d,h,Ni d i⟩
theorem Dj.uq{a:List BD}{q r:BD}{p:Nat->List Oy}{e:Nat->List BI}{f:Nat->List (List BI)}{o:Nat->List Bx}{m n:BI}{k l b c:Nat}(h:Dj a p e f o)(d:a[b]?=I q)(g:a[c]?=I r)(i:(e b++(f b).flatten)[k]?=I m)(j:(e c++(f c).flatten)[l]?=I n)(x:nr a b m.1=nr a c n.1):b=c/\k=l:=by
 obtain⟨E,B,-,y,-,-,s,t⟩:=(h.u d).pos i;obtain⟨G,D,-,z,-,-,v,w⟩:=(h.u g).pos j;rw[Ni d t,Ni g w]at x;let ⟨rfl,rfl⟩:=Aat a d s g v O1
 exact⟨rfl,(h.u d).uq i j O6⟩
theorem Dj.ex(b:Dj H n7 nd nj v2)(a:H[s]?=I w1)(d:(nd s)[w]?=I nt):∃e:Nat,nr H s nt.1=(e:Int)/\Gj H nt.1=I (e,s,(L nt.2.1:Int)):=by
 have m:(nd s++(nj s).flatten)[w]?=I nt:=O6;obtain⟨G,v,-,f,t,g,h,i⟩:=(b.u a).pos m;refine⟨_,Ni a i,?_⟩;have:=Xn (j:=0) (n:=0) a (b.u a).nn h (by rw[g,(b.u a).wd (Aw1 d)];rfl) f λE r z c y o B q=>by
  obtain⟨K,p,rfl⟩:=AQ o;obtain⟨D,M,k,l,-,b4⟩:=(b.u c).inv (Af p);have:=(b.x a c d ((b.u c).fst k O6) (by rw[l,q])).1;omega
 unfold Gj;grind
theorem Dj.gl{e:Nat->List BI}(j:Dj H n7 e nj v2)(i:H[w]?=I w1){f:Nat}(b:(D3 (n7 w) (e w) (nj w))[f]?=I m):
 (f<(n7 w).length->∃(d:Nat) (g:BD) (k:Nat) (a:BI),H[d]?=I g/\(e d)[k]?=I a/\a.1=m/\G2 H w1 (Cg H w) (Cu m (n7 w++El w1))=nr H d m)/\(∀h,f=(n7 w).length+h->∃a,(e w++(nj w).flatten)[h]?=I a/\a.1=m/\G2 H w1 (Cg H w) (Cu m (n7 w++El w1))=nr H w m):=by
 have c:=j.u i;have E:(L w1.BG)=(n7 w).length:=by rw[<-c.i,An]
 constructor
 ·intro v;unfold D3 at b;rw[A8 v]at b;have q:Cu m (n7 w++El w1)=f:=by
   rw[Vv (Aw1 b)];have:=c.nd;exact OD (AY.1 this).1 b
  rw[<-c.i,Awt]at b;obtain⟨K,x,rfl⟩:=AB.1 b;obtain⟨d,g,k,a,l,n,b3,-⟩:=j.i i (Aw1 x);let ⟨G,z,B⟩:=j.ex l n
  refine⟨d,g,k,a,l,n,b3,?_⟩;unfold G2;grind
 ·rintro h rfl;unfold D3 at b;rw[Bi O1,Ay8,Awt]at b;obtain⟨a,p,rfl⟩:=AB.1 b;obtain⟨y,D,-,r,-,-,s,t⟩:=c.pos p;refine⟨a,p,rfl,?_⟩;have q:Cu a.1 (n7 w++El w1)=(((n7 w).length+y)):=by
   refine OD ?_ (by rw[Bi O1,Ay8];unfold El;rw[Awt,s];exact congrArg I r);have:=c.nd;have o:=c.g.map (·.Bo);rw[A4]at o;exact(List.Perm.append_left _ (o.trans (by rw[<-c.k];exact .refl _))).nodup_iff.2 this
  rw[q,Ni i t];unfold G2;omega
theorem F2.d7{c:wa->n3->Prop}{f:wa->y3}{g:n3->y3}{a:List wa}{b:List n3}(h:F2 c a b)(i:∀d∈a,∀e∈b,c d e->f d=g e):a.map f=b.map g:=by
 induction h with
 |nil=>rfl
 |cons h _ ih=>grind
theorem Dj.nm(e:Dj H n7 nd nj v2)(b:H[w]?=I w1){a:Nat}(l:(D3 (n7 w) (nd w) (nj w))[a]?=I m)(n:Ce m=false):∃(c:Nat) (g:BD) (o:Nat) (t:BI),H[c]?=I g/\(nd c)[o]?=I t/\t.1=m/\G2 H w1 (Cg H w) (Cu m (n7 w++El w1))=nr H c m:=by
 let ⟨j,k⟩:=e.gl b l
 rcases Aw8 a (n7 w).length with f|f
 ·exact j f
 ·obtain⟨t,h,d,i⟩:=k (a-(n7 w).length) O1;exact⟨w,w1,_,t,b,(e.u b).fst h (d▸n),d,i⟩
def QQ(b k:List BD)(c:Nat->List BI)(f:Nat->List (List BI))(d:List BI)(e:List (List BI))(m n:Nat):Prop:=∃(a:Nat) (l:BD) (g h:Nat) (i j:BI),b[a]?=I l/\Pd c f d e a g h/\(c a++(f a).flatten)[g]?=I i/\(d++e.flatten)[h]?=I j/\nr b a i.1=(m:Int)/\nr k 0 j.1=(n:Int)
theorem QQ.fn{b a:List BD}{o:BD}{m n:Nat->List Oy}{c d:Nat->List BI}{e f:Nat->List (List BI)}{k l:Nat->List Bx}{h i j:Nat}(y:Dj b m c e k)(z:Dj a n d f l)(v:a[0]?=I o)(w:QQ b a c e (d 0) (f 0) h i)(x:QQ b a c e (d 0) (f 0) h j):i=j:=by
 let ⟨ab,B,O,Y,af,ag,p,q,r,E,G,H⟩:=w
 let ⟨ac,D,U,aa,ad,ae,s,t,b3,b4,K,M⟩:=x
 let ⟨rfl,rfl⟩:=y.uq p s r b3 O1
 have g:=(z.u v).nd;unfold D3 at g;rw[AC]at g;obtain rfl:=q.fn (AY.1 (AY.1 g).2.1).1 t;grind
theorem QQ.inj{b a:List BD}{o:BD}{m n:Nat->List Oy}{c d:Nat->List BI}{e f:Nat->List (List BI)}{k l:Nat->List Bx}{h i j:Nat}(z:Dj b m c e k)(B:Dj a n d f l)(g:a[0]?=I o)(w:QQ b a c e (d 0) (f 0) i h)(y:QQ b a c e (d 0) (f 0) j h):i=j:=by
 let ⟨ad,E,Y,ab,ah,ai,p,q,H,r,K,M⟩:=w
 let ⟨ae,G,aa,ac,af,ag,s,t,b3,b4,O,U⟩:=y
 obtain⟨-,rfl⟩:=B.uq g g r b4 O1;let ⟨rfl,rfl⟩:=q.inj (λu v D=>z.x p s u v D) t
 grind
theorem ZI(a:wv.op≠1):Es H w1 w (EI f wq wv)=wv:=by
 unfold Es EI;grind
theorem Ac0(c:wv.op=1){b:Oy}(d:f[wv.a.toNat]?=I b):Es H w1 w (EI f wq wv)={wv with a:=G2 H w1 w (Cu b wq)}:=by
 unfold Es EI;grind
theorem Aeg{P:BD}{p:Nat->List BI}{aF:Nat->List Bx}(q:Dj H n7 p nj v2)(w:Dj vw yf xh xy aF)(v:vw[0]?=I P)(aQ:∀{b:Nat} {g:BD},vw[b]?=I g->b=0)(hb:∀{b:Nat} {g:BD} {e i:BI},H[b]?=I g->e∈p b->i∈xh 0->e.1=i.1->tS e i)(aR:∀{b:Nat} {g:BD} {e:BI},H[b]?=I g->e∈p b->∃i∈xh 0,e.1=i.1):
 ∃o,Rn (Cj H) (Cj vw) o/\∀{b:Nat} {g:BD} {e i:BI},H[b]?=I g->e∈p b->i∈xh 0->e.1=i.1->o (nr H b e.1)=nr vw 0 i.1:=by
 have U:=(w.u v).f;have bb:∀{b:Nat} {g:BD} {r:Nat} {e:BI} {c:Nat},H[b]?=I g->(p b++(nj b).flatten)[r]?=I e->nr H b e.1=c->c<(Cj H).length:=λh k ag=>by
  obtain⟨j,a1,-,-,d,m⟩:=q.at h k;grind
 have bi:∀c<(Cj H).length,∃n<(Cj vw).length,QQ H vw p nj (xh 0) (xy 0) c n:=λc ag=>by
  let ⟨b,g,r,e,h,k,aV⟩:=q.any ag
  have ap:=(q.u h).f;let ⟨u,B⟩:=Pd.all ap U (hb h) (aR h) r (by rw[<-ap.l];exact(AK.1 k).1)
  obtain⟨bg,aE,K,y,-⟩:=B.same ap U (hb h);obtain⟨j,n,-,-,d,m⟩:=w.at v y;exact⟨n,(AK.1 m).1,b,g,r,u,e,aE,h,B,k,y,aV,d⟩
 have aS:∀c:Int,∃n:Int,(0<=c->c<((Cj H).length:Int)->0<=n/\n<((Cj vw).length)/\QQ H vw p nj (xh 0) (xy 0) c.toNat n.toNat)/\(((Cj H).length)<=c->n=c+(((Cj vw).length)-((Cj H).length:Int))):=λc=>by
  by_cases aP:0<=c/\c<((Cj H).length)
  ·let ⟨n,d,m⟩:=bi c.toNat O1
   exact⟨n,λ_ _=>⟨O1,O1,by rw[Bd];exact m⟩,λao=>O1⟩
  ·exact⟨_,λd m=>absurd ⟨d,m⟩ aP,λ_=>rfl⟩
 let ⟨o,t⟩:=Classical.skolem.1 aS
 have aZ:∀{c n:Nat},QQ H vw p nj (xh 0) (xy 0) c n->o c=n:=fun {c n} x=>by
  obtain⟨b,g,r,u,e,i,af,-,a3,-,aI,-⟩:=id x;have:=bb af a3 aI;let ⟨d,m,ao⟩:=(t c).1 O1 O1
  rw[Bd]at ao;have:=QQ.fn q w v x ao;omega
 have aC:∀{b:Nat} {g:BD} {r u:Nat} {e i:BI},H[b]?=I g->Pd p nj (xh 0) (xy 0) b r u->(p b++(nj b).flatten)[r]?=I e->(xh 0++(xy 0).flatten)[u]?=I i->o (nr H b e.1)=nr vw 0 i.1:=fun {b g r u e i} h B k s=>by
  obtain⟨j,c,-,-,d,-⟩:=q.at h k;obtain⟨bl,n,-,-,m,-⟩:=w.at v s;rw[d,m];exact aZ ⟨b,g,r,u,e,i,h,B,k,s,d,m⟩
 have aB:∀{b:Nat} {g:BD} {r u:Nat} {e i:BI},H[b]?=I g->(p b)[r]?=I e->(xh 0)[u]?=I i->e.1=i.1->o (nr H b e.1)=nr vw 0 i.1:=λh k s aq=>
  aC h (.base k s aq) (by rw[A8 (AK.1 k).1,k]) (by rw[A8 (AK.1 s).1,s])
 have a5:∀j:Int,0<=j->j<((Cj H).length)->(C5 (Cj vw) (o j)).BH=(C5 (Cj H) j).BH/\(C5 (Cj vw) (o j)).Bj=(C5 (Cj H) j).Bj.map (rI o):=λj M O=>by
  let ⟨ab,ac,b,g,r,u,e,i,h,B,k,s,d,m⟩:=(t j).1 M O
  let ⟨ad,c,af,aG,a3,aH⟩:=q.at h k
  let ⟨ae,n,a4,aJ,b3,b4⟩:=w.at v s
  have ah:tS e i:=by
   let ⟨bg,aE,K,y,ah⟩:=B.same (q.u h).f U (hb h)
   rw[k]at K;cases K;rw[s]at y;cases y;exact ah
  obtain⟨bp,bq,bw,bx,aL,aM,a6,a7,-,-,aN⟩:=(q.u h).f.pair U k s ah;rw[af]at a6;cases a6;rw[a4]at a7;cases a7;have K:C5 (Cj H) j=J4 H g (Cg H b) {ad with Bj:=ad.Bj.map (EI (D3 (n7 b) (p b) (nj b)) (n7 b++El g))}:=by
   unfold C5;rw[show j.toNat=c by omega,aH];rfl
  have y:C5 (Cj vw) (o j)=J4 vw P (Cg vw 0) {ae with Bj:=ae.Bj.map (EI (D3 (yf 0) (xh 0) (xy 0)) (yf 0++El P))}:=by
   unfold C5;rw[show(o j).toNat=n by omega,b4];rfl
  rw[K,y];refine⟨by show ae.BH=ad.BH;rw[aG,aJ,ah.1],?_⟩;show(ae.Bj.map _).map _=((ad.Bj.map _).map _).map _;rw[A4,A4,A4];refine(aN.d7 λE aX G aY ar=>?_).symm;let ⟨z,aj,bd,be⟩:=ar
  show rI o (Es _ _ _ (EI _ _ E))=Es _ _ _ (EI _ _ G);by_cases d:E.op=1
  ·have D:=(q.u h).a ad (Aw1 af) E aX d;have ak:=(w.u v).a ae (Aw1 a4) G aY (z▸d);have a8:∀{an a2:Oy} {ax ay:Int},(D3 (n7 b) (p b) (nj b))[E.a.toNat]?=I an->(D3 (yf 0) (xh 0) (xy 0))[G.a.toNat]?=I a2->G2 H g (Cg H b) (Cu an (n7 b++El g))=ax->G2 vw P (Cg vw 0) (Cu a2 (yf 0++El P))=ay->o ax=ay->rI o (Es H g (Cg H b) (EI (D3 (n7 b) (p b) (nj b)) (n7 b++El g) E))=Es vw P (Cg vw 0) (EI (D3 (yf 0) (xh 0) (xy 0)) (yf 0++El P) G):=fun {an a2 ax ay} Y aa k3 k4 k5=>by
    rw[Ac0 d Y,Ac0 (z▸d) aa,k3,k4,<-k5];unfold rI;rw[if_pos d];let ⟨_,_,_⟩:=E
    let ⟨_,_,_⟩:=G
    simp only at z aj ⊢;rw[z,aj]
   rcases(q.u h).f.Bv U (q.u h).nd (w.u v).nd B aL aM (bd d) D.1 ak.1 with⟨an,a9,Y,aa⟩|⟨aK,aO,bf,Y,aa⟩
   ·let ⟨bn,bj,ia,bt,au,av,aw,ba⟩:=q.nm h Y a9
    let ⟨bo,bk,bm,bh,az,a0,ai,bc⟩:=w.nm v aa a9
    obtain rfl:=aQ az;subst aw;exact a8 Y aa ba bc (by have:=aB au av a0 ai.symm;rwa[ai]at this)
   ·have am:=Af D.2;have a1:=Af ak.2;let ⟨bh,au,av,aw⟩:=(q.gl h am).2 aK O1
    let ⟨bu,az,a0,ai⟩:=(w.gl v a1).2 aO O1
    exact a8 am a1 aw ai (by rw[<-av,<-a0];exact aC h bf au az)
  ·rw[ZI d,ZI (z▸d),YP d];let ⟨_,_,_⟩:=E
   let ⟨_,_,_⟩:=G
   have:=be d;simp only at z aj this ⊢;rw[z,aj,this]
 refine⟨o,⟨λc ag=>(t c).2 ag,λc al am=>?_,λc x al aD aW=>?_,λj M O=>(a5 j M O).1,λj M O=>(a5 j M O).2⟩,λh k s aq=>?_⟩
 ·obtain⟨ab,ac,-⟩:=(t c).1 al am;exact⟨ab,ac⟩
 ·rcases Int.lt_or_le c (Cj H).length with d|d<;>rcases Int.lt_or_le x (Cj H).length with m|m
  ·let ⟨ab,ac,D⟩:=(t c).1 al d
   let ⟨br,bs,ak⟩:=(t x).1 aD m
   rw[aW]at D;have:=QQ.inj q w v D ak;omega
  ·let ⟨ab,ac,D⟩:=(t c).1 al d
   have:=(t x).2 m;omega
  ·let ⟨ab,ac,D⟩:=(t x).1 aD m
   have:=(t c).2 d;omega
  ·have:=(t x).2 m;have:=(t c).2 d;omega
 ·obtain⟨r,ar,rfl⟩:=AQ k;obtain⟨u,aT,rfl⟩:=AQ s;exact aB h (Af ar) (Af aT) aq
theorem Px{f:Type}{e:Nat->f->Bool}:∀{d:List f} {b:Nat},(∀a c,d[a]?=I c->e (b+a) c=false)->B4 e d b=N
 |[],_,_=>rfl
 |c::d,b,h=>by
  have:=h 0 c rfl;rw[Az7]at this;rw[B4,this,if_neg nofun];exact Px λa i g=>by
   rw[show b+1+a=b+(a+1) by omega];simp_all
theorem Uk{g:Oy}:∀{c:List BD} {e f:Nat},(∀(b:Nat) a,c[b]?=I a->∀d∈a.Bv,d.exp=true->d.Bo≠g)->FQ g c e f=N
 |[],_,_,_=>rfl
 |P::c,e,f,h=>by
  rw[FQ,Rr (h 0 P rfl)];exact Uk λb a i=>h (b+1) a (by simpa using i)
theorem Dj.one(a:Dj H n7 nd nj v2)(c:H[w]?=I w1)(i:w1.Bv[b]?=I ve)(p:ve.exp=true)(d:H[s]?=I sl)(k:sl.Bv[j]?=I zr)(m:zr.exp=true)(l:ve.Bo=zr.Bo):w=s/\b=j:=by
 let ⟨q,t,e,f,n,o⟩:=(a.u c).inv i
 let ⟨r,v,g,h,b3,b4⟩:=(a.u d).inv k
 let ⟨rfl,rfl⟩:=a.x c d ((a.u c).fst e O6) ((a.u d).fst g (by rw[m]at b4;simpa using b4.symm)) (by rw[f,h,l])
 grind
theorem Dj.imp(b:Dj H n7 nd nj v2)(g:H[w]?=I w1){a:Dv}(h:a∈w1.BG):∃d c,Gj H a.Bo=I (d,c,a.BH):=by
 let ⟨c,i,k,l,e,f,b3,b4⟩:=b.i g h
 obtain⟨d,-,j⟩:=b.ex e f;grind
theorem Dj.d3(d:Dj H n7 nd nj v2)(v:(L H)<=8):HV H:=by
 refine⟨v,Px λe b a=>?_,Px λe b a=>?_,Px λe b a=>?_⟩
 ·rw[Bg];unfold HR;rw[Px λp g m=>?_]
  ·rfl
  ·rw[Bg];unfold Io;cases hx:g.exp with
   |false=>rfl
   |true=>
    have s:D7 H e g.Bo=none:=by
     unfold D7;rw[Uk λq y f o h k j=>?_]
     ·rfl
     ·have u:=(AK.1 f).1;rw[Awx]at u;rw[Azu O1]at f;obtain⟨r,i,rfl⟩:=AQ h;have:=(d.one a m hx f (Af i) k j.symm).1;omega
    have t:GL g.Bo (b.Bv.take p) (Cg H e)=none:=Rr λo h k j=>by
     let ⟨r,i,c⟩:=AQ h
     have n:(b.Bv.take p)[r]?=I o:=O6;rw[Awx]at i;rw[Azu O1]at n;have:=(d.one a m hx a n k j.symm).2;omega
    unfold FX;rw[s,t];rfl
 ·unfold G8;rw[Ax9];intro x l;let ⟨w,q,c⟩:=d.imp a l
  rw[c];simp
 ·unfold JG;rw[Ax9];intro x l;let ⟨w,q,c⟩:=d.imp a l
  rw[c];simp
theorem Dj.fj(e:Dj H n7 nd nj v2):(∃l n,Gj H m=I (l,n,0))↔∃a c b,H[a]?=I c/\b∈nd a/\b.1=m/\b.2.1=[]:=by
 constructor
 ·rintro⟨l,n,h⟩;by_cases j:∃a c b,H[a]?=I c/\b∈nd a/\b.1=m
  ·obtain⟨a,c,b,d,f,rfl⟩:=j;obtain⟨k,i,rfl⟩:=AQ f;obtain⟨t,-,g⟩:=e.ex d (Af i);rw[h]at g;simp[Bah,Aw0]at g;exact⟨a,c,_,d,f,rfl,Axy O1⟩
  ·have:Gj H m=none:=Uk λa c d x q z s=>by
    obtain⟨B,r,rfl⟩:=AQ q;let ⟨k,b,o,p,v,w⟩:=(e.u d).inv (Af r)
    exact j ⟨a,c,b,d,Aw1 ((e.u d).fst o O6),by rw[p,s]⟩
   grind
 ·rintro⟨a,c,b,h,f,rfl,y⟩;obtain⟨k,i,rfl⟩:=AQ f;obtain⟨t,-,g⟩:=e.ex h (Af i);simp_all
theorem Dj.size{D:Nat->List BI}{G:Nat->List Bx}(d:Dj H n7 D nj G):sz H<=90000*L H:=by
 have:∀l:List BD,(∀a∈l,Ma a<=90000)->sz l<=90000*L l:=λl c=>by
  induction l with
  |nil=>exact Ac _
  |cons a l ih=>
   have g:=c a (.head _);have e:=ih λa b=>c a (.tail _ b);simp[sz,A1,Axm,AO]at e ⊢;omega
 refine this H λa b=>?_;obtain⟨k,f,rfl⟩:=AQ b;exact(d.u (Af f)).z
theorem Dj.eG{f:Oy}(c:Dj H n7 nd nj v2)(k:(L H)<=2):DZ H f↔∃g h e,H[g]?=I h/\e∈nd g/\e.1=f/\e.2.1=[]:=by
 have b:=c.d3 O1;have n:=c.size;rw[<-c.fj];exact⟨λj=>j.e,λi=>⟨b.l,b.d,b.m,b.a,i,O1⟩⟩
theorem Dj.main{k:Nat}(e:Dj H n7 nd nj v2)(d:H[k]?=I w1){a:BI}(g:a∈nd k):Dx H a.1=nr H k a.1:=by
 obtain⟨h,f,rfl⟩:=AQ g;let ⟨i,b,c⟩:=e.ex d (Af f)
 unfold Dx;rw[c,b]
theorem F2.ml{a:wa->n3->Prop}{d:List wa}{e:List n3}(c:F2 a d e){b:wa}(g:b∈d):∃f∈e,a b f:=by
 induction c with
 |nil=>cases g
 |cons c _ ih=>grind
theorem F2.mr{a:wa->n3->Prop}{d:List wa}{e:List n3}(c:F2 a d e){b:n3}(hb:b∈e):∃f∈d,a f b:=by
 induction c with
 |nil=>cases hb
 |cons c _ ih=>grind
def tkE(a:DD):BI:=(a.1.1,a.2.1.map (·.1),a.2.2)
def Ha(c:Oy)(b:DL)(d:BI):Prop:=∃a,DX c b a/\d=tkE a
theorem Ha.nm{t:BI}(a:Ha m vc t):t.1=byA vc.1/\t.2.1=vc.2.1.map byA:=by
 obtain⟨d,⟨_,_,_,_,-,-,-,b,c⟩,rfl⟩:=a;exact⟨b,c⟩
theorem Ha.ts{t:BI}(b:Ha m vc t)(c:Ha w0 vc nt):tS t nt:=by
 obtain⟨j,d,rfl⟩:=b;obtain⟨k,e,rfl⟩:=c;obtain⟨-,-,a,h⟩:=d.fd e;refine⟨a.2,h,λl f=>?_⟩;obtain⟨i,g,rfl⟩:=AE.1 f;exact a.1 i g
structure MO (h:Oy) (j:List (List UInt8×Nat)) (g:List DL) (b:BD) (e:List Oy) (a:List BI) (f:List (List BI)) (c:List Bx):Prop where
 u:OU b e a f c
 i:∀y∈b.BG,∃x∈j,y.Bo=byA x.1/\y.BH=(x.2:Int)
 d:F2 (Ha h) g a
theorem SJ(v:EM o)(g:∀a∈x1,EM a.1)(t:∀n∈xk,Kb n)(c:m.data.toList=Ih o x1 xk)(b:Tx m w1):∃l k e d,MO m x1 xk w1 l k e d:=by
 let ⟨H,E,D,G,e,d,p,q,r,s⟩:=b.ou
 obtain⟨-,K,u⟩:=OR p;let ⟨y,z⟩:=At3 v g t c u
 refine⟨_,_,e,d,s,λM i=>?_,?_⟩
 ·rw[r]at i;obtain⟨O,x,rfl⟩:=AE.1 i;obtain⟨B,w,rfl⟩:=AE.1 (q.mem_iff.1 x);have:=Axa (f:=λa:IT=>(a.1.1,a.2)) w;rw[y]at this;let ⟨a,g,c⟩:=AE.1 this
  simp[Aw0]at c;exact⟨a,g,c.1.symm,by show(B.2:Int)=_;omega⟩
 ·have:∀{xk:List DL} {h:List DD},F2 (DX m) xk h->F2 (Ha m) xk (h.map tkE):=λb=>by
   induction b with
   |nil=>exact .nil
   |cons b _ ih=>exact .cons ⟨_,b,rfl⟩ ih
  have j:=this z;rw[A4]at j;exact j
def KO(a:DL):List UInt8×Nat:=(a.1,L a.2.1)
def GI(b:List (DL×Bool))(a:Bool):List DL:=(b.filter λc=>c.2==a).map (·.1)
theorem Me:vc∈GI sr w4↔(vc,w4)∈sr:=by
 unfold GI;simp
theorem Ag3{Ob:BD}{nb:List UInt8}(ap:∀i∈sr,Kb i.1)(aR:EM o)(aS:EM va)(wb:EM nb)(aF:m.data.toList=Ih o ((GI sr false).map KO) (GI sr true))(aG:w0.data.toList=Ih va ((GI sr true).map KO) (GI sr false))(aH:v1.data.toList=Ih nb [] (sr.map (·.1)))(az:Tx m w1)(a0:Tx w0 sl)(tb:Tx v1 Ob):
 (HV [w1,sl]/\sz [w1,sl]<=200000)/\(HV [Ob]/\sz [Ob]<=200000)/\(DZ [w1,sl] s9↔DZ [Ob] s9)/\(DZ [w1,sl] s9->∀y B,(Du (Cj [Ob]) (Dx [Ob] s9) y B).2=(Du (Cj [w1,sl]) (Dx [w1,sl] s9) y B).2/\(Du (Cj [Ob]) (Dx [Ob] s9) y B).1.BB=(Du (Cj [w1,sl]) (Dx [w1,sl] s9) y B).1.BB):=by
 have ah:∀p,∀b∈GI sr p,Kb b:=λp b a=>ap _ (Me.1 a);have ay:∀p,∀i∈(GI sr p).map KO,EM i.1:=λp i a=>by
  obtain⟨b,h,rfl⟩:=AE.1 a;exact(ah p b h).1
 let ⟨a6,Y,aB,a3,M⟩:=SJ aR (ay false) (ah true) aF az
 let ⟨a7,aa,aC,a4,O⟩:=SJ aS (ay true) (ah false) aG a0
 obtain⟨a8,w,Nb,a5,x⟩:=SJ wb (λi a=>by cases a) (λb a=>by obtain⟨i,q,rfl⟩:=AE.1 a;exact ap i q) aH tb;have aq:(w.map (·.1)).Nodup:=by
  have:=x.u.nd;unfold D3 at this;rw[AC]at this;exact(AY.1 (AY.1 this).2.1).1
 have aO:w.map (·.1)=sr.map λi=>byA i.1.1:=by
  have:∀{al:List DL} {r:List BI},F2 (Ha v1) al r->r.map (·.1)=al.map λb=>byA b.1:=λa=>by
   induction a with
   |nil=>rfl
   |cons a _ ih=>rw[A1,A1,ih,a.nm.1]
  rw[this x.d,A4];rfl
 rw[aO]at aq;have ai:∀{i t:DL×Bool},i∈sr->t∈sr->byA i.1.1=byA t.1.1->i=t:=fun {i t} q hy e=>by
  obtain⟨v,K,rfl⟩:=AQ q;obtain⟨aX,aW,rfl⟩:=AQ hy;have:=(List.getElem_inj (h₀:=by rw[An];exact K) (h₁:=by rwa[An]) aq).1 (by rwa[AN,AN]);subst this;rfl
 let r:Nat->List BI:=λk=>if k=0 then Y else aa
 have D:∀{k:Nat} {f:BD},[w1,sl][k]?=I f->(k=0/\f=w1)\/(k=1/\f=sl):=fun {k f} a=>by
  match k,a with
  |0,a=>exact .inl ⟨rfl,(Axi a).symm⟩
  |1,a=>exact .inr ⟨rfl,(Axi a).symm⟩
 have E:∀{k:Nat} {f:BD},[Ob][k]?=I f->k=0/\f=Ob:=fun {k f} a=>by
  match k,a with
  |0,a=>exact⟨rfl,(Axi a).symm⟩
 have ab:∀{c:BI},c∈Y->∃b,(b,true)∈sr/\Ha m b c:=λa=>have ⟨b,h,d⟩:=M.d.mr a;⟨b,Me.1 h,d⟩
 have ac:∀{c:BI},c∈aa->∃b,(b,false)∈sr/\Ha w0 b c:=λa=>have ⟨b,h,d⟩:=O.d.mr a;⟨b,Me.1 h,d⟩
 have ak:∀{c:BI},c∈w->∃i∈sr,Ha v1 i.1 c:=λa=>by
  let ⟨b,h,d⟩:=x.d.mr a
  obtain⟨i,q,rfl⟩:=AE.1 h;exact⟨i,q,d⟩
 have ar:∀{b:DL},(b,true)∈sr->∃c∈Y,Ha m b c:=λa=>M.d.ml (Me.2 a);have au:∀{b:DL},(b,false)∈sr->∃c∈aa,Ha w0 b c:=λa=>O.d.ml (Me.2 a);have av:∀{i:DL×Bool},i∈sr->∃c∈w,Ha v1 i.1 c:=λa=>x.d.ml (Axa a);have z:Dj [w1,sl] (λk=>if k=0 then a6 else a7) r (λk=>if k=0 then aB else aC) (λk=>if k=0 then a3 else a4):=by
  refine⟨fun {k f} a=>?_,fun {k k' f O' v i' c l} a h' g j s=>?_,fun {k f t} a hy=>?_⟩
  ·rcases D a with⟨rfl,rfl⟩|⟨rfl,rfl⟩
   ·exact M.u
   ·exact O.u
  ·have a1:∀{f:BD} {a9:List Oy} {r:List BI} {aD:List (List BI)} {a2:List Bx},OU f a9 r aD a2->r[v]?=I c->r[i']?=I l->v=i':=λaK aj p=>aK.uq (by rw[A8 (AK.1 aj).1,aj]) (by rw[A8 (AK.1 p).1,p]) s;rcases D a with⟨rfl,rfl⟩|⟨rfl,rfl⟩<;>rcases D h' with⟨rfl,rfl⟩|⟨rfl,rfl⟩
   ·exact⟨rfl,a1 M.u g j⟩
   ·let ⟨b,h,d⟩:=ab (Aw1 g)
    let ⟨aE,ag,n⟩:=ac (Aw1 j)
    cases ai h ag (by rw[<-d.nm.1,<-n.nm.1,s])
   ·let ⟨b,h,d⟩:=ac (Aw1 g)
    let ⟨aE,ag,n⟩:=ab (Aw1 j)
    cases ai h ag (by rw[<-d.nm.1,<-n.nm.1,s])
   ·exact⟨rfl,a1 O.u g j⟩
  ·rcases D a with⟨rfl,rfl⟩|⟨rfl,rfl⟩
   ·let ⟨i,q,ae,af⟩:=M.i t hy
    obtain⟨b,h,rfl⟩:=AE.1 q;let ⟨c,g,d⟩:=au (Me.1 h)
    obtain⟨v,K,rfl⟩:=AQ g;exact⟨1,sl,v,_,rfl,Af K,by rw[d.nm.1,ae];rfl,by rw[d.nm.2,af,An];rfl⟩
   ·let ⟨i,q,ae,af⟩:=O.i t hy
    obtain⟨b,h,rfl⟩:=AE.1 q;let ⟨c,g,d⟩:=ar (Me.1 h)
    obtain⟨v,K,rfl⟩:=AQ g;exact⟨0,w1,v,_,rfl,Af K,by rw[d.nm.1,ae];rfl,by rw[d.nm.2,af,An];rfl⟩
 have H:Dj [Ob] (λ_=>a8) (λ_=>w) (λ_=>Nb) (λ_=>a5):=by
  refine⟨fun {k f} a=>?_,fun {k k' f O' v i' c l} a h' g j s=>?_,fun {k f t} a hy=>?_⟩
  ·let ⟨rfl,rfl⟩:=E a
   exact x.u
  ·obtain⟨rfl,-⟩:=E a;obtain⟨rfl,-⟩:=E h';exact⟨rfl,x.u.uq (by rw[A8 (AK.1 g).1,g]) (by rw[A8 (AK.1 j).1,j]) s⟩
  ·let ⟨rfl,rfl⟩:=E a
   obtain⟨i,q,-⟩:=x.i t hy;cases q
 have ad:∀{k:Nat} {f:BD} {c:BI},[w1,sl][k]?=I f->c∈r k->∃U b p,(b,p)∈sr/\Ha U b c:=fun {k f c} a g=>by
  rcases D a with⟨rfl,rfl⟩|⟨rfl,rfl⟩
  ·let ⟨b,h,d⟩:=ab g
   exact⟨_,b,_,h,d⟩
  ·let ⟨b,h,d⟩:=ac g
   exact⟨_,b,_,h,d⟩
 have hb:∀{k:Nat} {f:BD} {c l:BI},[w1,sl][k]?=I f->c∈r k->l∈w->c.1=l.1->tS c l:=fun {k f c l} a g j s=>by
  let ⟨U,b,p,h,d⟩:=ad a g
  let ⟨i,q,n⟩:=ak j
  have:=ai h q (by rw[<-d.nm.1,<-n.nm.1,s]);subst this;exact d.ts n
 have am:∀{k:Nat} {f:BD} {c:BI},[w1,sl][k]?=I f->c∈r k->∃l∈w,c.1=l.1:=fun {k f c} a g=>by
  let ⟨U,b,p,h,d⟩:=ad a g
  let ⟨l,j,n⟩:=av h
  exact⟨l,j,by rw[d.nm.1,n.nm.1]⟩
 have aM:DZ [w1,sl] s9↔DZ [Ob] s9:=by
  rw[z.eG O2,H.eG O2];constructor
  ·rintro⟨k,f,c,a,g,rfl,G⟩;let ⟨U,b,p,h,d⟩:=ad a g
   let ⟨l,j,n⟩:=av h
   exact⟨0,Ob,l,rfl,j,by rw[n.nm.1,d.nm.1],by rw[n.nm.2,<-G,d.nm.2]⟩
  ·rintro⟨k,f,c,a,g,rfl,G⟩;let ⟨⟨b,p⟩,q,d⟩:=ak g
   cases p with
   |true=>
    let ⟨l,j,n⟩:=ar q
    exact⟨0,w1,l,rfl,j,by rw[n.nm.1,d.nm.1],by rw[n.nm.2,<-G,d.nm.2]⟩
   |false=>
    let ⟨l,j,n⟩:=au q
    exact⟨1,sl,l,rfl,j,by rw[n.nm.1,d.nm.1],by rw[n.nm.2,<-G,d.nm.2]⟩
 refine⟨⟨z.d3 O2,Ay z.size O2⟩,⟨H.d3 O2,Ay H.size O2⟩,aM,λao y B=>?_⟩;obtain⟨aT,aJ,aQ⟩:=Aeg z H (P:=Ob) rfl (λa=>(E a).1) hb am;have aL:∀f∈[w1,sl],Gb f:=λf an=>by
  simp only[AX,Axw,or_false]at an;rcases an with rfl|rfl
  ·exact az.gb
  ·exact a0.gb
 let ⟨⟨aV,aI⟩,aN⟩:=V0 ao aL
 obtain⟨k,f,c,a,g,rfl,G⟩:=(z.eG O2).1 ao;let ⟨l,j,s⟩:=am a g
 have aP:aT (Dx [w1,sl] c.1)=Dx [Ob] c.1:=by
  rw[z.main a g,aQ a g j s,s,H.main (k:=0) rfl j]
 obtain⟨aw,ax,-⟩:=Aod aJ aI aN y B;rw[aP]at aw ax;exact⟨aw,ax⟩
end Go.Proofs.YtpkbnogifdlcmaaGreatDoor
