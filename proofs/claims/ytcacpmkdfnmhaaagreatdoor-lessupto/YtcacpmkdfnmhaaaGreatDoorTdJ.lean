import Derived.Test.YtcacpmkdfnmhaaaGreatDoorRqJ
set_option linter.unusedSimpArgs false
open Go.RowKit renaming wrap64->Bc
open List renaming length->L,range->AU
open Option renaming none->N,some->I
open Or renaming inl->Ba,inr->Aq5
namespace Go.Proofs.YtcacpmkdfnmhaaaGreatDoor
open Go.RowKit Go.Sort
variable{w s m:Nat}{sb:Cg}{wf sj:List Int}{o wm v0:Int}{d:List Bt}{q nr:Br}{wo:Nat->Nat->Int}{ys:List JQ}{yi:JQ}{wq:Bx}{xv:List Cg}
def E4(b:List Bt)(a:Int):Bt:=(b[a.toNat]?).getD ⟨⟨#[]⟩,0,false,[]⟩
def Co(b:Br)(a:Int):Cg:=(b.cells[a.toNat]?).getD ⟨0,0,0,0,[]⟩
def Dv(b:List Bt)(a:Br):Bx:=((E4 b a.now.g).code[a.now.at_.toNat]?).getD ⟨0,0,[]⟩
abbrev AR:=Br×Option Int
def Mm(a:Nat)(b:Br):List Int:=(b.now.s.drop (L b.now.s-1-a)).take a
def Il(e:List Bt)(d:Int)(a:Br):Br:=
 let c:=(E4 e d).arity.toNat
 if (Mm c a).all (λb=>decide ((Co a b).kind=2)) then {a with now:=⟨Dy (λb=>(Co a b).right) a.now.s c,d,0⟩} else BE 3 a
def Fm(b:Int)(a:Br):AR:=match a.BF.getLast? with
 |none=>(a,I b)
 |some f=>({a with now:={f with s:=f.s++[b]},BF:=a.BF.dropLast},N)
def EP(c:List Bt):Nat->Br->AR
 |0,st=>(CP st,N)
 |n+1,st=>
  if Ce st then
   let b:Br:={st with steps:=st.steps+1}
   let d:=(st.now.s.getLast?).getD 0
   let a:=Co st d
   if a.kind=5 then EP c n (Cw (st.now.s.dropLast++[a.left]) b)
   else if a.kind=2 then EP c n (Cw (st.now.s++[a.left]) b)
   else if a.kind=0 then (BE 7 b,N)
   else if a.kind=4 then
    if (E4 c a.n).arity<(L st.now.s:Int) then (Il c a.n b,N) else Fm (st.now.s.headD 0) b
   else if 1<L st.now.s then (BE 5 b,N)
   else Fm d b
  else (CP st,N)
def F3(b:List Bt)(a:Br):AR:=EP b (a.fuel-a.steps).toNat a
def F4:Nat->Br->Br
 |0,st=>st
 |n+1,st=>E3 ⟨0,0,0,0,[]⟩ (F4 n st)
def HY(d:List B0)(a:Br):Br:=
 let c:=Co a ((a.now.s.getLast?).getD 0)
 if c.kind≠3 then BE 3 a else match d.find? (λb=>decide (b.tag=c.n)) with
  |some b=>{a with now:={a.now with at_:=b.tgt}}
  |none=>BE 4 a
def I7(c:Int)(a:Br):Br:=
 let b:=Co a ((a.now.s.getLast?).getD 0)
 if b.kind≠3\/(L b.fields:Int)≠c then BE 3 a else Cw (a.now.s.dropLast++b.fields) a
def Cl(b:Bx)(a:Br):Br:=
 let c:=a.now.s
 let d:=L c
 let e:=b.a.toNat
 if b.op=0 then (if Ch 1 a then E3 ⟨1,b.a,0,0,[]⟩ (Cp 1 a) else BE 2 a)
 else if b.op=1 then Cw (c++[b.a]) a
 else if b.op=2 then Cw (c++[(c[d-1-e]?).getD 0]) a
 else if b.op=3 then (if Ch 1 a then E3 ⟨2,0,(c[d-1]?).getD 0,(c[d-2]?).getD 0,[]⟩ (Cw (c.take (d-2)) (Cp 1 a)) else BE 2 a)
 else if b.op=4 then Cw (c.take (d-1-e)++[(c[d-1]?).getD 0]) a
 else if b.op=5 then Cw (c.take (d-1)) {a with cells:=a.cells.set ((c[d-2-e]?).getD 0).toNat ⟨5,0,(c[d-1]?).getD 0,0,[]⟩}
 else if b.op=6 then Cw (c.take (d-e)) a
 else if b.op=7 then (if Ch b.a a then F4 e (Cp b.a a) else BE 2 a)
 else if b.op=15 then (if Ch 1 a then E3 ⟨3,b.a / 256,0,0,c.drop (d-(b.a % 256).toNat)⟩ (Cw (c.take (d-(b.a % 256).toNat)) (Cp 1 a)) else BE 2 a)
 else if b.op=16 then I7 b.a a
 else if b.op=17 then HY b.alts a
 else if b.op=18 then {a with now:={a.now with at_:=b.a}}
 else if b.op=20 then BE 4 a
 else JB b.op (c.take (d-2)) (Co a ((c[d-2]?).getD 0)) (Co a ((c[d-1]?).getD 0)) a
def BD(a:Br):Br:={a with steps:=a.steps+1,now:={a.now with at_:=a.now.at_+1}}
def HL(a:Br):Br:={a with BF:=a.BF++[{a.now with s:=a.now.s.dropLast}],now:=⟨[(a.now.s.getLast?).getD 0],0,0⟩}
def CQ(b:List Bt)(a:Br):AR:=
 if Ce a then
  let c:=Dv b a
  if c.op=19 then F3 b (BD a) else if c.op=8 then F3 b (HL (BD a)) else (Cl c (BD a),N)
 else (CP a,N)
def El(a:List Bt):Nat->AR->AR
 |0,r=>r
 |n+1,(st,N)=>if st.ended then (st,N) else El a n (CQ a st)
 |_+1,(st,I v)=>(st,I v)
def Gg(a:Int)(b:Br):Br:={b with now:=⟨[a],0,0⟩,BF:=[]}
def Cm(b:List Bt)(c:Int)(a:Br):AR:=El b ((a.fuel-a.steps).toNat+1) (F3 b (Gg c a))
structure Fu (c b:Nat) (a:Cg):Prop where
 k:0<=a.kind/\a.kind<=5:=by simp
 l:a.kind=5\/a.kind=2->0<=a.left/\a.left<(b:Int):=by simp
 r:a.kind=2->0<=a.right/\a.right<(b:Int):=by simp
 g:a.kind=4->0<=a.n/\a.n<(c:Int):=by simp
 f:∀r∈a.fields,0<=r/\r<(b:Int):=by simp
 fl:(L a.fields)<=255:=by simp
 n:-9223372036854775808<=a.n/\a.n<=9223372036854775807:=by simp
def CL(b:Nat)(c:List Int):Prop:=∀a∈c,0<=a/\a<(b:Int)
theorem Fu.mono(a:Fu w s sb)(e:s<=m):Fu w m sb:=
 ⟨a.k,λb=>by have:=a.l b;omega,λb=>by have:=a.r b;omega,a.g,λd c=>by have:=a.f d c;omega,a.fl,a.n⟩
theorem CL.mono(a:CL w wf)(d:w<=s):CL s wf:=λc b=>by have:=a c b;omega
theorem CL.cC(a:CL w wf)(c:CL w sj):CL w (wf++sj):=λr b=>(Ag.1 b).elim (a r) (c r)
theorem CL.one(a:0<=o/\o<(w:Int)):CL w [o]:=λc b=>by grind
theorem CL.take(a:CL w wf)(c:Nat):CL w (wf.take c):=λr b=>a r (List.mem_of_mem_take b)
theorem CL.drop(a:CL w wf)(n:Nat):CL w (wf.drop n):=λc b=>a c (List.mem_of_mem_drop b)
theorem CL.at(b:CL w wf){i:Nat}(a:i<L wf):0<=(wf[i]?).getD 0/\(wf[i]?).getD 0<(w:Int):=by
 rw[AA a];exact b _ (Ao a)
structure CC (b:List Bt) (c:Nat->Nat->Int):Prop where
 M3:(L b)<=200000
 ar:∀g (h:g<L b),0<=b[g].arity/\b[g].arity<=20
 code:∀g (h:g<L b),Lx b[g].code b[g].arity (c g)
 Kd:∀g (h:g<L b),∀i∈b[g].code,(i.op=1->0<=i.a/\i.a<(L b:Int))/\-9223372036854775808<=i.a/\i.a<=9223372036854775807
structure Yb (e:List Bt) (c:Nat->Nat->Int) (b:JQ) (f:Nat):Prop where
 g:0<=b.g/\b.g<(L e:Int)
 a:0<=b.at_/\b.at_.toNat<(E4 e b.g).code.length
 d:0<=c b.g.toNat b.at_.toNat/\c b.g.toNat b.at_.toNat<=(f:Int)
structure Di (b:List Bt) (a:Br):Prop where
 cells:∀x∈a.cells,Fu (L b) (L a.cells) x
 nc:(L a.cells:Int)=(L b:Int)+a.used
 steps:0<=a.steps/\a.steps<=a.fuel
 fuel:a.fuel<=2000000
 used:0<=a.used/\a.used<=a.spare
 spare:a.spare<=2000000
 live:a.ended=false
def flat(a:Br):List Int:=a.BF.flatMap (·.s)
structure RI (c:List Bt) (d:Nat->Nat->Int) (a:Br):Prop where
 b:Di c a
 s:CL (L a.cells) a.now.s
 ds:∀f∈a.BF,CL (L a.cells) f.s/\Yb c d f (L f.s+1)
 size:((flat a).length:Int)+(L a.now.s:Int)<=256*(a.steps+1)+a.used
 dl:(L a.BF:Int)<=a.steps
structure E5 (d:List Bt) (c:Nat->Nat->Int) (a:Br):Prop extends RI d c a where
 ne:0<L a.now.s
structure FD (d:List Bt) (c:Nat->Nat->Int) (a:Br):Prop extends RI d c a where
 f:Yb d c a.now (L a.now.s)
def EO(c:List Bt)(d:Nat->Nat->Int)(b:Br)(a:AR):Prop:=
 (a.1.fuel=b.fuel/\a.1.spare=b.spare/\b.steps<=a.1.steps)/\match a.2 with
 |some v=>Di c a.1/\0<=v/\v<(L a.1.cells:Int)
 |none=>if a.1.ended then a.1.kind≠0 else FD c d a.1
theorem Pm(e:Di d q){a:Int}(f:0<=a/\a<(L q.cells:Int)):∃b,Co q a=q.cells[a.toNat]/\Fu (L d) (L q.cells) (Co q a):=by
 have b:a.toNat<L q.cells:=O1;have c:Co q a=q.cells[a.toNat]:=by unfold Co;grind
 exact⟨b,c,by rw[c];exact e.cells _ (Ao b)⟩
theorem Qu(b:0<=o/\o<(L d:Int)):∃a,E4 d o=d[o.toNat]:=by
 have a:o.toNat<L d:=O1;exact⟨a,by unfold E4;grind⟩
theorem E5.eo(a:E5 d wo q):0<=(q.now.s.getLast?).getD 0/\(q.now.s.getLast?).getD 0<(L q.cells:Int):=by
 rw[Ath];exact a.s.at (by have:=a.ne;omega)
theorem KX{gs:List Bt}{D:Nat->Nat->Int}(a:Int)(g:a≠0)(c:nr.ended=false)(d:nr.fuel=q.fuel)(e:nr.spare=q.spare)(f:q.steps<=nr.steps):EO gs D q (BE a nr,N):=by
 have b:BE a nr={nr with ended:=true,kind:=a}:=by unfold BE;rw[c];rfl
 rw[b];exact⟨⟨d,e,f⟩,g⟩
theorem G4(a:Di d q):(Ce q=false↔q.steps=q.fuel)/\(Ce q=false->CP q=BE 1 q):=by
 have b:=a.live;unfold Ce CP;grind
theorem WA(b:List JQ)(a:JQ):((b++[a]).flatMap (·.s))=b.flatMap (·.s)++a.s:=O2
theorem VY(a:Int)(b:q.BF=ys++[yi]):Fm a q=({q with now:={yi with s:=yi.s++[a]},BF:=ys},N):=by
 unfold Fm;rw[b];simp
theorem Xl(a:Int)(b:q.BF=[]):Fm a q=(q,I a):=by
 unfold Fm;rw[b];rfl
theorem V8{i:List Bt}(c:E5 i wo q){f:Int}(j:0<=f/\f<(L q.cells:Int)):EO i wo q (Fm f q):=by
 rcases Asl q.BF with e|⟨r,k,e⟩
 ·rw[Xl f e];exact⟨⟨rfl,rfl,Arq _⟩,c.b,j⟩
 ·rw[List.concat_eq_append]at e;rw[VY f e];refine⟨⟨rfl,rfl,Arq _⟩,?_⟩;have h:=c.ds k (by rw[e];simp);have l:=c.size;have n:=c.dl;have o:=c.ne;rw[c.b.live];refine⟨⟨⟨c.b.cells,c.b.nc,c.b.steps,c.b.fuel,c.b.used,c.b.spare,rfl⟩,h.1.cC (CL.one j),λm p=>c.ds m O6,?_,?_⟩,⟨h.2.g,h.2.a,?_⟩⟩
  ·unfold flat at l ⊢;grind
  ·grind
  ·have:=h.2.d;grind
theorem Agg(f:CC d wo){e:Br}(a:E5 d wo e){c:Int}(i:0<=c/\c<(L d:Int))(m:(E4 d c).arity<(L e.now.s:Int)):EO d wo e (Il d c e,N):=by
 let ⟨g,h⟩:=Qu i
 let ⟨t,u⟩:=f.ar _ g
 unfold Il;rw[h]at m ⊢;simp only;split
 ·rename_i n
  refine⟨⟨rfl,rfl,Arq _⟩,?_⟩;rw[a.b.live];have q:=P4 (λl=>(Co e l).right) e.now.s d[c.toNat].arity.toNat O1;have w:=a.size;refine⟨⟨⟨a.b.cells,a.b.nc,a.b.steps,a.b.fuel,a.b.used,a.b.spare,rfl⟩,?_,a.ds,?_,a.dl⟩,⟨i,⟨O2,?_⟩,?_⟩⟩
  ·refine(a.s.take _).cC λl r=>?_;obtain⟨k,j,rfl⟩:=AK.1 r;have p:=Ark.1 n k j;obtain⟨v,-,o⟩:=Pm a.b (a.s k (List.mem_of_mem_drop (List.mem_of_mem_take j)));exact o.r (by simpa using p)
  ·show((flat e).length:Int)+((Dy _ _ _).length)<=_;grind
  ·rw[h];exact(f.code _ g).pos
  ·show 0<=wo c.toNat 0/\wo c.toNat 0<=((Dy _ _ _).length);rw[(f.code _ g).start,q];omega
 ·exact KX 3 nofun a.b.live rfl rfl (Arq _)
variable{vm:AR}
theorem EO.after(a:EO d wo nr vm)(b:nr.fuel=q.fuel)(c:nr.spare=q.spare)(e:q.steps<=nr.steps):EO d wo q vm:=
 ⟨⟨a.1.1.trans b,a.1.2.1.trans c,Atz e a.1.2.2⟩,a.2⟩
theorem E5.cG(a:E5 d wo q)(j:q.steps≠q.fuel){s:List Int}(e:CL (L q.cells) s)(c:0<L s)(i:(L s)<=L q.now.s+256):E5 d wo (Cw s {q with steps:=q.steps+1}):=by
 have f:=a.b.steps;have g:=a.size;have h:=a.dl;exact⟨⟨⟨a.b.cells,a.b.nc,by show 0<=q.steps+1/\q.steps+1<=q.fuel;omega,a.b.fuel,a.b.used,a.b.spare,a.b.live⟩,e,a.ds,by show((flat q).length)+L s<=256*(q.steps+1+1)+q.used;omega,by show L q.BF<=q.steps+1;omega⟩,c⟩
theorem Jk{d:List Bt}{f:Nat->Nat->Int}(j:CC d f):∀(c:Nat) {a:Br},E5 d f a->(a.fuel-a.steps).toNat=c->EO d f a (EP d c a)
 |0,a,h,hn=>by
  have n:=h.b.steps;have hb:=(G4 h.b).1.2 O1;rw[EP,(G4 h.b).2 hb];exact KX 1 nofun h.b.live rfl rfl (Arq _)
 |c+1,a,h,hn=>by
  have n:=h.b.steps;have i:a.steps≠a.fuel:=O1;have hb:Ce a=true:=by
   cases hb:Ce a with
   |true=>rfl
   |false=>exact absurd ((G4 h.b).1.1 hb) i
  obtain⟨r,q,m⟩:=Pm h.b h.eo;have k:E5 d f {a with steps:=a.steps+1}:=h.cG i (s:=a.now.s) h.s h.ne O1;rw[EP,if_pos hb];simp only;have p:CL (L a.cells) a.now.s.dropLast:=by rw[Atd];exact h.s.take _
  split
  ·rename_i e
   have:=h.cG i (s:=a.now.s.dropLast++[(Co a ((a.now.s.getLast?).getD 0)).left]) (p.cC (CL.one (m.l (Ba e)))) O2 O5;exact(Jk j c this (by show(a.fuel-(a.steps+1)).toNat=c;omega)).after rfl rfl (by show a.steps<=a.steps+1;omega)
  ·split
   ·rename_i e
    have:=h.cG i (s:=a.now.s++[(Co a ((a.now.s.getLast?).getD 0)).left]) (h.s.cC (CL.one (m.l (Aq5 e)))) O2 O2;exact(Jk j c this (by show(a.fuel-(a.steps+1)).toNat=c;omega)).after rfl rfl (by show a.steps<=a.steps+1;omega)
   ·split
    ·exact KX 7 nofun h.b.live rfl rfl O6
    ·split
     ·rename_i e
      split
      ·rename_i o
       exact(Agg j k (m.g e) o).after rfl rfl O6
      ·refine(V8 k ?_).after rfl rfl O6;have:=h.s.at h.ne;rw[List.headD_eq_head?_getD,List.head?_eq_getElem?];omega
     ·split
      ·exact KX 5 nofun h.b.live rfl rfl O6
      ·exact(V8 k h.eo).after rfl rfl O6
structure LC (e:List Bt) (i:Nat->Nat->Int) (c:Br) (b:Bx) (d:Int):Prop where
 eq:Dv e c=b
 mem:∃g,∃h:g<L e,b∈e[g].code
 f:MS b
 de:d=i c.now.g.toNat c.now.at_.toNat
 dl:0<=d/\d<=(L c.now.s:Int)/\d<=1000
 w:FQ b.op.toNat b.a d=false
 nx:∀k∈IP b c.now.at_.toNat,k<(E4 e c.now.g).code.length/\i c.now.g.toNat k=d+CN b.op.toNat b.a/\0<=i c.now.g.toNat k
 gl:(b.op=1->0<=b.a/\b.a<(L e:Int))/\-9223372036854775808<=b.a/\b.a<=9223372036854775807
theorem ON{b:List Bt}(k:CC b wo)(c:FD b wo q):LC b wo q (Dv b q) (wo q.now.g.toNat q.now.at_.toNat):=by
 let ⟨h,o⟩:=Qu c.f.g
 have s:=c.f.a.2;have e:=c.f.d;have m:=k.code _ h;have t:Dv b q=(E4 b q.now.g).code[q.now.at_.toNat]:=by unfold Dv;grind
 have l:=s;rw[o]at l;have n:Dv b q=b[q.now.g.toNat].code[q.now.at_.toNat]:=by grind
 have i:Dv b q∈b[q.now.g.toNat].code:=by grind
 let ⟨p,j,r⟩:=m.go _ l e.1
 rw[<-n]at j r;refine⟨rfl,⟨_,h,i⟩,m.ins _ i,rfl,⟨e.1,e.2,p⟩,j,λv u=>?_,k.Kd _ h _ i⟩;grind
theorem Qt(a:FQ w o wm=false):D5 w o<=wm/\(w=19->wm=1):=by
 simp only[FQ,Bool.or_eq_false_iff,Ate,decide_eq_false_iff_not,beq_eq_false_iff_ne,bne_eq_false_iff_eq]at a;omega
theorem MZ(a:wq.op≠17/\wq.op≠18/\wq.op≠19/\wq.op≠20)(b:0<=o):(o+1).toNat∈IP wq o.toNat:=by
 unfold IP;grind
theorem Q6(a:FD d wo q):(BD q).ended=false/\(BD q).fuel=q.fuel/\(BD q).spare=q.spare/\q.steps<=(BD q).steps:=⟨a.b.live,rfl,rfl,by show q.steps<=q.steps+1;omega⟩
theorem Mk(k:LC d wo q wq o)(c:FD d wo q)(G:q.steps≠q.fuel)(e:List Cg)(f i:Int)(h:List Int)(p:i.toNat∈IP wq q.now.at_.toNat)(m:0<=i)(n:∀w∈e,Fu (L d) (L e) w)(t:CL (L e) h)(s:(L e:Int)=(L d:Int)+f:=by first|omega|(simp<;>omega))(H:q.used<=f/\f<=q.spare:=by omega)(hl:(L h:Int)=(L q.now.s:Int)+CN wq.op.toNat wq.a:=by simp[CN]<;>omega)(K:(L h:Int)<=(L q.now.s:Int)+256+(f-q.used):=by simp<;>omega):
 EO d wo q ({q with steps:=q.steps+1,cells:=e,used:=f,now:=⟨h,q.now.g,i⟩},N):=by
 let ⟨u,M,v⟩:=k.nx _ p
 have x:=c.b.steps;have y:=c.b.used;have z:=c.b.nc;have B:=c.size;have D:=c.dl;have E:=k.dl;have r:(L q.cells)<=L e:=O1;refine⟨⟨rfl,rfl,by grind⟩,?_⟩;rw[c.b.live];refine⟨⟨⟨n,s,by grind,c.b.fuel,by grind,c.b.spare,rfl⟩,t,λj l=>⟨(c.ds j l).1.mono r,(c.ds j l).2⟩,?_,?_⟩,⟨c.f.g,⟨m,u⟩,⟨v,?_⟩⟩⟩
 ·show((flat q).length)+L h<=256*(q.steps+1+1)+f;omega
 ·grind
 grind
theorem Pt(a:Ch o q=true):q.used+o<=q.spare/\Cp o q={q with used:=q.used+o}:=by
 refine⟨by simpa[Ch]using a,?_⟩;unfold Cp;rw[if_pos a]
theorem Aet(c:∀a∈xv,Fu w (L xv) a)(d:Fu w (L xv+1) sb):∀a∈xv++[sb],Fu w (xv++[sb]).length a:=by
 intro a b;rw[Ay,List.length_singleton];rcases Ag.1 b with b|b
 ·exact(c a b).mono O1
 grind
theorem WY(b:Cg)(a:Br):E3 b a={a with cells:=a.cells++[b],now:={a.now with s:=a.now.s++[(L a.cells:Int)]}}:=rfl
theorem OD(g:LC d wo q wq o)(c:FD d wo q)(h:q.steps≠q.fuel){x:Cg}{s:List Int}(j:CL (L q.cells) s)(l:Fu (L d) (L q.cells+1) x)(i:wq.op≠17/\wq.op≠18/\wq.op≠19/\wq.op≠20:=by simp)(hl:(L s:Int)+1=(L q.now.s:Int)+CN wq.op.toNat wq.a:=by simp[CN]<;>omega)(v:(L s)<=L q.now.s:=by simp):
 EO d wo q (if Ch 1 (BD q) then E3 x (Cw s (Cp 1 (BD q))) else BE 2 (BD q),N):=by
 cases hr:Ch 1 (BD q) with
 |false=>
  let ⟨m,n,p,r⟩:=Q6 c
  exact KX 2 nofun m n p r
 |true=>
  let ⟨k,e⟩:=Pt hr
  have u:q.used+1<=q.spare:=k;rw[e,WY];have t:=c.b.nc;have:=c.f.a.1;exact Mk g c h (q.cells++[x]) (q.used+1) (q.now.at_+1) (s++[(L q.cells:Int)]) (MZ i this) O1 (Aet c.b.cells l) (by rw[Ay,List.length_singleton];exact(j.mono O1).cC (CL.one O1)) (hl:=by simp;omega)
theorem Na(g:LC d wo q wq o)(c:FD d wo q)(i:q.steps≠q.fuel){e:List Int}(k:CL (L q.cells) e)(j:wq.op≠17/\wq.op≠18/\wq.op≠19/\wq.op≠20:=by simp)(h:(L e:Int)=(L q.now.s:Int)+CN wq.op.toNat wq.a:=by simp[CN]<;>omega)(l:(L e)<=L q.now.s+256:=by simp<;>omega):
 EO d wo q (Cw e (BD q),N):=
 Mk g c i q.cells q.used (q.now.at_+1) e (MZ j c.f.a.1) (by have:=c.f.a.1;omega) c.b.cells k c.b.nc ⟨Arq _,c.b.used.2⟩ h O1
theorem Ap8(b a:Nat):Fu b a ⟨0,0,0,0,[]⟩:={}
theorem PA:∀b a,F4 b a={a with cells:=a.cells++List.replicate b ⟨0,0,0,0,[]⟩,now:={a.now with s:=a.now.s++(AU b).map λc=>((L a.cells+c:Nat):Int)}}
 |0,a=>by simp[F4]
 |b+1,a=>by
  rw[F4,PA b a,WY];simp[List.replicate_succ',Ats]
theorem Ahc(c b d:Int):-9223372036854775808<=Lm c b d/\Lm c b d<=9223372036854775807:=by
 have e:∀a:Int,-9223372036854775808<=Bc a/\Bc a<=9223372036854775807:=λa=>by unfold Bc;omega
 unfold Lm;grind
theorem Ajm:Fu w s (GP o wm v0):={k:=by unfold GP;grind,l:=by unfold GP;grind,r:=by unfold GP;grind,g:=by unfold GP;grind,f:=nofun,fl:=by simp[GP],n:=Ahc _ _ _}
theorem Ace{gs:List Bt}{D:Nat->Nat->Int}(ah:CC gs D)(c:FD gs D q)(h:q.steps≠q.fuel)(p:(Dv gs q).op≠19)(y:(Dv gs q).op≠8):EO gs D q (Cl (Dv gs q) (BD q),N):=by
 have e:=ON ah c;revert e p y;generalize Dv gs q=i;generalize D q.now.g.toNat q.now.at_.toNat=d;intro p y e;obtain⟨u,ia,ar⟩:=i;obtain⟨⟨a2,a3⟩,-⟩:=e.f;obtain⟨t,rfl⟩:∃t:Nat,u=(t:Int):=⟨u.toNat,by grind⟩;have U:t<21:=by grind
 obtain⟨v,B,E,G,ac,ad⟩:=WZ e.f rfl U;obtain⟨ab,aq⟩:=Qt e.w;obtain⟨au,av,aw⟩:=e.dl;obtain⟨K,M⟩:=e.gl;have ay:=c.b.nc;have a1:=c.b.used;obtain⟨al,am,an,ao⟩:=Q6 c;have r:=λz ai=>KX (D:=D) (gs:=gs) z ai al am an ao;have O:=c.f.a.1;have H:(BD q).now.s=q.now.s:=rfl;have af:(BD q).cells=q.cells:=rfl;simp only at p y v B E G ac ad ab aq K M;rcases L3 t U with rfl|rfl|rfl|rfl|rfl|rfl|rfl|rfl|rfl|rfl|rfl|rfl|rfl|rfl|rfl|rfl|rfl|rfl|rfl|rfl|rfl;all_goals
  simp[D5]at ab;simp at v B E G K;simp only[Cl,Int.reduceEq,↓reduceIte,Int.cast_ofNat_Int,H,af]
 ·have o:=OD e c h (x:=⟨1,ia,0,0,[]⟩) (s:=q.now.s) c.s {n:=M};cases k:Ch 1 (BD q) with
  |false=>grind
  |true=>
   rw[k,(Pt k).2]at o;rw[(Pt k).2];exact o
 ·exact Na e c h (c.s.cC (CL.one O1))
 ·exact Na e c h (c.s.cC (CL.one (c.s.at O1)))
 ·have aa:=c.s.at (i:=L q.now.s-1) O1;have a4:=c.s.at (i:=L q.now.s-2) O1;exact OD e c h (c.s.take _) {l:=λ_=>by simp only;omega,r:=λ_=>by simp only;omega}
 ·exact Na e c h ((c.s.take _).cC (CL.one (c.s.at O1)))
 ·have aa:=c.s.at (i:=L q.now.s-1) O1;refine Mk e c h (q.cells.set ((q.now.s[L q.now.s-2-ia.toNat]?).getD 0).toNat ⟨5,0,(q.now.s[L q.now.s-1]?).getD 0,0,[]⟩) q.used (q.now.at_+1) (q.now.s.take (L q.now.s-1)) (MZ O2 O) O1 (λx j=>?_) (by rw[Ar1];exact c.s.take _);rw[Ar1];rcases Atg j with j|rfl
  ·exact c.b.cells x j
  ·exact {l:=λ_=>aa}
 ·exact Na e c h (c.s.take _)
 ·cases k:Ch ia (BD q) with
  |false=>grind
  |true=>
   obtain⟨ak,ae⟩:=Pt k;have a0:q.used+ia<=q.spare:=ak;rw[if_pos rfl,ae,PA];refine Mk e c h (q.cells++List.replicate ia.toNat ⟨0,0,0,0,[]⟩) (q.used+ia) (q.now.at_+1) (q.now.s++(AU ia.toNat).map λz=>((L q.cells+z:Nat):Int)) (MZ O2 O) O1 (λx j=>?_) ?_
   ·rcases Ag.1 j with j|j
    ·exact(c.b.cells x j).mono O2
    ·rw[List.eq_of_mem_replicate j];exact Ap8 _ _
   ·refine(c.s.mono O2).cC λm k=>?_;grind
 ·omega
 iterate 6
  unfold JB;split
  ·exact r 3 O4
  ·split
   ·exact r 6 O4
   ·have o u l m:=OD e c h (x:=GP u l m) (c.s.take (L q.now.s-2)) Ajm;cases k:Ch 1 (BD q)<;>(rw[k]at o;first|exact o _ _ _|exact o 0 0 0)
 ·exact OD e c h (x:=⟨3,ia / 256,0,0,q.now.s.drop _⟩) (c.s.take _) {f:=λm k=>by have:=(c.s.drop _) m k;omega,fl:=by simp;omega,n:=by simp only;omega}
 ·have ag:∀m,Co (BD q) m=Co q m:=λ_=>rfl;simp only[I7,H,ag];split
  ·grind
  ·rename_i az
   have aj:0<=(q.now.s.getLast?).getD 0/\(q.now.s.getLast?).getD 0<(L q.cells:Int):=by
    rw[Ath];exact c.s.at O1
   obtain⟨a6,a5,ap⟩:=Pm c.b aj;have ax:((Co q ((q.now.s.getLast?).getD 0)).fields.length:Int)=ia:=by
    omega
   exact Na e c h ((by rw[Atd];exact c.s.take _:CL _ q.now.s.dropLast).cC ap.f)
 ·simp only[HY];split
  ·exact r 3 O4
  ·split
   ·rename_i x j
    have Y:=List.mem_of_find?_eq_some j;exact Mk e c h q.cells q.used x.tgt q.now.s (AK.2 ⟨x,Y,rfl⟩) ((Vt e.f).2 x Y).2.2.1 c.b.cells c.s
   ·exact r 4 O4
 ·exact Mk e c h q.cells q.used ia q.now.s (.head _) v.1 c.b.cells c.s
 ·exact absurd rfl p
 grind
end Go.Proofs.YtcacpmkdfnmhaaaGreatDoor
