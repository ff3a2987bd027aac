import Derived.Test.YtcacpmkdfnmhaaaGreatDoorYiJ
set_option linter.unusedSimpArgs false
set_option maxRecDepth 100000
set_option maxHeartbeats 8000000
open Go.RowKit renaming wrap64->Bc
open List renaming length->L
open Option renaming none->N,some->I
namespace Go.Proofs.YtcacpmkdfnmhaaaGreatDoor
open Go.RowKit Go.Sort
variable{w s m:Nat}{o wm v0:Int}{ws:ByteArray->Bool}{y nk vz:List Nat}{t nv:KS}{wf sj:List Int}{w3 v1:Bool}{v nl:ByteArray}{U:List (ByteArray×Int)}{h w1:List ByteArray}{wk xu:Ex}{yb:Ex×Bm}{wz:List B0}{wh xs:List Bx}{wq sn:Bx}{s5:List B3}{sl:B3}{n7:EJ}{nq:List EJ}{vo:ByteArray×List IT×List DD}{wc:List IT}{vx:List DD}{n6:KU}
def Ik(f g:Nat)(b a c:Int):Prop:=(0<=a/\a<=1000/\0<=c/\c<=1000)/\match g with
 |0=>-9223372036854775808<=b/\b<9223372036854775808/\c=a+1
 |1=>0<=b/\b<(f:Int)/\c=a+1
 |2=>0<=b/\b+1<=a/\c=a+1
 |3=>b=0/\2<=a/\c=a-1
 |4=>0<=b/\b+1<=a/\c=a-b
 |5=>0<=b/\b+2<=a/\c=a-1
 |6=>0<=b/\b<=a/\c=a-b
 |7=>1<=b/\c=a+b
 |8=>b=0/\1<=a/\c=a
 |9|10|11|12|13|14=>b=0/\2<=a/\c=a-1
 |15=>∃e d:Nat,b=(e:Int)*256+(d:Int)/\e<256/\d<256/\(d:Int)<=a/\c=a+1-(d:Int)
 |16=>0<=b/\b<=255/\1<=a/\c=a-1+b
 |17=>b=0/\1<=a/\c=a
 |18=>0<=b/\b<=65535/\c=a
 |19=>b=0/\a=1/\c=a
 |_=>False
theorem Td(a:Ik w s o wm v0):Hv s o wm=v0:=by
 let ⟨e,a⟩:=a
 unfold Hv;split at a;case h_16=>
  obtain⟨d,b,rfl,f,g,h,i⟩:=a;have c:((d:Int)*256+(b:Int)).tmod 256=b:=by grind
  simp[BC,F5,Gj,Bc,c];omega
 all_goals first
  |exact a.elim
  |(simp[BC,F5,Gj,Bc];omega)
theorem Ik.up(a:Ik w m o wm v0)(c:w<=s):Ik s m o wm v0:=by
 let ⟨b,a⟩:=a
 refine⟨b,?_⟩;grind
def sc(a:Bx)(c:Nat):List Nat:=if a.op=19\/a.op=20 then [] else if a.op=18 then [a.a.toNat] else if a.op=17 then a.alts.map λb=>b.tgt.toNat else [c+1]
def iy(a:Bx):Nat:=if a.op=0 then 11 else if a.op=3\/8<=a.op/\a.op<=14\/a.op=19 then 1 else if a.op=17 then 3+5*L a.alts else 4
def cb(a:List Bx):Nat:=(a.map iy).sum
def cc:Ex->Nat
 |.op _ _ _=>4100
 |.case _ _=>4100
 |_=>1500
def IQ(a:EJ):Nat:=L a.2.1+(900*wt 31 a.2.2-(cc a.2.2-220))
def B8(a:KS):Nat:=20*cb a.code+9*L a.code+a.z+440*L a.kn+(a.td.map IQ).sum
def Nw(c:ByteArray)(b:Nat):Prop:=∃a,CE a=true/\c.data.toList=a.data.toList++35::Lib.itoa (b:Int)
def P8(a:ByteArray):Prop:=CE a=true\/∃b,Nw a b
structure TK (b:ByteArray->Bool) (a:EJ):Prop where
 n:P8 a.1
 l:(L a.2.1)<=20
 f:XF 31 a.2.2
 g:gE b 31 a.2.1 a.2.2=[]
 w:2*L a.2.1+wt 31 a.2.2<=1990
structure Wk (f:ByteArray->Bool) (k0:List ByteArray×Int) (c:KS) (e:List Int) (h:List Nat) (g:Bool):Prop where
 gl:(L e)=L c.code
 ok:∀k x d,c.code[k]?=I x->e[k]?=I d->k∉h->∃d',Ik (L c.kn) x.op.toNat x.a d d'/\0<=x.op/\(x.op≠17->x.alts=[])/\(x.op=17->0<L x.alts/\(x.alts.map (·.tag)).Nodup/\∀b∈x.alts,0<=b.tag/\b.tag<256/\0<=b.tgt)/\∀t∈sc x k,e[t]?=I d'\/g=true/\t=L c.code/\c.Bl=d'
 kg:∀t,f t=true->t∈c.kn
 tk:∀t∈c.td,TK f t
 kp:k0.1<+:c.kn
 kf:∀i t,L k0.1<=i->c.kn[i]?=I t->Nw t i
 st:∀d,e[0]?=I d->d=k0.2
 se:e=[]->g=true/\c.Bl=k0.2
def Ej(a:KS):List ByteArray:=a.loc.map (·.1)
def Lo(a:KS):Prop:=∀b∈a.loc,0<=b.2/\b.2<a.Bl
structure Ev (e:ByteArray->Bool) (k0:List ByteArray×Int) (f:List Nat) (b:KS) (h:List Int) (a:KS) (g:Nat) (c:Int):Prop where
 w:∃g',Wk e k0 a (h++g') f true
 d:a.Bl=c
 p:B8 a<=B8 b+g
 l:a.loc=b.loc
theorem Wk.put{k0:List ByteArray×Int}{o':Bool}(b:Wk ws k0 t wf y true){op:Nat}{a d':Int}(k:Ik (L t.kn) op a t.Bl d')(v:(L t.code)∉y->op≠17/\op≠18/\(op=19\/o'=true)):Wk ws k0 (Bz op a t) (wf++[t.Bl]) y o':=by
 have u:(Bz op a t).code.length=L t.code+1:=by simp[Bz]
 refine {b with gl:=by simp[b.gl,u],ok:=λl x g f c i=>?_,st:=λg c=>?_,se:=λe=>by simp at e};rotate_left
 ·cases wf with
  |nil=>cases c;exact(b.se rfl).2
  |cons a wf=>exact b.st g c
 rcases Nat.lt_trichotomy l (L t.code) with j|rfl|j
 ·rw[show(Bz op a t).code=t.code++[⟨op,a,[]⟩] from rfl,Asf j]at f;rw[Asf (by rw[b.gl];omega)]at c;let ⟨e,n,p,q,r,s⟩:=b.ok l x g f c i
  refine⟨e,n,p,q,r,λm d=>.inl ?_⟩;rcases s m d with h|⟨-,rfl,h⟩
  ·grind
  ·rw[<-b.gl];simp[h]
 ·rw[show(Bz op a t).code=t.code++[⟨op,a,[]⟩] from rfl,Asn]at f;rw[<-b.gl,Asn]at c;cases f;cases c;let ⟨z,B,w⟩:=v i
  refine⟨d',by simpa[Bz]using k,O2,λ_=>rfl,λb=>by simp at b;omega,λm d=>.inr ?_⟩;unfold sc at d;split at d
  ·cases d
  ·rename_i o
   rw[if_neg O5,if_neg O5,Aq]at d;exact⟨w.resolve_left λe=>o (.inl (by simp[e])),O1,(Td k)⟩
 grind
theorem Wk.at{k0:List ByteArray×Int}{P':List Nat}(b:Wk ws k0 t wf y w3)(g:∀a∈y,a∈P'):Wk ws k0 t wf P' w3:={b with ok:=λa i c h d e=>b.ok a i c h d λf=>e (g a f)}
theorem Wk.shut{k0:List ByteArray×Int}(b:Wk ws k0 t wf y false){a:Int}{l:List (ByteArray×Int)}{z:Nat}:Wk ws k0 {t with Bl:=a,loc:=l,z:=z} wf y true:=by
 refine {b with ok:=λg h a f d e=>?_,se:=λc=>by cases (b.se c).1};let ⟨c,i,j,k,m,n⟩:=b.ok g h a f d e
 grind
theorem Wk.loc{k0:List ByteArray×Int}(a:Wk ws k0 t wf y w3){l:List (ByteArray×Int)}{z:Nat}:Wk ws k0 {t with loc:=l,z:=z} wf y w3:={a with}
theorem Ev.refl{k0:List ByteArray×Int}(a:Wk ws k0 t wf y true):Ev ws k0 y t wf t 0 t.Bl:=⟨⟨[],by simpa using a⟩,rfl,Ac _,rfl⟩
theorem Ev.trans{a:ByteArray->Bool}{k0:List ByteArray×Int}{b:List Nat}{j g k:KS}{i:List Int}{h c2:Nat}{m D2:Int}(f:Ev a k0 b j i g h m)(r:∀c,Wk a k0 g c b true->Ev a k0 b g c k c2 D2):Ev a k0 b j i k (h+c2) D2:=by
 let ⟨c,o⟩:=f.w
 have e:=r _ o;let ⟨n,q⟩:=e.w
 exact⟨⟨c++n,by simpa using q⟩,e.d,by have:=f.p;have:=e.p;omega,e.l.trans f.l⟩
theorem Ev.le{k0:List ByteArray×Int}{c b:Nat}(a:Ev ws k0 y t wf nv b wm)(f:b<=c)(e:wm=o):Ev ws k0 y t wf nv c o:=⟨a.w,a.d.trans e,Aw a.p O1,a.l⟩
theorem Md(b:Nat)(a:Int)(c:KS):B8 (Bz b a c)=B8 c+20*iy ⟨b,a,[]⟩+10:=by
 unfold B8 Bz cb;grind
theorem Ev.put{c:ByteArray->Bool}{k0:List ByteArray×Int}{d:List Nat}{b:KS}{e:List Int}(h:Wk c k0 b e d true){op:Nat}{a d':Int}(g:Ik (L b.kn) op a b.Bl d')(f:op≠17/\op≠18):Ev c k0 d b e (Bz op a b) (20*iy ⟨op,a,[]⟩+10) d':=
 ⟨⟨_,h.put g λ_=>⟨f.1,f.2,.inr rfl⟩⟩,Td g,by rw[Md];omega,rfl⟩
theorem Abu(b:Ld v U=I o):(v,o)∈U:=by
 unfold Ld at b;cases hf:U.reverse.find? (λa=>decide (a.1=v)) with
 |none=>grind
 |some a=>
  grind
theorem Aou(a:Ld v U=N):v∉U.map (·.1):=by
 unfold Ld at a;simp at a ⊢;grind
theorem Ws(c:v∈h):0<=Ef v h/\Ef v h<(L h:Int):=by
 have a:=Yc v h;have d:CK v h 0=true:=by simpa[CK]using c
 rw[d,decide_eq_true_eq]at a;refine⟨a,?_⟩;unfold Ef at a ⊢;split
 ·rename_i e b
  obtain⟨b,-⟩:=Atf.1 b;omega
 ·omega
theorem Ev.look{k0:List ByteArray×Int}{a:KS}(c:Wk ws k0 a wf y true)(e:Lo a){t:ByteArray}(g:0<=a.Bl/\a.Bl<=999)(f:t∈Ej a\/t∈a.kn):Ev ws k0 y a wf (CV t a) 90 (a.Bl+1):=by
 unfold CV;split
 ·rename_i d b
  have:=e _ (Abu b);simp at this;rw[show Bc (Bc (a.Bl-1)-d)=a.Bl-1-d by simp[Bc];omega];exact(Ev.put c (op:=2) ⟨⟨O1,O1,O1,O1⟩,O1,O1,rfl⟩ O1).le .refl rfl
 ·rename_i b
  have:=Ws (f.resolve_left (Aou b));exact(Ev.put c (op:=1) ⟨⟨O1,O1,O1,O1⟩,this.1,this.2,rfl⟩ O1).le .refl rfl
theorem Ke(a:Lo t)(b:nv.loc=t.loc)(e:t.Bl<=nv.Bl):Lo nv:=λd c=>by
 have:=a d (b▸c);omega
theorem KF(a:nv.loc=t.loc):Ej nv=Ej t:=by unfold Ej;rw[a]
theorem Ev.looks{g:ByteArray->Bool}{k0:List ByteArray×Int}{i:List Nat}:∀b {a:KS} {e:List Int},Wk g k0 a e i true->Lo a->(0<=a.Bl/\a.Bl+(L b:Int)<=1000)->(∀f∈b,f∈Ej a)->Ev g k0 i a e (HO b a) (L b*90) (a.Bl+(L b:Int))
 |[],a,e,h,_,_,_=>(Ev.refl h).le .refl O2
 |f::b,a,e,h,hl,hd,ht=>by
  rw[AM]at hd;have c:=Ev.look h hl O1 (.inl (ht f O2));refine(Ev.trans c (c2:=L b*90) (D2:=a.Bl+1+(L b:Int)) λk j=>?_).le O5 O5;exact(Ev.looks b j (Ke hl c.l (by rw[c.d];omega)) (by rw[c.d];omega) λm l=>by rw[KF c.l];grind).le .refl (by rw[c.d])
theorem Ev.cU{f:ByteArray->Bool}{k0:List ByteArray×Int}{g:List Nat}:∀(b:Nat) {a:KS} {e:List Int},Wk f k0 a e g true->(1+(b:Int)<=a.Bl/\a.Bl<=1000)->Ev f k0 g a e (G3 3 0 b a) (b*30) (a.Bl-(b:Int))
 |0,a,e,h,_=>(Ev.refl h).le .refl O2
 |b+1,a,e,h,hd=>by
  have c:=Ev.cU b h O1;refine(Ev.trans c (c2:=30) (D2:=a.Bl-(b:Int)-1) λj i=>?_).le O1 O1;exact(Ev.put i (op:=3) ⟨⟨by rw[c.d];omega,by rw[c.d];omega,O1,O1⟩,rfl,by rw[c.d];omega,by rw[c.d]⟩ O1).le .refl rfl
theorem Kj:CK v h 0=true↔v∈h:=by simp[CK]
def fr:Nat->Ex->List ByteArray
 |0,_=>[]
 |d+1,e=>(match e with|.name _ a _=>[a]|_=>[])++(BZ e).flatMap λb=>(fr d b.1).filter λa=>!CK a (b.2.map (·.1)) 0
theorem Z4:∀a {b c:Nat},fK b a=[]->c<=b->fK c a=[]
 |[],_,_,_,_=>rfl
 |x::a,b,c,h,hn=>by
  simp[fK]at h ⊢;refine⟨?_,Z4 a h.2 O1⟩;grind
theorem Qf:∀b {a:Nat},a<=20->fK a b=[]->a+L b<=20
 |[],_,hn,_=>hn
 |x::b,a,hn,h=>by
  simp only[fK,As7]at h;have c:=h.1;split at c
  ·cases c
  ·have:=Qf b O1 h.2;grind
theorem MU(b:gE ws (w+1) h wk=[]):fN ws h wk=[]/\∀a∈BZ wk,fK (L h) a.2=[]/\gE ws w (h++a.2.map (·.1)) a.1=[]:=by
 simp only[gE,As7,At4]at b;exact b
theorem Ya(b:fN ws h wk=[])(c:∀a∈BZ wk,fK (L h) a.2=[]/\gE ws w (h++a.2.map (·.1)) a.1=[]):gE ws (w+1) h wk=[]:=by
 simp only[gE,As7,At4];exact⟨b,c⟩
theorem Xq{k:ByteArray->Bool}:∀b e f c,gE k b e c=[]->L f<=L e->(∀a∈fr b c,a∈e->a∈f)->gE k b f c=[]
 |0,_,_,_,_,_,_=>rfl
 |b+1,e,f,c,h,hl,ht=>by
  let ⟨n,l⟩:=MU h
  refine Ya ?_ λi j=>⟨Z4 _ (l i j).1 hl,Xq b _ _ _ (l i j).2 O5 λa p d=>?_⟩
  ·cases c with
   |name g a pl=>
    simp[fN]at n ⊢;have o:=ht a (by simp[fr]);rw[<-Kj,<-Kj]at o;grind
   |_=>rfl
  ·rcases Ag.1 d with d|d
   ·by_cases m:a∈i.2.map (·.1)
    ·grind
    ·refine Ad _ (ht a (Ah _ (AP.2 ⟨i,j,List.mem_filter.2 ⟨p,?_⟩⟩)) d);rw[<-Kj]at m;simpa using m
   grind
theorem S7(a:yb∈BZ wk):yb.1∈Bv wk\/∃c∈Cf wk,c.2.2=yb.1:=by
 cases wk with
 |num n=>cases a
 |name g t p=>cases a
 |call ps=>obtain⟨y,b,rfl⟩:=AK.1 a;exact .inl b
 |CS t fs=>obtain⟨y,b,rfl⟩:=AK.1 a;exact .inl b
 |op k l r=>
  simp[BZ,or_false]at a;rcases a with rfl|rfl<;>simp[Bv]
 |lets r ns es c=>
  simp only[BZ,Ag,AK,Aq]at a;rcases a with⟨y,b,rfl⟩|rfl
  ·exact .inl (by simp[Bv,b])
  ·exact .inl (by simp[Bv])
 |case y bs=>
  simp only[BZ,AW,AK]at a;rcases a with rfl|⟨c,hb,rfl⟩
  ·exact .inl (by simp[Bv])
  ·exact .inr ⟨c,hb,rfl⟩
theorem SH:∀a c,XF a c->XD a c
 |0,_,h=>h
 |a+1,_,h=>⟨λd e=>SH a d (h.2.1 d e),λb hb=>SH a b.2.2 (h.2.2 b hb)⟩
theorem YO{f:ByteArray->Bool}:∀a e b,XF a b->gE f a e b=[]->gE f (a+1) e b=[]
 |0,_,_,h,_=>h.elim
 |a+1,e,b,h,k=>by
  let ⟨l,g⟩:=MU k
  refine Ya l λi d=>⟨(g i d).1,YO a _ _ ?_ (g i d).2⟩;rcases S7 d with c|⟨j,hb,c⟩
  ·exact h.2.1 _ c
  ·exact c▸h.2.2 j hb
theorem Sh{e:ByteArray->Bool}{d:List ByteArray}{b:Ex}:∀c a,a+c=31->XF a b->gE e a d b=[]->XF 31 b/\gE e 31 d b=[]/\wt 31 b=wt a b
 |0,a,hd,h,k=>by grind
 |c+1,a,hd,h,k=>by
  have:=Sh c (a+1) O1 (Qc a b h) (YO a d b h k);exact⟨this.1,this.2.1,this.2.2.trans (SN a b (SH a b h))⟩
structure Cs (g:ByteArray->Bool) (h i f e:List ByteArray):Prop where
 a:∀t∈f,t∈e
 b:∀t∈h,t∉i->g t=true->t∈e
 c:f.Nodup->e.Nodup
 d:∀t∈e,t∈f\/g t=true
theorem Uo(m:ByteArray->Bool):∀j q i b,Cs m (fr j q) i b (DH m j q i b)
 |0,_,_,_=>⟨λ_ a=>a,λ_ a=>(by cases a),λa=>a,λ_ a=>.inl a⟩
 |j+1,q,i,b=>by
  have t:∀(p:List (Ex×Bm)) b,Cs m (p.flatMap λn=>(fr j n.1).filter λe=>!CK e (n.2.map (·.1)) 0) i b (p.foldl (λb l=>DH m j l.1 (i++l.2.map (·.1)) b) b):=by
   intro p;induction p with
   |nil=>exact λb=>⟨λ_ a=>a,λ_ a=>(by cases a),λa=>a,λ_ a=>.inl a⟩
   |cons l p ih=>
    intro b;have r:=Uo m j l.1 (i++l.2.map (·.1)) b;have o:=ih (DH m j l.1 (i++l.2.map (·.1)) b);refine⟨λe d=>o.a e (r.a e d),λe d k s=>?_,λa=>o.c (r.c a),λe d=>(o.d e d).elim (r.d e) .inr⟩;rw[AC,Ag]at d;rcases d with d|d
    ·rw[List.mem_filter]at d;refine o.a e (r.b e d.1 (λf=>?_) s);rcases Ag.1 f with f|f
     ·exact k f
     ·rw[Kj.2 f]at d;cases d.2
    ·exact o.b e d k s
  cases q with
  |name g e pl=>
   unfold DH fr;simp only;split
   ·rename_i a
    simp only[Aqx,Bool.not_eq_true',<-Bool.not_eq_true,Kj]at a;refine⟨λn h=>by simp[h],λn h _ _=>by simp[BZ]at h;simp[h],λk=>A8.2 ⟨k,O2,λu w v hb=>by grind⟩,λn h=>?_⟩;grind
   ·rename_i a
    refine⟨λ_ a=>a,λn h k s=>?_,λa=>a,λ_ a=>.inl a⟩;simp[BZ]at h;subst h;apply Classical.byContradiction;intro f;exact a (by rw[s];rw[<-Kj]at k f;simp[k,f])
  |_=>exact t _ b
theorem Uf:∀(b:List ByteArray) {m:List ByteArray},b.Nodup->(∀a∈b,a∈m)->L b<=L m
 |[],_,_,_=>O2
 |a::b,m,h,k=>by
  have e:=Uf b (m:=m.filter λc=>decide (c≠a)) (Arf.1 h).2 λc d=>List.mem_filter.2 ⟨k c (by simp[d]),by
   grind⟩
  have f:(m.filter λc=>decide (c≠a)).length<L m:=List.length_filter_lt_length_iff_exists.2 ⟨a,k a O2,O2⟩;grind
theorem WT:Eg t v=true↔v∈Ej t:=by simp[Eg,Ej]
structure Pe (e:ByteArray->Bool) (i:ByteArray) (c:Nat) (d:Ex) (a:KS):Prop where
 h:c<=31
 f:XF c d
 g:gE e c (Ej a) d=[]
 l:(Ej a).length<=20
 w:2*(Ej a).length+wt c d<=1990
 b:0<=a.Bl/\2*a.Bl+(wt c d:Int)<=2000
 p:B8 a+900*wt c d<=1900000
 o:Lo a
 n:P8 i
theorem Nw.made(a:P8 v)(b:Nat):Nw (Ds v b) b:=by
 rcases a with a|⟨e,d,a,c⟩
 ·exact⟨v,a,R0 O2 (Jo a).2.1 (.inl rfl) b⟩
 ·exact⟨d,a,R0 c (Jo a).2.1 (.inr ⟨_,rfl⟩) b⟩
theorem Wk.add{k0:List ByteArray×Int}{b:KS}{t:EJ}(c:Wk ws k0 b wf y true)(n:Nw t.1 (L b.kn))(o:TK ws t):Wk ws k0 (DL t b) wf y true:=by
 refine {c with ok:=λm e g a j l=>?_,kg:=λt d=>Ad _ (c.kg t d),tk:=λe a=>?_,kp:=c.kp.trans (Aq6 _ _),kf:=λf e k a=>?_}
 ·let ⟨h,d,i⟩:=c.ok m e g a j l
  exact⟨h,d.up (by simp[DL]),i⟩
 ·rcases Ag.1 a with a|a
  ·exact c.tk e a
  grind
 ·rcases Nat.lt_trichotomy f (L b.kn) with d|rfl|d
  ·exact c.kf f e k (by rw[show(DL t b).kn=b.kn++[t.1] from rfl,Asf d]at a;exact a)
  ·rw[show(DL t b).kn=b.kn++[t.1] from rfl,Asn]at a;grind
  ·rw[Atc (by simp[DL];omega)]at a;cases a
theorem Aah{a:List ByteArray}(c:Pe ws v w wk t)(d:Cs (Eg t) (fr w wk) [] [] a)(e:(L a)<=(Ej t).length):gE ws 31 a wk=[]:=
 (Sh (31-w) w (by have:=c.h;omega) c.f (Xq w _ a wk c.g e λk j i=>d.b k j nofun (WT.2 i))).2.1
theorem Ev.wait{k0:List ByteArray×Int}{d:Nat}(s:Wk ws k0 t wf y true)(a:Pe ws v d wk t)(U:2*(CO d wk:Int)+2+2*t.Bl<=2000):Ev ws k0 y t wf (De v d wk t) (2951+(900*wt d wk-(cc wk-220))) (t.Bl+1):=by
 unfold De;have E:=M4 (Eg t) d wk [] [];rw[Bb,Aqy]at E;have i:=Uo (Eg t) d wk [] [];generalize hl:DH (Eg t) d wk [] []=l at*;obtain⟨G,aa,ab⟩:=Sh (31-d) d (by have:=a.h;omega) a.f a.g;have q:=λe g=>WT.1 ((i.d e g).resolve_left nofun);have k:=Uf l (i.c As9) q;have O:=Aw k a.l;have r:=Nw.made a.n (L t.kn);have D:=a.b.1;have u:Ev ws k0 y t wf (DL (Ds v (L t.kn),l,wk) t) (441+L l+(900*wt d wk-(cc wk-220))) t.Bl:=by
  refine⟨⟨[],by rw[A2];exact s.add r ⟨.inr ⟨_,r⟩,Aw k a.l,G,Aah a i k,by have:=a.w;simp only;omega⟩⟩,rfl,?_,rfl⟩;unfold B8 DL IQ;grind
 refine(Ev.trans (c2:=L l*90+(90+L l*30)) u λH x=>?_).le O1 rfl;have h:=Ev.looks l.reverse x (λe g=>a.o e g) ⟨D,by rw[Ass];show t.Bl+_<=_;omega⟩ (λe g=>q e (by simpa using g));rw[Ass]at h;refine Ev.trans h λK z=>?_;have p:(HO l.reverse (DL (Ds v (L t.kn),l,wk) t)).Bl=t.Bl+L l:=h.d;have j:(Ds v (L t.kn))∈(HO l.reverse (DL (Ds v (L t.kn),l,wk) t)).kn:=by
  obtain⟨Y,-,j⟩:=Kw.fold l.reverse (λe _ t=>Kw.look e t) (DL (Ds v (L t.kn),l,wk) t);rw[show(HO l.reverse (DL (Ds v (L t.kn),l,wk) t)).kn=_ from j];exact Ad _ (Ah _ O2)
 have m:=Ev.look z (λe g=>by rw[h.l]at g;have:=a.o e g;omega) O1 (.inr j);refine Ev.trans m λM B=>?_;exact(Ev.cU (L l) B (by rw[m.d,p];omega)).le .refl (by rw[m.d,p];omega)
theorem Pe.cK{b:Nat}{ns:Bm}(a:Pe ws v (b+1) wk t)(e:(xu,ns)∈BZ wk)(d:Ej nv=Ej t++ns.map (·.1))(q:2*L ns+wt b xu<=wt (b+1) wk)(hb:0<=nv.Bl/\2*nv.Bl+(wt b xu:Int)<=2000)(o:B8 nv+900*wt b xu<=1900000)(m:Lo nv):Pe ws v b xu nv:=by
 let ⟨j,k⟩:=(MU a.g).2 _ e
 have p:=Qf _ a.l j;refine⟨by have:=a.h;omega,?_,by rw[d];exact k,by grind,by rw[d,Ay,Ax];have:=a.w;omega,hb,o,m,a.n⟩;rcases S7 e with c|⟨i,hb,c⟩
 ·exact a.f.2.1 _ c
 ·simp at c;exact c▸a.f.2.2 i hb
def cg:Ex->Nat
 |.op _ _ _=>900
 |.case _ _=>900
 |_=>1550
theorem Sb(a:Ex):900<=cg a:=by cases a<;>simp[cg]
theorem JS(a:Ex):1500<=cc a:=by cases a<;>simp[cc]
def Lk(c:ByteArray->Bool)(k0:List ByteArray×Int)(g:ByteArray)(d:Nat):Prop:=∀(b:Ex) (a:KS) (f:List Int) (e:List Nat),Wk c k0 a f e true->Pe c g d b a->Ev c k0 e a f (kG g d b a) (900*wt d b-cg b) (a.Bl+1)
theorem Ev.fold{i:ByteArray->Bool}{k0:List ByteArray×Int}{m:List Nat}{b:Nat}{n:ByteArray}(o:Lk i k0 n b):∀(l:List Ex) {a:KS} {g:List Int},Wk i k0 a g m true->(∀d∈l,2<=wt b d/\∀e,e.loc=a.loc->(0<=e.Bl/\2*e.Bl+(wt b d:Int)<=2000)->B8 e+900*wt b d<=1900000->Lo e->Pe i n b d e)->Lo a->(0<=a.Bl/\2*a.Bl+((l.map (wt b)).sum:Int)<=2000)->B8 a+900*(l.map (wt b)).sum<=1900000->
 Ev i k0 m a g (l.foldl (λa q=>kG n b q a) a) (900*(l.map (wt b)).sum-900*L l) (a.Bl+(L l:Int))
 |[],a,g,h,_,_,_,_=>(Ev.refl h).le .refl O2
 |d::l,a,g,h,hk,ho,hb,hq=>by
  simp[Int.natCast_add]at hb hq ⊢;have u:=Gp (l:=l) λk j=>(hk k (by simp[j])).1;have v:=(hk d O2).1;have f:=(o d a g m h ((hk d O2).2 a rfl ⟨hb.1,O1⟩ O1 ho)).le (c:=900*wt b d-900) (by have:=Sb d;omega) rfl;have w:=f.p;refine(Ev.trans (c2:=900*(l.map (wt b)).sum-900*L l) (D2:=a.Bl+1+(L l:Int)) f λt r=>?_).le O1 O1;exact(Ev.fold o l r (λk j=>⟨(hk k (by simp[j])).1,λe s=>(hk k (by simp[j])).2 e (s.trans f.l)⟩) (Ke ho f.l (by rw[f.d];omega)) (by rw[f.d];omega) O1).le .refl (by rw[f.d])
theorem Xo(e:Int):∀d b,∀f∈H9 e b d,∃c,b<=c/\c<b+L d/\f.2=Bc (e+(c:Int))
 |[],_,_,a=>by cases a
 |t::d,b,f,a=>by
  rcases AW.1 a with rfl|a
  ·grind
  ·let ⟨c,g,h,i⟩:=Xo e d (b+1) f a
   grind
theorem Yg(b:Int):∀a c,(H9 b c a).map (·.1)=a
 |[],_=>rfl
 |t::a,c=>by simp[H9,Yg b a]
theorem ZG{k0:List ByteArray×Int}{ns:Bm}{b:Int}(d:Wk ws k0 t wf y true)(g:Lo t)(hb:0<=b/\t.Bl=b+(L ns:Int)/\t.Bl<=1000):Wk ws k0 (Dp b ns t) wf y true/\Lo (Dp b ns t)/\Ej (Dp b ns t)=Ej t++ns.map (·.1)/\B8 (Dp b ns t)=B8 t+L ns:=by
 refine⟨d.loc,λc a=>?_,by simp[Ej,Dp,Yg],by unfold B8 Dp;simp only;omega⟩;rcases Ag.1 a with a|a
 ·exact g c a
 ·let ⟨i,h,e,f⟩:=Xo b _ 0 c a
  rw[Ax]at e;rw[f];show 0<=_/\_<t.Bl;simp[Bc];omega
theorem Ev.fS{k0:List ByteArray×Int}(c:Lk ws k0 v w)(b:Wk ws k0 t wf y true)(a:Pe ws v w wk t)(hb:(wt w wk:Int)+2+2*t.Bl<=2000):Ev ws k0 y t wf (JW (De v w) (kG v w) wk t) (900*wt w wk+1700) (t.Bl+1):=by
 have d:=Dz w wk a.f;have e:=Lj w wk;unfold JW;split
 ·exact(Ev.wait b a O1).le (by simp[cc];omega) rfl
 ·exact(Ev.wait b a O1).le (by simp[cc];omega) rfl
 ·exact(c wk t wf y b a).le O1 rfl
theorem Ev.dw{i:ByteArray->Bool}{k0:List ByteArray×Int}{j:List Nat}{d:KS}{k:List Int}{a:Nat}{e:ByteArray}(n:Lk i k0 e a){es:List Ex}{b:Int}(x:0<=b/\d.Bl=b+(L es:Int))(m:Wk i k0 d k j true)(o:∀h∈es,∀g,g.loc=d.loc->(0<=g.Bl/\2*g.Bl+(wt a h:Int)<=2000)->B8 g+900*wt a h<=1900000->Lo g->Pe i e a h g)(q:Lo d)(hb:∀h∈es,(wt a h:Int)+2+2*d.Bl<=2000)(y:B8 d+900*(es.map (wt a)).sum+1790*L es<=1900000):∀c,c<=L es->
 Ev i k0 j d k (EL (nth (JW (De e a) (kG e a)) es) b c d) (900*((es.take c).map (wt a)).sum+1790*c) d.Bl
 |0,_=>(Ev.refl m).le O2 rfl
 |c+1,hj=>by
  have f:=Ev.dw n x m o q hb y c O1;have r:es[c]∈es:=Ao _;have u:((es.take (c+1)).map (wt a)).sum=((es.take c).map (wt a)).sum+wt a es[c]:=by rw[Au O1,AJ,Atr];rfl
  have z:((es.take (c+1)).map (wt a)).sum<=(es.map (wt a)).sum:=by
   have:=Asw (c+1) es;grind
  have G:=f.p;have E:=hb _ r;refine(Ev.trans (c2:=900*wt a es[c]+1700+90) (D2:=d.Bl) f λB v=>?_).le (by rw[u];omega) rfl;rw[EL,show nth (JW (De e a) (kG e a)) es c=JW (De e a) (kG e a) es[c] by simp[nth,show c<L es from hj]];have s:=Ev.fS n v (o _ r _ f.l (by rw[f.d];omega) O1 (Ke q f.l (by rw[f.d];omega))) (by rw[f.d];omega);refine Ev.trans s λD w=>?_;have t:(JW (De e a) (kG e a) es[c] (EL (nth (JW (De e a) (kG e a)) es) b c d)).Bl=d.Bl+1:=by rw[s.d,f.d]
  unfold EN;rw[t,show Bc (Bc (d.Bl+1-2)-Bc (b+(c:Int)))=d.Bl-1-(b+(c:Int)) by simp[Bc];omega];exact(Ev.put w (op:=5) ⟨⟨O1,O1,O1,O1⟩,O1,O1,O1⟩ O1).le (by simp[iy]) rfl
structure Aoy (e:ByteArray->Bool) (k0:List ByteArray×Int) (f:List Nat) (b:KS) (h:List Int) (a:KS) (c:Bm) (g:Nat):Prop where
 w:∃g',Wk e k0 a (h++g') f true
 d:a.Bl=b.Bl+(L c:Int)
 p:B8 a<=B8 b+g
 n:Ej a=Ej b++c.map (·.1)
 o:Lo a
theorem Rc{k0:List ByteArray×Int}{d:Nat}(G:Lk ws k0 v d){D:Bool}{ns:Bm}{es:List Ex}{b:Ex}(E:Wk ws k0 t wf y true)(e:Pe ws v (d+1) (.lets D ns es b) t):Aoy ws k0 y t wf (FP (De v d) (kG v d) D ns es t) ns (900*(nW ns+(es.map (wt d)).sum)+90):=by
 have af:=FY ns;have r:=e.f.1.1;have ae:=e.f.1.2;have aa:wt (d+1) (.lets D ns es b)=4+nW ns+(es.map (wt d)).sum+wt d b:=rfl;have hb:=e.b;have U:=e.p;rw[aa]at hb U;have Y:∀h∈es,wt d h<=(es.map (wt d)).sum:=λh g=>GM (f:=wt d) g;have ad:=Dz d b (e.f.2.1 b (by simp[Bv]));unfold FP;split
 ·rename_i x
  subst x;have c:=Ev.put E (op:=7) (a:=(L ns:Int)) ⟨⟨O1,O1,O1,O1⟩,O1,rfl⟩ O1;have H:B8 (Bz 7 (L ns:Int) t)=B8 t+90:=by rw[Md];rfl
  let ⟨m,n⟩:=c.w
  obtain⟨B,j,k,K⟩:=ZG (ns:=ns) (b:=t.Bl) n (Ke e.o rfl (by rw[c.d];omega)) ⟨hb.1,c.d,by rw[c.d];omega⟩;have i:=Ev.dw G (b:=t.Bl) (es:=es) ⟨hb.1,by rw[r];exact c.d⟩ B (λh g ac z q u s=>e.cK (ns:=ns) (by simp[BZ,g]) (by rw[KF z,k];rfl) O6 q u s) j (λh g=>by have:=Y h g;show _+2+2*(Bz 7 (L ns:Int) t).Bl<=_;rw[c.d];omega) O1 (L es) (Ac _);have ab:=i.p;rw[AQ,K,H]at ab;let ⟨M,O⟩:=i.w
  exact⟨⟨m++M,by simpa using O⟩,i.d.trans c.d,O1,by rw[KF i.l,k];rfl,Ke j i.l (by rw[i.d];omega)⟩
 ·rename_i x
  have c:=Ev.fold G es E (λh g=>⟨(λh g=>Dz d h (e.f.2.1 h (by simp[Bv,g]))) h g,λac z q u s=>e.cK (ns:=[]) (by simp[BZ,g,x]) (by rw[KF z];simp) O6 q u s⟩) e.o ⟨hb.1,O1⟩ O1;let ⟨m,n⟩:=c.w
  have H:=c.p;let ⟨B,j,k,K⟩:=ZG (ns:=ns) (b:=t.Bl) n (Ke e.o c.l (by rw[c.d];omega)) ⟨hb.1,by rw[c.d,r],by rw[c.d];omega⟩
  exact⟨⟨m,B⟩,by rw[<-r];exact c.d,O1,by rw[k,KF c.l],j⟩
theorem RQ{k0:List ByteArray×Int}{s:KS}{n:Nat}{D:Int}{R:List (ByteArray×Int)}(c:Wk ws k0 t wf y true)(j:t.loc=s.loc++R)(h:(L R)=n)(i:t.Bl=D+(n:Int))(g:1<=D/\t.Bl<=1000):(∃f,Wk ws k0 (C7 n t) (wf++f) y true)/\(C7 n t).Bl=D/\B8 (C7 n t)<=B8 t+90/\(C7 n t).loc=s.loc:=by
 have e:t.loc.take (L t.loc-n)=s.loc:=by simp_all
 unfold C7;simp[e];split
 ·have b:=Ev.put (c.loc (l:=s.loc) (z:=t.z)) (op:=4) (a:=(n:Int)) (d':=D) ⟨⟨by simp only;omega,by simp only;omega,O1,O1⟩,O1,by simp only;omega,by simp only;omega⟩ O1;exact⟨b.w,b.d,Aw b.p .refl,b.l⟩
 ·exact⟨⟨[],by rw[A2];exact c.loc⟩,by simp only;omega,by simp[B8],rfl⟩
theorem Agc{d:Nat}{k:Nat}{l r:Ex}:2*CO (d+1) (.op k l r)+2<=wt (d+1) (.op k l r):=by
 have:=Lj d l;have:=Lj d r;simp[CO,BZ,wt];omega
theorem Ali{d:Nat}{x:Ex}{bs:List (Nat×Bm×Ex)}:2*CO (d+1) (.case x bs)+2<=wt (d+1) (.case x bs):=by
 have e:=Lj d x;have f:2*(bs.map λa=>CO d a.2.2).sum<=(bs.map λa=>2+nW a.2.1+wt d a.2.2).sum:=by rw[<-My];exact Ll λa _=>by have:=Lj d a.2.2;omega
 have b:((bs.map (λa=>(a.2.2,a.2.1))).map λc:Ex×Bm=>CO d c.1)=bs.map λa=>CO d a.2.2:=O2;simp[CO,BZ,wt,b];omega
theorem Ev.rev{k0:List ByteArray×Int}(m:Lk ws k0 v w)(a:List Ex)(l:Wk ws k0 t wf y true)(c:Pe ws v (w+1) wk t)(h:∀b∈a,(b,[])∈BZ wk)(u:(a.map (wt w)).sum<=wt (w+1) wk):
 2*L a<=(a.map (wt w)).sum/\Ev ws k0 y t wf (a.reverse.foldl (λt wk=>kG v w wk t) t) (900*(a.map (wt w)).sum-900*L a) (t.Bl+(L a:Int)):=by
 have i:∀b∈a,2<=wt w b:=λb d=>by
  rcases S7 (h b d) with e|⟨k,hb,e⟩
  ·exact Dz w b (c.f.2.1 _ e)
  ·simp at e;exact Dz w b (e▸c.f.2.2 k hb)
 have g:(a.reverse.map (wt w)).sum=(a.map (wt w)).sum:=O2;have hb:=c.b;have s:=c.p;have j:=Ev.fold m a.reverse l (λb d=>by
  rw[List.mem_reverse]at d;refine⟨i b d,λx g n r q=>c.cK (h b d) (by rw[KF g];simp) ?_ n r q⟩;have:=GM (f:=wt w) d;simp;omega) c.o ⟨hb.1,O1⟩ O1
 rw[g,Ass]at j;exact⟨Gp i,j⟩
theorem P9{B:ByteArray->Bool}{k0:List ByteArray×Int}{v:ByteArray}:∀d,Lk B k0 v d
 |0=>λ_ _ _ _ _ e=>e.f.elim
 |d+1=>λz s aj E m e=>by
  have y:Lk B k0 v d:=P9 d;have hb:=e.b;have K:=e.p;have ae:=Dz (d+1) z e.f;cases z with
  |num n=>exact(Ev.put m (op:=0) (a:=n) (d':=s.Bl+1) ⟨⟨O1,O1,O1,O1⟩,e.f.1.1,e.f.1.2,rfl⟩ O1).le (by simp[iy,wt,cg]) rfl
  |name q t pl=>
   refine(Ev.look m e.o (t:=t) O1 ?_).le (by simp only[cg];omega) rfl;have h:=(MU e.g).1;simp only[fN]at h;split at h
   ·exact .inl (Kj.1 ‹_›)
   ·split at h
    ·exact .inr (m.kg t ‹_›)
    ·cases h
  |case x bs=>
   have i:5<=wt (d+1) (.case x bs):=(by simp only[wt];omega);have:=Ali (d:=d) (x:=x) (bs:=bs);exact(Ev.wait m e O1).le (by simp only[cc,cg];omega) rfl
  |op k l r=>
   have i:6<=wt (d+1) (.op k l r):=(by have:=Dz d l (e.f.2.1 l (by simp[Bv]));have:=Dz d r (e.f.2.1 r (by simp[Bv]));simp only[wt];omega);have:=Agc (d:=d) (k:=k) (l:=l) (r:=r);exact(Ev.wait m e O1).le (by simp only[cc,cg];omega) rfl
  |CS t fs=>
   have i:wt (d+1) (.CS t fs)=6+(fs.map (wt d)).sum:=rfl;obtain⟨G,g⟩:=Ev.rev y fs m e (λx M=>by simp[BZ,M]) O1;rw[i]at hb K ⊢;have al:=e.f.1.2;have ad:=e.f.1.1;refine(Ev.trans (c2:=90) (D2:=s.Bl+1) g λj h=>?_).le (by simp only[cg];omega) rfl;refine(Ev.put h (op:=15) (d':=s.Bl+1) ⟨⟨by rw[g.d];omega,by rw[g.d];omega,O1,O1⟩,t,L fs,by simp[Bc];omega,ad,O1,by rw[g.d];omega,by rw[g.d];omega⟩ O1).le (by simp[iy]) rfl
  |call ps=>
   have i:wt (d+1) (.call ps)=(ps.map (wt d)).sum:=rfl;have G:2<=L ps:=e.f.1;match ps with
   |[]=>simp at G
   |x::l=>
    rw[Aqv,Ar9]at i;rw[AM]at G;obtain⟨U,g⟩:=Ev.rev y l m e (λx M=>by simp[BZ,M]) O1;have ae:=Dz d x (e.f.2.1 x (by simp[Bv]));rw[i]at hb K ⊢;have af:=g.p;have u:=λj (h:Wk B k0 _ j E true)=>(y x (l.reverse.foldl (λs z=>kG v d z s) s) j E h (e.cK (ns:=[]) (by simp[BZ]) (by rw[KF g.l];simp) (by rw[i];simp) (by rw[g.d];omega) O1 (Ke e.o g.l (by rw[g.d];omega)))).le (c:=900*wt d x-900) (by have:=Sb x;omega) rfl;refine(Ev.trans (c2:=900*wt d x-900+L l*30) (D2:=s.Bl+1) g λj h=>Ev.trans (u j h) λO H=>?_).le (by simp only[cg];omega) rfl;have Y:=(u j h).d;rw[g.d]at Y;exact(Ev.cU (L l) H O1).le (Ac _) O1
  |lets r ns es b=>
   have i:wt (d+1) (.lets r ns es b)=4+nW ns+(es.map (wt d)).sum+wt d b:=rfl;have am:=FY ns;have g:=Rc y m e;rw[i]at hb K ⊢;obtain⟨j,h⟩:=g.w;have af:=g.p;have ak:=Dz d b (e.f.2.1 b (by simp[Bv]));have u:=y b (FP (De v d) (kG v d) r ns es s) _ E h (e.cK (ns:=ns) (by simp[BZ]) g.n O1 (by rw[g.d];omega) O1 g.o);obtain⟨O,U⟩:=u.w;have an:=u.p;obtain⟨⟨R,ab,ac⟩,-⟩:=Gn.bind (Gw.wait v d) (HV v d) r ns es s;obtain⟨⟨aa,H⟩,ag,ah,ai⟩:=RQ (s:=s) (n:=L ns) (D:=s.Bl+1) (R:=R) U (u.l.trans ab) ac (by rw[u.d,g.d];omega) (by rw[u.d,g.d];omega);exact⟨⟨j++(O++aa),by rw[<-AH,<-AH];exact H⟩,ag,Aw ah (by have:=Sb b;simp only[cg];omega),ai⟩
def nJ(a:List Nat):List Int:=a.map Int.ofNat
structure Ar (m:ByteArray->Bool) (k0:List ByteArray×Int) (n:List Nat) (h:Nat) (e:Int) (f:List (ByteArray×Int)) (r:Bool) (o:List Int) (c:KS) (d:List Int) (i:List Nat) (g:List B0) (q:Nat) (k:List Nat):Prop where
 w:Wk m k0 c d (h::(i++n)) false
 cf:c.code[h]?=I ⟨17,0,[]⟩
 gf:d[h]?=I e
 j:∀j∈i,c.code[j]?=I ⟨18,0,[]⟩/\d[j]?=I e
 a:∀b∈g,0<=b.tgt/\d[b.tgt.toNat]?=I e
 t:g.map (·.tag)=k.map Int.ofNat
 l:c.loc.take (L f)=f
 p:B8 c+100*L g<=q
 gp:o<+:d
 vv:r=true->k≠[]->c.Bl=e/\c.loc=f
theorem Rk(e:Int):∀d b,∀f∈EY e b d,∃c,b<=c/\c<b+L d/\f.2=Bc (Bc (e-1)-(c:Int))
 |[],_,_,a=>by cases a
 |t::d,b,f,a=>by
  rcases AW.1 a with rfl|a
  ·grind
  ·let ⟨c,g,h,i⟩:=Rk e d (b+1) f a
   grind
theorem SF(b:Int):∀a c,(EY b c a).map (·.1)=a
 |[],_=>rfl
 |t::a,c=>by simp[EY,SF b a]
structure Ab (f:ByteArray->Bool) (k0:List ByteArray×Int) (g:List Nat) (e:Int) (c:List (ByteArray×Int)) (b:Bm) (a:KS) (h:List Int):Prop where
 w:Wk f k0 a h g true
 d:a.Bl=e-1+(L b:Int)
 l:∃R,a.loc=c++R/\L R=L b
 n:Ej a=c.map (·.1)++b.map (·.1)
 o:Lo a
theorem Ar.eU{k0:List ByteArray×Int}{g:Nat}(e:Ar ws k0 y g o U w3 sj t wf nk wz s vz){a:Bm}(q:1<=o/\o-1+(L a:Int)<=1000/\o<=1000/\L a<=20)(r:∀c∈U,0<=c.2/\c.2<o-1):Ab ws k0 (g::(nk++y)) o U a (Dc o (L U) a t) (wf++[o])/\B8 (Dc o (L U) a t)=B8 t+90+L a/\(Dc o (L U) a t).code=t.code++[⟨16,(L a:Int),[]⟩]:=by
 have h:Ik (L t.kn) 16 (L a) o (o-1+L a):=⟨⟨O1,O1,O1,O1⟩,O1,O1,O1,rfl⟩;have i:=Ev.put (e.w.shut (l:=t.loc.take (L U)) (z:=t.z)) h O1;have n:=(e.w.shut (l:=t.loc.take (L U)) (z:=t.z)).put h λ_=>⟨nofun,nofun,.inr rfl⟩;have m:(Dc o (L U) a t).Bl=o-1+L a:=i.d;have f:(Dc o (L U) a t).loc=U++EY (o-1+L a) 0 (a.map (·.1)):=by
  unfold Dc Eb;simp[i.d];rw[show(Bz 16 (L a) {t with Bl:=o,loc:=t.loc.take (L U)}).loc=t.loc.take (L U) from rfl,e.l]
 refine⟨⟨n.loc,m,⟨_,f,by rw[LD,Ax]⟩,by unfold Ej;rw[f,AJ,SF],λc b=>?_⟩,?_,rfl⟩
 ·rw[f]at b;rcases Ag.1 b with b|b
  ·grind
  ·let ⟨u,p,j,k⟩:=Rk _ _ _ c b
   rw[Ax]at j;rw[k];simp[Bc];omega
 ·have:=Md 16 (L a) {t with Bl:=o,loc:=t.loc.take (L U)};unfold Dc Eb;simp[B8,iy]at this ⊢;omega
def Ow(h:ByteArray->Bool)(k0:List ByteArray×Int)(i:List Nat)(k:Nat)(e:Int)(d:List (ByteArray×Int))(o:Bool)(n:BT)(j:Nat)(c:KJ->KJ):Prop:=∀(a:KS) (g:List Int) (b:List Nat),Ab h k0 (k::(b++i)) e d n.2.2.1 a g->B8 a+900*j<=1900000->
 ∃l f,Wk h k0 (c (a,nJ b)).1 (g++l) (k::(b++f++i)) false/\(c (a,nJ b)).2=nJ (b++f)/\(∀m∈f,(c (a,nJ b)).1.code[m]?=I ⟨18,0,[]⟩/\(g++l)[m]?=I e)/\a.code<+:(c (a,nJ b)).1.code/\(c (a,nJ b)).1.loc.take (L d)=d/\B8 (c (a,nJ b)).1<=B8 a+900*j/\(o=true->(c (a,nJ b)).1.Bl=e/\(c (a,nJ b)).1.loc=d)
theorem ZR(a:wh<+:xs)(b:wh[w]?=I wq):xs[w]?=I wq:=by
 obtain⟨c,rfl⟩:=a;grind
theorem K1(a:wf[w]?=I o):(wf++sj)[w]?=I o:=by
 grind
theorem Yv{u:ByteArray->Bool}{k0:List ByteArray×Int}{x:List Nat}{G:List Int}{z:Nat}{c:Int}{g:List (ByteArray×Int)}{B:Bool}{D:BT->KJ->KJ}{i:BT->Nat}(hD:1<=c/\c<=1000)(M:∀s∈g,0<=s.2/\s.2<c-1):∀(f:List BT) (d:KS) (n:List Int) (e:List Nat) (k:List B0) (j:Nat) (r:List Nat),(∀b∈f,Ow u k0 x z c g B b (i b) (D b)/\c-1+(L b.2.2.1:Int)<=1000/\L b.2.2.1<=20)->Ar u k0 x z c g B G d n e k j r->j+900*(f.map λb=>2+nW b.2.2.1+i b).sum<=1900000->
 ∃q E v y,Dh D c (L g) f ((d,nJ e),k)=((q,nJ v),y)/\Ar u k0 x z c g B G q E v y (j+900*(f.map λb=>2+nW b.2.2.1+i b).sum) (r++f.map (·.1))/\d.code<+:q.code
 |[],d,n,e,k,j,r,_,h,_=>⟨d,n,e,k,rfl,by simpa using h,Asy _⟩
 |b::f,d,n,e,k,j,r,hT,h,hq=>by
  rw[Aqv,Ar9]at hq ⊢;let ⟨hb,ab,ac⟩:=hT b O2
  let ⟨O,am,an⟩:=h.eU ⟨hD.1,ab,hD.2,ac⟩ M
  have ap:=h.p;have ao:=FY b.2.2.1;let ⟨Y,K,ah,aq,ai,aj,ak,ar,al⟩:=hb _ _ e O O1
  have o:=(show d.code<+:(Dc c (L g) b.2.2.1 d).code by grind).trans aj;have aa:Ar u k0 x z c g B G (D b (Dc c (L g) b.2.2.1 d,nJ e)).1 (n++[c]++Y) (e++K) (k++[⟨b.1,L d.code⟩]) (j+900*(2+nW b.2.2.1+i b)) (r++[b.1]):=by
   refine⟨ah,ZR o h.cf,K1 (K1 h.gf),λH l=>?_,λs m=>?_,by rw[AJ,h.t];simp,ak,by grind,(h.gp.trans (Aq6 _ _)).trans (Aq6 _ _),λad _=>al ad⟩
   ·rcases Ag.1 l with l|l
    ·exact⟨ZR o (h.j H l).1,K1 (K1 (h.j H l).2)⟩
    ·exact ai H l
   ·rcases Ag.1 m with m|m
    ·exact⟨(h.a s m).1,K1 (K1 (h.a s m).2)⟩
    ·obtain rfl:=Aq.1 m;exact⟨O2,K1 (by simp[<-h.w.gl])⟩
  let ⟨q,E,v,y,ae,af,ag⟩:=Yv hD M f _ _ (e++K) _ _ _ (λU o=>hT U (by simp[o])) aa O1
  refine⟨q,E,v,y,?_,by rw[show j+900*(2+nW b.2.2.1+i b+(f.map λb=>2+nW b.2.2.1+i b).sum)=j+900*(2+nW b.2.2.1+i b)+900*(f.map λb=>2+nW b.2.2.1+i b).sum by omega];simpa using af,o.trans ag⟩;rw[<-ae];unfold Dh;grind
theorem Y2:∀{a:List Bx} {c:Nat} {b y:Bx},a[c]?=I b->cb (a.set c y)+iy b=cb a+iy y
 |[],_,_,_,h=>by cases h
 |z::a,0,b,y,h=>by cases h;simp[cb];omega
 |z::a,c+1,b,y,h=>by
  have:=Y2 (y:=y) (by simpa using h);simp[cb]at this ⊢;omega
theorem Rm{F:Bx->Bx}(a:t.code[w]?=I wq):B8 (DQ w F t)+20*iy wq=B8 t+20*iy (F wq)/\DQ w F t={t with code:=t.code.set w (F wq)}:=by
 have b:DQ w F t={t with code:=t.code.set w (F wq)}:=by unfold DQ;rw[a]
 have:=Y2 (y:=F wq) a;unfold B8;grind
theorem Wk.mod{k0:List ByteArray×Int}(c:Wk ws k0 t wf nk v1)(z:t.code[w]?=I wq)(v:wf[w]?=I o)(i:∀b∈nk,b=w\/b∈y)(x:v1=true->w3=true)(B:Ik (L t.kn) sn.op.toNat sn.a o wm/\0<=sn.op/\(sn.op≠17->sn.alts=[])/\(sn.op=17->0<L sn.alts/\(sn.alts.map (·.tag)).Nodup/\∀d∈sn.alts,0<=d.tag/\d.tag<256/\0<=d.tgt)/\∀g∈sc sn w,wf[g]?=I wm\/w3=true/\g=L t.code/\t.Bl=wm):Wk ws k0 {t with code:=t.code.set w sn} wf y w3:=by
 refine {c with gl:=by simpa using c.gl,ok:=λb m h f j k=>?_,se:=λe=>by grind};simp;by_cases e:b=w
 ·grind
 ·rw[List.getElem?_set_ne (λc=>e c.symm)]at f;let ⟨n,p,q,r,s,u⟩:=c.ok b m h f j λl=>(i b l).elim e k
  grind
theorem Ar.done{k0:List ByteArray×Int}{f:Nat}(b:Ar ws k0 y f o U w3 sj t wf nk wz s vz)(m:1<=o/\o<=1000)(u:0<L vz)(z:vz.Nodup)(l:∀e∈vz,e<256):Wk ws k0 (DQ f (λc=>{c with alts:=wz}) t) wf (nk++y) false/\B8 (DQ f (λc=>{c with alts:=wz}) t)<=s/\∀i∈nk,(DQ f (λc=>{c with alts:=wz}) t).code[i]?=I ⟨18,0,[]⟩:=by
 let ⟨j,r⟩:=Rm (F:=λc=>{c with alts:=wz}) b.cf
 have B:=b.p;simp[iy]at j;rw[r]at j ⊢;have x:(L wz)=L vz:=by have:=congrArg List.length b.t;simpa using this
 refine⟨b.w.mod b.cf b.gf (λD q=>by simpa using q) (λb=>b) ⟨⟨⟨O1,O1,O1,O1⟩,rfl,m.1,rfl⟩,O2,λb=>absurd rfl b,λ_=>⟨by simp only;omega,?_,λd hb=>?_⟩,λe h=>.inl ?_⟩,O1,λi n=>?_⟩
 ·rw[b.t];grind
 ·have:d.tag∈vz.map Int.ofNat:=by rw[<-b.t];grind
  let ⟨e,h,k⟩:=AK.1 this
  have g:=l e h;have v:d.tag=e:=k.symm;exact⟨O1,O1,(b.a d hb).1⟩
 ·simp[sc]at h;obtain⟨d,hb,rfl⟩:=h;exact(b.a d hb).2
 ·have g:=(b.j i n).1;rw[List.getElem?_set_ne]
  ·exact g
  ·rintro rfl;rw[b.cf]at g;cases g
theorem TV{k0:List ByteArray×Int}{v:Bool}{F:KS->KS}{T:BT->KJ->KJ}{W:BT->Nat}{bs:List BT}{g:Nat}(c:Ev ws k0 y t wf (F t) g (t.Bl+1))(aa:Lo t)(r:0<=t.Bl/\t.Bl+1<=1000)(o:0<L bs)(Y:(bs.map (·.1)).Nodup)(G:∀a∈bs,a.1<256)(K:∀n,n=(F t).code.length->∀a∈bs,Ow ws k0 y n (t.Bl+1) t.loc v a (W a) (T a)/\t.Bl+(L a.2.2.1:Int)<=1000/\L a.2.2.1<=20)(ab:B8 t+g+70+900*(bs.map λa=>2+nW a.2.2.1+W a).sum<=1900000):
 ∃b j i,DW F T bs (t,[])=(b,nJ i)/\Wk ws k0 b (wf++j) (i++y) false/\(∀e∈i,b.code[e]?=I ⟨18,0,[]⟩/\(wf++j)[e]?=I (t.Bl+1))/\B8 b<=B8 t+g+70+900*(bs.map λa=>2+nW a.2.2.1+W a).sum/\(v=true->b.Bl=t.Bl+1/\b.loc=t.loc)/\t.loc<+:b.loc:=by
 let ⟨z,q⟩:=c.w
 have aj:=c.p;have M:Ik (F t).kn.length 17 0 (F t).Bl (t.Bl+1):=by rw[c.d];exact⟨⟨O1,O1,O1,O1⟩,rfl,O1,rfl⟩
 have E:=(q.at (P':=(F t).code.length::([]++y)) (λak O=>by simp[O])).put (o':=false) M (λU=>absurd (Aqu ..) U);have H:Ar ws k0 y (F t).code.length (t.Bl+1) t.loc v wf (Bz 17 0 (F t)) (wf++z++[(F t).Bl]) [] [] (B8 t+g+70) []:=by
  refine⟨E,by simp[Bz],by rw[<-q.gl,Asn,c.d],λe h=>(by cases h),λa hb=>(by cases hb),rfl,?_,?_,(Aq6 _ _).trans (Aq6 _ _),λ_ D=>absurd rfl D⟩
  ·show(F t).loc.take _=_;rw[c.l,AQ]
  ·rw[Md];simp[iy];omega
 obtain⟨b,j,x,m,ah,f,am⟩:=Yv (hD:=⟨O1,r.2⟩) (λai ad=>by have:=aa ai ad;omega) bs _ _ _ _ _ _ (λa hb=>by have:=K _ rfl a hb;exact⟨this.1,O1,this.2.2⟩) H ab;obtain⟨ae,af,ag⟩:=f.done ⟨O1,r.2⟩ (by simpa using o) (by simpa using Y) (λan s=>by rw[A7]at s;obtain⟨a,hb,rfl⟩:=AK.1 s;exact G a hb);obtain⟨B,rfl⟩:=f.gp;let ⟨al,u⟩:=Rm (F:=λk=>{k with alts:=m}) f.cf
 refine⟨DQ (F t).code.length (λk=>{k with alts:=m}) b,B,x,?_,ae,λe h=>⟨ag e h,(f.j e h).2⟩,af,λac=>?_,?_⟩
 ·unfold DW;simp only;rw[c.d,c.l,show([])=nJ [] from rfl,ah]
 ·rw[u];exact f.vv ac (by simpa using List.ne_nil_of_length_pos o)
 ·rw[u];rw[<-f.l];exact List.take_prefix _ _
theorem Abk(a:KS):29*L a.code<=B8 a:=by
 have:∀l:List Bx,L l<=cb l:=λl=>by
  have:=Gp (f:=iy) (m:=1) (l:=l) λb _=>by unfold iy;grind
  unfold cb;omega
 have:=this a.code;unfold B8;omega
theorem Zr{k:ByteArray->Bool}{k0:List ByteArray×Int}{l:List Nat}{i:List Int}{g:Int}{n:Int}(r:0<=g/\g<=1000):∀b {a:KS} {j:Bool},Wk k k0 a i (b++l) j->(∀c∈b,(∃h,a.code[c]?=I ⟨18,h,[]⟩)/\i[c]?=I g)->a.Bl=g->n=(L a.code:Int)->L a.code<=65535->Wk k k0 (EH n (nJ b) a) i l true/\B8 (EH n (nJ b) a)=B8 a/\(EH n (nJ b) a).Bl=a.Bl/\(EH n (nJ b) a).loc=a.loc
 |[],a,j,d,_,_,_,_=>⟨by
  cases j with
  |true=>exact d
  |false=>exact d.shut,rfl,rfl,rfl⟩
 |c::b,a,j,d,hj,hd,hn,hl=>by
  let ⟨⟨h,o⟩,s⟩:=hj c O2
  let ⟨m,p⟩:=Rm (F:=λe=>{e with a:=n}) o
  have v:Wk k k0 {a with code:=a.code.set c ⟨18,n,[]⟩} i (b++l) true:=d.mod o s (λf u=>by simpa using u) (λ_=>rfl) ⟨⟨⟨O1,O1,O1,O1⟩,by simp only;omega,by simp only;omega,rfl⟩,O2,λ_=>rfl,λd=>by simp at d,λx w=>.inr ?_⟩
  ·have f:=Zr r b v (λe t=>⟨?_,(hj e (by simp[t])).2⟩) hd (by simpa using hn) (by simpa using hl)
   ·have q:EH n (nJ (c::b)) a=EH n (nJ b) {a with code:=a.code.set c ⟨18,n,[]⟩}:=by
     show EH n (nJ b) (DQ c (λe=>{e with a:=n}) a)=_;rw[p]
    rw[q];refine⟨f.1,f.2.1.trans ?_,f.2.2.1,f.2.2.2⟩;rw[p]at m;simp[iy]at m;exact m
   grind
  ·simp[sc]at w;grind
def R3(c:ByteArray->Bool)(k0:List ByteArray×Int)(g:ByteArray)(d:Nat):Prop:=∀(b:Ex) (a:KS) (f:List Int) (e:List Nat),Wk c k0 a f e true->Pe c g d b a->Ev c k0 e a f (kV g d b a) (900*wt d b-cc b) (a.Bl+1)
theorem Pe.eU{k0:List ByteArray×Int}(b:Pe ws v (w+1) (.case wk s5) nv)(hb:sl∈s5){c:List Nat}(a:Ab ws k0 c (nv.Bl+1) nv.loc sl.2.1 t wf)(d:B8 t+900*wt w sl.2.2<=1900000):Pe ws v w sl.2.2 t:=by
 have e:=GM (f:=λsl:B3=>2+nW sl.2.1+wt w sl.2.2) hb;have i:wt (w+1) (.case wk s5)=5+wt w wk+(s5.map λsl:B3=>2+nW sl.2.1+wt w sl.2.2).sum:=rfl;have h:=FY sl.2.1;have g:=b.b;exact b.cK (Be _ (AK.2 ⟨sl,hb,rfl⟩)) a.n O1 (by rw[a.d];omega) d a.o
theorem Ajr{k0:List ByteArray×Int}{b:Nat}{f:Nat}(H:R3 ws k0 v b){U:Ex}{k:List B3}{a:B3}(r:Pe ws v (b+1) (.case U k) t)(hb:a∈k):Ow ws k0 y f (t.Bl+1) t.loc true (Eo a) (wt b a.2.2) (DX (Eo a).2.2.1.length (kV v b (Eo a).2.2.2.2.1)):=by
 intro s e j c O;have c:Ab ws k0 (f::(j++y)) (t.Bl+1) t.loc a.2.1 s e:=c;have i:=r.eU hb c O;have aa:=Dz b a.2.2 i.f;have ab:=i.b;have Y:=r.b.1;have ad:=c.d;have d:=H a.2.2 s e _ c.w i;have ah:=d.p;have ac:=JS a.2.2;let ⟨g,B⟩:=d.w
 let ⟨z,E,G⟩:=c.l
 let ⟨⟨h,n⟩,u,ai,x⟩:=RQ (s:=t) (D:=t.Bl+1) (R:=z) B (d.l.trans E) G (by rw[d.d];omega) (by rw[d.d];omega)
 have q:Ik (C7 (L a.2.1) (kV v b a.2.2 s)).kn.length 18 0 (C7 (L a.2.1) (kV v b a.2.2 s)).Bl (t.Bl+1):=by rw[u];exact⟨⟨O1,O1,O1,O1⟩,O1,O1,rfl⟩
 have o:=(n.at (P':=f::(j++[(C7 (L a.2.1) (kV v b a.2.2 s)).code.length]++y)) (λag ae=>by grind)).put (o':=false) q (λM=>absurd O2 M);rw[u]at o;have m:e++(g++(h++[t.Bl+1]))=e++g++h++[t.Bl+1]:=O2;refine⟨g++(h++[t.Bl+1]),[(C7 (L a.2.1) (kV v b a.2.2 s)).code.length],?_,by simp[DX,nJ,Eo],λaf K=>?_,?_,?_,?_,λ_=>⟨Td q,x⟩⟩
 ·rw[m];exact o
 ·obtain rfl:=Aq.1 K;refine⟨by simp[DX,Bz,Eo],?_⟩;rw[m,<-n.gl,Asn]
 ·exact((KE v b a.2.2 s).2.trans (W5 _ _)).trans (Aq6 _ _)
 ·show(C7 (L a.2.1) (kV v b a.2.2 s)).loc.take _=_;rw[x,AQ]
 ·show B8 (Bz 18 0 (C7 (L a.2.1) (kV v b a.2.2 s)))<=_;rw[Md];simp[iy];omega
theorem Mu(c:Pe ws v (w+1) (.case wk s5) t):∀a∈s5.map Eo,t.Bl+(L a.2.2.1:Int)<=1000/\L a.2.2.1<=20/\a.1<256:=λa hb=>by
 obtain⟨b,d,rfl⟩:=AK.1 hb;have e:=GM (f:=λa:B3=>2+nW a.2.1+wt w a.2.2) d;have k:wt (w+1) (.case wk s5)=5+wt w wk+(s5.map λa:B3=>2+nW a.2.1+wt w a.2.2).sum:=rfl;have j:=FY b.2.1;have i:=c.b;have h:(Ej t).length+L b.2.1<=20:=Qf _ c.l ((MU c.g).2 (b.2.2,b.2.1) (Be _ (AK.2 ⟨b,d,rfl⟩))).1;exact⟨by show _+(L b.2.1:Int)<=_;omega,by show L b.2.1<=20;omega,c.f.1.2.1 b d⟩
theorem S9{E:ByteArray->Bool}{k0:List ByteArray×Int}{f:ByteArray}:∀a,R3 E k0 f a
 |0=>λ_ _ _ _ _ b=>b.f.elim
 |a+1=>λu s G m z b=>by
  have y:R3 E k0 f a:=S9 a;have hb:=b.b;have K:=b.p;have a8:=Dz (a+1) u b.f;have e:=P9 (a+1) u s G m z b;cases u with
  |num n=>exact e.le (by simp only[cg,cc];omega) rfl
  |CS t fs=>exact e.le (by simp only[cg,cc];omega) rfl
  |name q t pl=>
   refine(Ev.trans (c2:=30) (D2:=s.Bl+1) e λh g=>?_).le (by simp only[cg,cc];omega) rfl;exact(Ev.put g (op:=8) ⟨⟨by rw[e.d];omega,by rw[e.d];omega,O1,O1⟩,rfl,by rw[e.d];omega,by rw[e.d]⟩ O1).le (by simp[iy]) rfl
  |call ps=>
   refine(Ev.trans (c2:=30) (D2:=s.Bl+1) e λh g=>?_).le (by simp only[cg,cc];omega) rfl;exact(Ev.put g (op:=8) ⟨⟨by rw[e.d];omega,by rw[e.d];omega,O1,O1⟩,rfl,by rw[e.d];omega,by rw[e.d]⟩ O1).le (by simp[iy]) rfl
  |lets r ns es c=>
   clear e;have i:wt (a+1) (.lets r ns es c)=4+nW ns+(es.map (wt a)).sum+wt a c:=rfl;have a6:=FY ns;have d:=Rc (P9 a) z b;rw[i]at hb K ⊢;obtain⟨h,g⟩:=d.w;have al:=d.p;have a0:=Dz a c (b.f.2.1 c (by simp[Bv]));have j:=y c (FP (De f a) (kG f a) r ns es s) _ m g (b.cK (ns:=ns) (by simp[BZ]) d.n O1 (by rw[d.d];omega) O1 d.o);obtain⟨Y,ag⟩:=j.w;have aB:=j.p;obtain⟨⟨R,ah,ai⟩,-⟩:=Gn.bind (Gw.wait f a) (HV f a) r ns es s;obtain⟨⟨af,H⟩,am,an,ao⟩:=RQ (s:=s) (n:=L ns) (D:=s.Bl+1) (R:=R) ag (j.l.trans ah) ai (by rw[j.d,d.d];omega) (by rw[j.d,d.d];omega);exact⟨⟨h++(Y++af),by rw[<-AH,<-AH];exact H⟩,am,Aw an (by have:=JS c;simp only[cc];omega),ao⟩
  |op k l r=>
   clear e;have i:wt (a+1) (.op k l r)=2+wt a l+wt a r:=rfl;have a5:=Dz a l (b.f.2.1 l (by simp[Bv]));have a7:=Dz a r (b.f.2.1 r (by simp[Bv]));have a3:k<6:=b.f.1;rw[i]at hb K ⊢;have d:=y l s G m z (b.cK (ns:=[]) (by simp[BZ]) O2 (by rw[i];simp;omega) ⟨hb.1,O1⟩ O1 b.o);have al:=d.p;have ay:=JS l;have c2:=JS r;have j:=λh (g:Wk E k0 _ h m true)=>y r (kV f a l s) h m g (b.cK (ns:=[]) (by simp[BZ]) (by rw[KF d.l];simp) (by rw[i];simp) (by rw[d.d];omega) O1 (Ke b.o d.l (by rw[d.d];omega)));refine(Ev.trans (c2:=900*wt a r-cc r+30) (D2:=s.Bl+1) d λh g=>Ev.trans (j h g) λY H=>?_).le (by rw[show cc (.op k l r)=4100 from rfl];omega) rfl;have U:=(j h g).d;rw[d.d]at U;have aj:Ik (kV f a r (kV f a l s)).kn.length (9+k) 0 (kV f a r (kV f a l s)).Bl (s.Bl+1):=by
    rw[U];refine⟨⟨O1,O1,O1,O1⟩,?_⟩;obtain rfl|rfl|rfl|rfl|rfl|rfl:k=0\/k=1\/k=2\/k=3\/k=4\/k=5:=O1;all_goals exact⟨rfl,O1,O1⟩
   exact(Ev.put H (op:=9+k) aj O1).le (by rw[iy,if_neg O5,if_pos O5];exact Ac _) rfl
  |case x bs=>
   clear e;have i:wt (a+1) (.case x bs)=5+wt a x+(bs.map λc:B3=>2+nW c.2.1+wt a c.2.2).sum:=rfl;have a9:=Dz a x (b.f.2.1 x (by simp[Bv]));rw[i]at hb K ⊢;have d:=y x s G m z (b.cK (ns:=[]) (Aqu ..) O2 (by rw[i];simp;omega) ⟨hb.1,O1⟩ O1 b.o);have a1:=JS x;have aa:((bs.map Eo).map λc:BT=>2+nW c.2.2.1+wt a c.2.2.2.2.1).sum=(bs.map λc:B3=>2+nW c.2.1+wt a c.2.2).sum:=by rw[Aqz];rfl
   obtain⟨B,ae,O,av,aw,ad,ax,M,-⟩:=TV (v:=true) (F:=kV f a x) (T:=λc=>DX (L c.2.2.1) (kV f a c.2.2.2.2.1)) (W:=λc=>wt a c.2.2.2.2.1) (bs:=bs.map Eo) d b.o O1 (by simpa using b.f.1.1) (by rw[Aqz];exact b.f.1.2.2) (λc hb=>(Mu b c hb).2.2) (λaz a2 c hb=>⟨by
    obtain⟨aC,ak,rfl⟩:=AK.1 hb;exact Ajr y b ak,(Mu b c hb).1,(Mu b c hb).2.1⟩) (by rw[aa];omega)
   rw[aa]at ax;have a4:=Abk B;obtain⟨ap,aq,ar,au⟩:=Zr (n:=(L B.code:Int)) ⟨O1,O1⟩ O aw (λac ab=>⟨⟨0,(ad ac ab).1⟩,(ad ac ab).2⟩) (M rfl).1 rfl O1;have u:kV f (a+1) (.case x bs) s=EH (L B.code:Int) (nJ O) B:=by
    show J7 _ _ _ s=_;unfold J7;simp only;rw[av]
   rw[u];exact⟨⟨ae,ap⟩,by rw[ar,(M rfl).1],by rw[aq];simp only[cc];omega,by rw[au,(M rfl).2]⟩
structure Er (c:ByteArray->Bool) (k0:List ByteArray×Int) (d:List Nat) (b:KS) (f:List Int) (a:KS) (e:Nat):Prop where
 w:∃g',Wk c k0 a (f++g') d false
 p:B8 a<=B8 b+e
 l:b.loc<+:a.loc
def QG(c:ByteArray->Bool)(k0:List ByteArray×Int)(g:ByteArray)(d:Nat):Prop:=∀(b:Ex) (a:KS) (f:List Int) (e:List Nat),Wk c k0 a f e true->Pe c g d b a->1<=a.Bl->Er c k0 e a f (kR g d b a) (900*wt d b-(cc b-220))
theorem Apk{k0:List ByteArray×Int}{c:Nat}(b:Ev ws k0 y t wf nv c (t.Bl+1))(n:1<=t.Bl/\t.Bl+1<=1000):Er ws k0 y t wf (GX (EN 0 nv)) (c+210):=by
 have a:Ev ws k0 y t wf (EN 0 nv) (c+90) t.Bl:=Ev.trans b λj g=>by
  unfold EN;rw[b.d,show Bc (Bc (t.Bl+1-2)-0)=t.Bl-1 by simp[Bc];omega];exact(Ev.put g (op:=5) ⟨⟨by rw[b.d];omega,by rw[b.d];omega,O1,O1⟩,O1,by rw[b.d];omega,by rw[b.d];omega⟩ O1).le .refl rfl
 have i:∀e,Ev ws k0 y t wf e (c+180) 1->Er ws k0 y t wf (Bz 19 0 e) (c+210):=λe f=>by
  let ⟨k,h⟩:=f.w
  have o:=f.p;have m:=h.put (o':=false) (op:=19) (by rw[f.d];exact⟨⟨O1,O1,O1,O1⟩,rfl,rfl,rfl⟩) λ_=>⟨nofun,nofun,.inl rfl⟩;exact⟨⟨k++[e.Bl],by grind⟩,by rw[Md];simp[iy];omega,by show _<+:e.loc;rw[f.l];simp⟩
 unfold GX;split
 ·refine i _ (Ev.le (Ev.trans (c2:=90) a λj h=>?_) .refl rfl);rw[a.d,show Bc (t.Bl-1)=t.Bl-1 by simp[Bc];omega];exact(Ev.put h (op:=6) ⟨⟨O1,by rw[a.d];omega,O1,O1⟩,O1,by rw[a.d];omega,by rw[a.d];omega⟩ O1).le .refl rfl
 ·rename_i g
  rw[a.d]at g;exact i _ (a.le O1 O1)
theorem Ag3{k0:List ByteArray×Int}{b:Nat}(j:QG ws k0 v b){q:Ex}{f:List B3}{a:B3}(m:Pe ws v (b+1) (.case q f) t)(x:1<=t.Bl)(hb:a∈f):Ow ws k0 y s (t.Bl+1) t.loc false (Eo a) (wt b a.2.2) (λd=>(kR v b (Eo a).2.2.2.2.1 d.1,d.2)):=by
 intro d g r c n;have c:=c;have e:=j a.2.2 d g _ c.w (m.eU hb c n) (by rw[c.d];omega);let ⟨h,o⟩:=e.w
 obtain⟨u,z,-⟩:=c.l;refine⟨h,[],by rw[A2];exact o,O2,λD k=>(by cases k),(OT v b a.2.2 d).2,?_,Aw e.p O1,λi=>(by cases i)⟩;let ⟨E,B⟩:=e.l
 show(kR v b a.2.2 d).loc.take _=_;grind
theorem Um{H:BT->KS->KS}{c:Int}{e:Nat}:∀b a,(Dh (λd a=>(H d a.1,a.2)) c e b a).1.2=a.1.2
 |[],_=>rfl
 |_::b,_=>(Um b _).trans rfl
theorem XR{j:ByteArray->Bool}{k0:List ByteArray×Int}{e:ByteArray}:∀a,QG j k0 e a
 |0=>λ_ _ _ _ _ c=>c.f.elim
 |a+1=>λd f k h m c t=>by
  have y:QG j k0 e a:=XR a;have hb:=c.b;have u:=c.p;have an:=Dz (a+1) d c.f;have Y:Er j k0 h f k (GX (EN 0 (kV e (a+1) d f))) (900*wt (a+1) d-(cc d-220)):=by
   have i:=Apk (S9 (a+1) d f k h m c) ⟨t,O1⟩;have aj:cc d<=900*wt (a+1) d:=by
    cases d with
    |op i l r=>have:=Dz a l (c.f.2.1 l (by simp[Bv]));have:=Dz a r (c.f.2.1 r (by simp[Bv]));simp only[cc,wt];omega
    |case x bs=>simp only[cc,wt];omega
    |_=>simp only[cc];omega
   have:=JS d;exact⟨i.w,Aw i.p O1,i.l⟩
  cases d with
  |lets r ns es b=>
   have q:wt (a+1) (.lets r ns es b)=4+nW ns+(es.map (wt a)).sum+wt a b:=rfl;have am:=FY ns;have g:=Rc (P9 a) m c;rw[q]at hb u ⊢;obtain⟨G,M⟩:=g.w;have ap:=g.p;have ai:=Dz a b (c.f.2.1 b (by simp[Bv]));have s:=y b (FP (De e a) (kG e a) r ns es f) _ h M (c.cK (ns:=ns) (by simp[BZ]) g.n O1 (by rw[g.d];omega) O1 g.o) (by rw[g.d];omega);obtain⟨K,O⟩:=s.w;obtain⟨⟨ae,ag,ah⟩,-⟩:=Gn.bind (Gw.wait e a) (HV e a) r ns es f;exact⟨⟨G++K,by rw[<-AH];exact O⟩,Aw s.p (by have:=JS b;simp only[show cc (.lets r ns es b)=1500 from rfl];omega),(show f.loc<+:_ by grind).trans s.l⟩
  |case x bs=>
   have q:wt (a+1) (.case x bs)=5+wt a x+(bs.map λb:B3=>2+nW b.2.1+wt a b.2.2).sum:=rfl;have ao:=Dz a x (c.f.2.1 x (by simp[Bv]));rw[q]at hb u ⊢;have g:=(S9 a) x f k h m (c.cK (ns:=[]) (Aqu ..) O2 O6 ⟨hb.1,O1⟩ O1 c.o);have ak:=JS x;have U:((bs.map Eo).map λb:BT=>2+nW b.2.2.1+wt a b.2.2.2.2.1).sum=(bs.map λb:B3=>2+nW b.2.1+wt a b.2.2).sum:=by rw[Aqz];rfl
   obtain⟨ad,E,D,z,ab,aq,B,-,ac⟩:=TV (v:=false) (F:=kV e a x) (T:=λb f=>(kR e a b.2.2.2.2.1 f.1,f.2)) (W:=λb=>wt a b.2.2.2.2.1) (bs:=bs.map Eo) g c.o O1 (by simpa using c.f.1.1) (by rw[Aqz];exact c.f.1.2.2) (λb hb=>(Mu c b hb).2.2) (λaf al b hb=>⟨by
    obtain⟨ar,aa,rfl⟩:=AK.1 hb;exact Ag3 y c t aa,(Mu c b hb).1,(Mu c b hb).2.1⟩) O1
   rw[U]at B;obtain rfl:D=[]:=by simpa[nJ]using((congrArg Prod.snd z).symm.trans (Um (H:=λb=>kR e a b.2.2.2.2.1) _ _))
   have d:kR e (a+1) (.case x bs) f=ad:=congrArg Prod.fst z;rw[d];exact⟨⟨E,ab⟩,Aw B (by rw[show cc (.case x bs)=4100 from rfl];omega),ac⟩
  |_=>exact Y
def Sd(j:Nat)(i:Int)(e:List Bx):Prop:=e≠[]/\∃c:List Int,L c=L e/\c[0]?=I (i+1)/\∀f b g,e[f]?=I b->c[f]?=I g->∃h,Ik j b.op.toNat b.a g h/\0<=b.op/\(b.op≠17->b.alts=[])/\(b.op=17->0<L b.alts/\(b.alts.map (·.tag)).Nodup/\∀d∈b.alts,0<=d.tag/\d.tag<256/\0<=d.tgt)/\∀k∈sc b f,c[k]?=I h
theorem Sd.up{c d:Nat}{a:Int}{b:List Bx}(h:Sd c a b)(p:c<=d):Sd d a b:=by
 let ⟨i,g,j,k,l⟩:=h
 refine⟨i,g,j,k,λr s e q o=>?_⟩;let ⟨f,m,n⟩:=l r s e q o
 exact⟨f,m.up p,n⟩
theorem Wk.sd{k0:List ByteArray×Int}(b:Wk ws k0 t wf [] false):Sd (L t.kn) (k0.2-1) t.code:=by
 have g:wf≠[]:=λc=>by cases (b.se c).1
 have d:=b.gl;refine⟨λc=>g (Asj (by rw[d,c];rfl)),wf,d,?_,λi j e h f=>?_⟩
 ·cases wf with
  |nil=>grind
  |cons a wf=>have:=b.st a rfl;rw[this];simp
 ·let ⟨k,l,m,n,o,p⟩:=b.ok i j e h f nofun
  grind
theorem Abl:∀a b,XF a b->cc b<=900*wt a b
 |0,_,h=>h.elim
 |a+1,b,h=>by
  have c:=Dz (a+1) b h;cases b with
  |op k l r=>have:=Dz a l (h.2.1 l (by simp[Bv]));have:=Dz a r (h.2.1 r (by simp[Bv]));simp[cc,wt];omega
  |case x bs=>simp[cc,wt];omega
  |_=>simp[cc];omega
def Je(b:List Bt):Nat:=(b.map λa=>20*cb a.code+9*L a.code).sum
def mu(a:KU):Nat:=a.z+440*L a.kn+(a.td.map IQ).sum
def pa(b:KU):List (ByteArray×Int):=b.gs.map (λc=>(c.name,c.arity))++b.td.map λa=>(a.1,(L a.2.1:Int))
structure Ru (b:ByteArray->Bool) (c e:List ByteArray) (d:List (ByteArray×Int)) (a:KU):Prop where
 kg:∀t,b t=true->t∈a.kn
 tk:∀t∈a.td,TK b t
 kp:c<+:a.kn
 kf:∀i t,L c<=i->a.kn[i]?=I t->Nw t i
 nn:a.kn=e++(pa a).map (·.1)
 ap:d<+:pa a
 gd:∀x∈a.gs,P8 x.name/\0<=x.arity/\x.arity<=20/\x.exp=!ES x.name/\Sd (L a.kn) x.arity x.code
 th:Je a.gs+mu a<=1890000
theorem Ru.b2{A:List (ByteArray×Int)}{u:KU}(e:Ru ws h w1 A u)(k:u.td=n7::nq):Ru ws h w1 A (Eu u)/\mu (Eu u)+29<=mu u:=by
 have c:=e.tk n7 (by simp[k]);have au:=e.th;have ao:mu u=u.z+440*L u.kn+(IQ n7+(nq.map IQ).sum):=by unfold mu;rw[k];rfl
 have al:=JS n7.2.2;have ai:cc n7.2.2<=4100:=by cases n7.2.2<;>simp[cc]
 have av:=Dz 31 n7.2.2 c.f;have ah:=c.w;have aj:=Abl 31 n7.2.2 c.f;have aq:IQ n7=L n7.2.1+(900*wt 31 n7.2.2-(cc n7.2.2-220)):=rfl;obtain⟨a,g⟩:∃a,a=k0 u.kn nq u.z n7.2.1:=⟨_,rfl⟩;have ad:B8 a=u.z+L n7.2.1+440*L u.kn+(nq.map IQ).sum:=by rw[g];simp[B8,k0,cb]
 have B:a.Bl=(L n7.2.1:Int)+1:=by rw[g];rfl
 have s:Ej a=n7.2.1:=by rw[g];exact SF _ _ _
 have G:Wk ws (h,(L n7.2.1:Int)+1) a [] [] true:=by
  rw[g];exact⟨rfl,λo i x b=>O2,e.kg,λi b=>e.tk i (by rw[k];exact Be _ b),e.kp,e.kf,λx H=>(by cases H),λ_=>⟨rfl,rfl⟩⟩
 have E:Pe ws n7.1 31 n7.2.2 a:=by
  refine⟨Ac _,c.f,by rw[s];exact c.g,by rw[s];exact c.l,by grind,O1,O1,λi b=>?_,c.n⟩;rw[g]at b;obtain⟨o,af,ag,D⟩:=Rk _ _ _ i b;have:=c.l;rw[B,D];simp only[Bc];omega
 have o:=XR 31 n7.2.2 a [] [] G E O1;have K:=SQ n7.1 31 n7.2.2 a;obtain⟨ae,j⟩:=o.w;have aw:=o.p;have d:Eu u=⟨(kR n7.1 31 n7.2.2 a).kn,(kR n7.1 31 n7.2.2 a).td,u.gs++[⟨n7.1,(L n7.2.1:Int),!ES n7.1,(kR n7.1 31 n7.2.2 a).code⟩],(kR n7.1 31 n7.2.2 a).z⟩:=by unfold Eu M9;rw[k,g]
 rw[A7]at j;have q:=j.sd;generalize kR n7.1 31 n7.2.2 a=s1 at*;obtain⟨r,M,O⟩:=K;have ax:s1.td=nq++r:=by rw[M,g];rfl
 have v:s1.kn=u.kn++r.map (·.1):=by rw[O,g];rfl
 have an:1<=L s1.code:=Aq8.2 q.1;have ak:(L s1.code)<=cb s1.code:=by
  have:=Gp (f:=iy) (m:=1) (l:=s1.code) λi _=>by unfold iy;grind
  unfold cb;omega
 have ar:B8 s1=20*cb s1.code+9*L s1.code+mu (Eu u):=by rw[d];unfold B8 mu;simp only;omega
 have am:Je (Eu u).gs=Je u.gs+(20*cb s1.code+9*L s1.code):=by rw[d];simp[Je]
 have t:pa (Eu u)=pa u++r.map λn7=>(n7.1,(L n7.2.1:Int)):=by rw[d];unfold pa;grind
 refine⟨⟨by rw[d];exact j.kg,by rw[d];exact j.tk,by rw[d];exact j.kp,by rw[d];exact j.kf,?_,by rw[t];exact e.ap.trans (Aq6 _ _),λi b=>?_,O1⟩,O1⟩
 ·rw[t,AJ,<-AH,<-e.nn,d];simp only;rw[v,Aqz];rfl
 ·rw[d]at b ⊢;rcases Ag.1 b with b|b
  ·obtain⟨U,Y,aa,ab,ac⟩:=e.gd i b;exact⟨U,Y,aa,ab,ac.up (by rw[v];simp)⟩
  ·obtain rfl:=Aq.1 b;have:=c.l;refine⟨c.n,O2,by simp only;omega,rfl,?_⟩;have y:(L n7.2.1:Int)+1-1=(L n7.2.1:Int):=O1;simp only[y]at q;exact q
theorem Ru.run{g:ByteArray->Bool}{j i:List ByteArray}{e:List (ByteArray×Int)}:∀c a,Ru g j i e a->mu a<=c->∃b,KR b a/\Ru g j i e (DZ b a)/\(DZ b a).td=[]
 |0,a,h,hn=>by
  cases ht:a.td with
  |nil=>exact⟨0,ht,h,ht⟩
  |cons t r=>have:=(h.b2 ht).2;omega
 |c+1,a,h,hn=>by
  cases ht:a.td with
  |nil=>exact⟨0,ht,h,ht⟩
  |cons t r=>
   let ⟨k,u⟩:=h.b2 ht
   let ⟨b,p,q,s⟩:=Ru.run c (Eu a) k O1
   have n:=h.th;have v:29*L a.gs<=Je a.gs:=by
    refine Gp λd o=>?_;have w:=Aq8.2 (h.gd d o).2.2.2.2.1;have:=Gp (f:=iy) (m:=1) (l:=d.code) λd _=>by unfold iy;grind
    unfold cb;omega
   exact⟨b+1,⟨by unfold mu at n;omega,O1,p⟩,q,s⟩
theorem Apx(a:Db v=.ok vo):I3 vo.2.1 vo.2.2=[]:=by
 unfold Db at a;split at a
 ·cases a
 ·split at a
  ·cases a
  ·split at a
   ·rename_i hb
    cases a;exact((QC _ N).2 hb).2
   ·cases a
theorem Anu{Gn:Bm}:G9 Gn v=true↔v∈Gn.map (·.1):=Kj
theorem Vq(c:Db v=.ok (nl,wc,vx)){b:List DT}(e:b.map CY=vx){h:List (ByteArray×Int)}(l:h.Perm (wc.map ia)):
 Ru (G9 (Jq wc vx)) (u0 h b).kn (h.map (·.1)) (b.map λa=>(a.1.1,(L a.2.2.1:Int))) (u0 h b):=by
 let ⟨M,U,p⟩:=SO c
 obtain⟨-,⟨Gn,j⟩,o⟩:=SR p;have m:=Apx c;simp at j o m;have i:∀a∈b,CY a∈vx:=λa g=>e▸Arh g;have E:(L h)=L wc:=by simpa using l.length_eq
 have z:(L b)=L vx:=by grind
 have q:∀a∈vx,6+nW a.2.1+wt 31 a.2.2<=dW vx:=λa e=>GM (f:=λa:DD=>6+nW a.2.1+wt 31 a.2.2) e;refine⟨λs d=>?_,λs d=>?_,Asy _,λO s D d=>?_,?_,?_,λt n=>(by cases n),?_⟩
 ·rw[Anu]at d;simp only[Jq,AJ,Aqz,Ag]at d;refine Ag.2 (d.imp (λc=>?_) λc=>?_)
  ·obtain⟨t,n,rfl⟩:=AK.1 c;exact AK.2 ⟨ia t,l.mem_iff.2 (Arh n),rfl⟩
  grind
 ·obtain⟨a,g,rfl⟩:=AK.1 d;let ⟨u,w⟩:=j.d _ (i a g)
  have k:=At4.1 m _ (i a g);simp only[dF,As7]at k;have x:=Qf _ (Ak 20) k.1;have y:=q _ (i a g);have B:=FY a.2.2.1;simp only at y x;exact⟨.inl u,by simp[tk];omega,w,k.2,by simp only[tk,Ax];omega⟩
 ·grind
 ·simp[u0,pa,tk,Aro]
 ·simp[u0,pa,tk,Aro]
 ·have K:((b.map tk).map IQ).sum+441*L b<=900*dW vx:=by
   rw[<-e];unfold dW;clear q i z o m j l e p c;induction b with
   |nil=>simp
   |cons a r ih=>
    have H:IQ (tk a)<=L a.2.2.1+900*wt 31 a.2.2.2.2.1:=by unfold IQ tk;simp
    have G:=FY a.2.2.1;grind
  simp only[Je,mu,u0,Ars,List.sum_nil,Ay,Ax];omega
theorem Ru.any{d:ByteArray->Bool}{f e:List ByteArray}{c:List (ByteArray×Int)}:∀b a,Ru d f e c a->KR b a->Ru d f e c (DZ b a)/\(DZ b a).td=[]
 |0,_,h,k=>⟨h,k⟩
 |b+1,a,h,k=>by
  refine Ru.any b (Eu a) ?_ k.2.2;cases ht:a.td with
  |nil=>rw[show Eu a=a by unfold Eu;rw[ht]];exact h
  |cons t r=>exact(h.b2 ht).1
theorem Sd.Kd(c:Sd w o wh){b:Bx}(e:b∈wh)(j:b.op=1):0<=b.a/\b.a<(w:Int):=by
 obtain⟨-,i,l,-,c⟩:=c;obtain⟨g,f,rfl⟩:=Ari e;obtain⟨h,d,-⟩:=c g _ _ (AA f) (AA O1);have k:=d.2;grind
theorem Ad7(i:Db v=.ok (nl,wc,vx)):WF wc vx:=λg k o m=>by
 obtain⟨b,p,a,-⟩:=Ru.run _ _ (Vq i k m) .refl;have d:=a.th;have r:(DZ b (u0 o g)).kn.length<=10000:=by unfold mu at d;omega
 have n:=congrArg List.length a.nn;simp[pa]at n;refine⟨b,p,O1,O1,O1,λh c=>⟨?_,λs l j=>(a.gd h c).2.2.2.2.Kd l j⟩⟩;have q:=GM (f:=λe:Bt=>20*cb e.code+9*L e.code) c;unfold Je at d;omega
theorem Y0(a:Nat):(Lib.decDigits a).foldl (λb c=>b*10+(c.toNat-48)) 0=a:=by
 induction a using Nat.strongRecOn with
 |ind a ih=>
  rw[Lib.decDigits];split
  ·simp;omega
  ·rw[Atl,ih (a / 10) O1];simp;omega
theorem Af3(a:Lib.itoa (w:Int)=Lib.itoa (s:Int)):w=s:=by
 rw[Lib.itoa_nonneg,Lib.itoa_nonneg]at a;rw[<-Y0 w,a,Y0]
theorem Zw{b:UInt8}:∀{a e c f:List UInt8},b∉a->b∉c->a++b::e=c++b::f->e=f
 |[],_,[],_,_,_,h=>by cases h;rfl
 |[],_,z::c,_,_,hx,h=>by grind
 |z::a,_,[],_,ha,_,h=>by grind
 |z::a,_,w::c,_,ha,hx,h=>Zw (λd=>ha (Be _ d)) (λd=>hx (Be _ d)) (List.cons.inj h).2
theorem Nw.inj(a:Nw v w)(d:Nw v s):w=s:=by
 let ⟨h,b,c⟩:=a
 let ⟨g,e,f⟩:=d
 exact Af3 (Zw (Jo b).2.1 (Jo e).2.1 (c.symm.trans f))
theorem Nw.no(a:Nw v w):¬CE v=true:=λc=>by
 let ⟨e,d,b⟩:=a
 exact(Jo c).2.1 (by rw[b];simp)
theorem Ru.nodup(e:Ru ws h w1 U n6)(q:h.Nodup)(s:∀g∈h,CE g=true):n6.kn.Nodup:=by
 let ⟨v,r⟩:=e.kp
 refine Ase.2 λd a u o m t=>?_;have c:=AA o;have b:n6.kn[d]?=I n6.kn[a]:=by grind
 generalize n6.kn[a]=g at b c;by_cases p:(L h)<=a
 ·have f:=e.kf a _ p c;by_cases n:(L h)<=d
  ·have:=(e.kf d _ n b).inj f;omega
  ·refine f.no (s _ ?_);grind
 ·rw[<-r,Asf O1]at b c;let ⟨i,j⟩:=Are.1 b
  let ⟨k,l⟩:=Are.1 c
  exact Ase.1 q d a i k m (j.trans l.symm)
theorem Sd.re(r:Sd w o wh)(E:(L h)=w)(y:∀e∈h,e∈w1)(G:(L w1)=w):Sd w o (wh.map (Ja h w1)):=by
 let ⟨s,q,t,u,v⟩:=r
 refine⟨by simpa using s,q,by simpa using t,u,λD H p n x=>?_⟩;rw[Arc]at n;obtain⟨f,B,rfl⟩:=AB.1 n;let ⟨g,d,i,j,k,l⟩:=v D f p B x
 unfold Ja;split
 ·rename_i c
  have b:=d.2;rw[c]at b;have z:h.getD f.a.toNat ⟨#[]⟩∈w1:=by
   have:f.a.toNat<L h:=by have:=b.1;have:=b.2.1;omega
   rw[Ata,AA this];exact y _ (Ao this)
  have:=Ws z;refine⟨g,?_,i,j,k,λe m=>l e ?_⟩
  ·simp only;rw[c];exact⟨d.1,this.1,O1,b.2.2⟩
  ·simp[sc,c]at m ⊢;exact m
 ·exact⟨g,d,i,j,k,l⟩
end Go.Proofs.YtcacpmkdfnmhaaaGreatDoor
