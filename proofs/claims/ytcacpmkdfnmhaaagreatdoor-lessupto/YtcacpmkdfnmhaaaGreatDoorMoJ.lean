import Derived.Test.YtcacpmkdfnmhaaaGreatDoorTmJ
import Derived.Laws.BytesArg
set_option linter.unusedSimpArgs false
open Go renaming Value->X
open Go.IntKind renaming i64->C
open Go.Proofs.Tryz renaming prog->Aa,underlying9->Bg
open Go.Value renaming agg->T,int->V,string->S
open List renaming length->L,range->AU
open Option renaming none->N,some->I
open Or renaming inl->Ba,inr->Aq5
namespace Go.Proofs.YtcacpmkdfnmhaaaGreatDoor
open Go.RowKit Go.Sort
variable{q nr si yv yw:Br}{o wm v0:Int}{d:List Bt}{n:World}{w:Nat}{b:Value}{K vs:List UInt8}{wo:Nat->Nat->Int}{np:Prop}{wq:Bx}{xw:List UInt8->Em}{wz:List B0}{vm yx yy yz:AR}{y0:Option Int}
def KZ(a:Br):Prop:=(a.ended=true->a.kind≠0)/\(a.ended=false->a.kind=0)
theorem IE(c:o≠0)(b:KZ q):KZ (BE o q):=by
 unfold BE;split
 ·exact b
 ·exact⟨λ_=>c,λa=>by cases a⟩
theorem S4(b:Int)(a:KZ q):KZ (Cp b q):=by
 exact Fl a (IE nofun a)
theorem Agx(a:Nat)(b:KZ q):KZ (F4 a q):=by
 induction a with
 |zero=>exact b
 |succ a ih=>exact ih
theorem Acl(b:Int)(a:KZ q):KZ (I7 b q):=by
 exact Fl (IE nofun a) a
theorem Aqi(b:List B0)(a:KZ q):KZ (HY b q):=by
 refine Fl (IE nofun a) ?_;cases b.find? _ with
 |none=>exact IE nofun a
 |some q=>exact a
theorem Wd(b:Cg)(a:KZ q):KZ (E3 b q):=a
theorem An7(b:List Int)(a:KZ q):KZ (Cw b q):=a
theorem Ajf(b:Bx)(a:KZ q):KZ (Cl b q):=by
 unfold Cl JB;repeat' (first|exact IE O4 a|exact Acl _ a|exact Aqi _ a|exact Wd _ (An7 _ (S4 _ a))|exact Wd _ (S4 _ a)|exact Agx _ (S4 _ a)|refine Fl ?_ ?_|exact a)
theorem Qw(a:KZ q):KZ (CP q):=by
 exact Fl (IE nofun a) (Fl a a)
theorem Z6(b:Int)(a:KZ q):KZ (Fm b q).1:=by unfold Fm;split<;>exact a
theorem Akn(b:Int)(a:KZ q):KZ (Il d b q):=by
 exact Fl a (IE nofun a)
theorem NL{d:List Bt}:∀b c,KZ c->KZ (EP d b c).1
 |0,c,h=>Qw h
 |b+1,c,h=>by
  rw[EP];simp only;have a:=h;split
  ·split
   ·exact NL b _ a
   ·split
    ·exact NL b _ a
    ·split
     ·exact IE nofun a
     ·split
      ·split
       ·exact Akn _ a
       ·exact Z6 _ a
      ·split
       ·exact IE nofun a
       ·exact Z6 _ a
  ·exact Qw h
theorem Amv(b:Br)(c:KZ b):KZ (CQ d b).1:=by
 unfold CQ;split
 ·have a:=c;simp only;split
  ·exact NL _ _ a
  ·split
   ·exact NL _ (HL (BD b)) a
   ·exact Ajf _ a
 ·exact Qw c
theorem Y9{c:List Bt}:∀a b,KZ b.1->KZ (El c a b).1
 |0,_,h=>h
 |a+1,(st,N),h=>by
  rw[El];split
  ·exact h
  ·exact Y9 a _ (Amv st h)
 |a+1,(st,I v),h=>h
theorem Aky{gs:List Bt}(a:Int)(b:KZ q):KZ (Cm gs a q).1:=Y9 _ _ (NL _ (Gg a q) b)
theorem Abz{gs:List Bt}(a:Int)(c:KZ q):KZ (CZ gs a q).1:=by
 have b:=Aky (gs:=gs) a c;unfold CZ;simp only;split
 ·exact b
 ·exact Qw b
theorem UR{gs:List Bt}:∀a i b e,KZ b->KZ (FK gs a i b e).1
 |a,[],b,e,h=>by cases a<;>exact h
 |0,_::_,b,_,h=>h
 |a+1,(g,c)::i,b,e,h=>by
  rw[FK];have k:∀g d f,KZ d->KZ (DF g d e (λj=>FK gs a f d j)).1:=λg d f hb=>by
   unfold DF;split
   ·exact UR a f d _ hb
   ·exact IE nofun hb
  split
  ·have l:=Abz (gs:=gs) c h;grind
  grind
theorem Ahu(a:List TD)(b:List UInt8)(c:KZ q):KZ (CA d a q b).1:=UR _ a q b c
theorem Ahr(d:n.ownsRow w 5 1 b (L K) (JM K)):(convert 95 9 b).run Aa n=.ok (S ⟨K.toArray⟩) n:=by
 rcases d.2 with⟨rfl,f⟩|⟨a,e,g,rfl,-,-,h,-⟩
 ·obtain rfl:K=[]:=As4.1 f;exact run_convert_bytes_nil n _ 5 Tryz.underlying95 Tryz.underlying5 0 0 _ Bg
 ·exact run_convert_bytes_back n 95 9 5 ⟨a,0,N⟩ e K Tryz.underlying95 Tryz.underlying5 Bg (λc i=>by
   have:=d.cellAt c O1;rw[show(⟨a,0,N⟩:Addr).add c=⟨a,c,N⟩ from by unfold Addr.add;grind,this];unfold JM;grind)
def IR(b:Nat):List Cg:=(AU b).map λa:Nat=>⟨4,(a:Int),0,0,[]⟩
def FF(b:Nat)(a c:Int):Br:=⟨IR b,⟨[],0,0⟩,[],FT a 2000000,FT c 2000000,0,0,0,false⟩
def FU(a:List Bt)(c b d:Int):Em:=CA a [([],c)] (FF (L a) b d) []
def J8(b:List Bt)(c a d:Int):X:=
 T #[V C (FU b c a d).1.kind,S ⟨((FU b c a d).2.getD []).toArray⟩,V C (FU b c a d).1.steps,V C (FU b c a d).1.used]
theorem Qj(a:Int):0<=FT a 2000000/\FT a 2000000<=2000000:=by
 unfold FT;omega
theorem PV(j:(L d)<=200000)(b g:Int):Di d (FF (L d) b g):=by
 have c:=Qj b;have e:=Qj g;have k:(IR (L d)).length=L d:=by simp[IR]
 refine⟨λn i=>?_,?_,⟨Arq _,c.1⟩,c.2,⟨Arq _,e.1⟩,e.2,rfl⟩
 ·obtain⟨l,f,rfl⟩:=AK.1 i;have f:=As3.1 f;exact⟨⟨O2,O2⟩,λa=>(by simp at a),λa=>(by simp at a),λ_=>⟨O2,by simp;omega⟩,λm h=>(by cases h),O2,⟨O2,by grind⟩⟩
 ·show(((IR (L d)).length:Nat):Int)=L d+0;omega
theorem Wz(a:Nat):(IR a).length=a:=by simp[IR]
def Jd:List X:=[V C 0,S ⟨#[]⟩,V C 0,V C 0]
theorem Ts(e:BN n w Jd)(b c d a:X):BN ((((n.setCell ⟨w,0,N⟩ b).setCell ⟨w,1,N⟩ c).setCell ⟨w,2,N⟩ d).setCell ⟨w,3,N⟩ a) w [b,c,d,a]:=
 BN.set (BN.set (BN.set (BN.set e (by simp[Jd]) _) (by simp[Jd]) _) (by simp[Jd]) _) .refl _
theorem T3(h:CC d wo)(l:d.length<=200000)(n:0<=o/\o<(d.length:Int))(b c:Int):(∃a g,FU d o b c=(a,I g)/\a.ended=false)\/(∃a,FU d o b c=(a,N)/\a.ended=true):=by
 have i:GU [([],o)] (FF d.length b c):=λm f=>by
  rw[Aq.1 f];show o<((IR d.length).length);rw[Wz];omega
 rcases Oh h (tM [([],o)] (FF d.length b c)) (L:=[]) (PV l b c) i (λm f=>by cases f) .refl with⟨a,g,e,-,j,-⟩|⟨a,e,-,k⟩
 ·exact Ba ⟨a,g,e,j.live⟩
 ·exact Aq5 ⟨a,e,k⟩
def lf(b c:Int)(a:Br):Br:={a with fuel:=b,spare:=c}
structure Bd (a:Br):Prop where
 s:0<=a.steps/\a.steps<=a.fuel
 u:0<=a.used/\a.used<=a.spare
 k:0<=a.kind/\a.kind<=8
 z:a.ended=false->a.kind=0
structure B7 (a b:Br):Prop where
 f:b.fuel=a.fuel
 p:b.spare=a.spare
 s:a.steps<=b.steps
 u:a.used<=b.used
 b:Bd a->Bd b
theorem B7.refl:B7 q q:=⟨rfl,rfl,Arq _,Arq _,id⟩
theorem B7.trans{d b e:Br}(a:B7 d b)(c:B7 b e):B7 d e:=⟨c.f.trans a.f,c.p.trans a.p,Atz a.s c.s,Atz a.u c.u,λg=>c.b (a.b g)⟩
theorem B7.of(b:nr.fuel=q.fuel)(c:nr.spare=q.spare)(e:nr.steps=q.steps)(f:nr.used=q.used)(d:nr.kind=q.kind)(g:nr.ended=q.ended):B7 q nr:=⟨b,c,O1,O1,λa=>⟨by rw[b,e];exact a.s,by rw[c,f];exact a.u,by rw[d];exact a.k,by rw[d,g];exact a.z⟩⟩
theorem B7.end(a:Int)(d:0<=a/\a<=8):B7 q (BE a q):=by
 unfold BE;split
 ·exact .refl
 ·exact⟨rfl,rfl,Arq _,Arq _,λb=>⟨b.s,b.u,d,λc=>(by cases c)⟩⟩
theorem B7.room(d:0<=o)(b:Ch o q=true):B7 q (Cp o q):=by
 unfold Cp;rw[if_pos b];have c:=of_decide_eq_true b;refine⟨rfl,rfl,Arq _,?_,λa=>⟨a.s,⟨?_,c⟩,a.k,a.z⟩⟩
 ·grind
 ·show 0<=q.used+o;have:=a.u;omega
theorem B7.step(b:Ce q=true):B7 q {q with steps:=q.steps+1}:=by
 have c:q.steps≠q.fuel:=by
  unfold Ce at b;grind
 refine⟨rfl,rfl,?_,Arq _,λa=>⟨⟨?_,?_⟩,a.u,a.k,a.z⟩⟩
 ·grind
 ·show 0<=q.steps+1;have:=a.s;omega
 ·show q.steps+1<=q.fuel;have:=a.s;omega
theorem B7.BR(b:Ce q=false):B7 q (CP q):=by
 unfold Ce at b;unfold CP;by_cases a:q.steps=q.fuel
 ·rw[if_pos a];exact .end 1 O1
 ·rw[if_neg a];have:q.ended=true:=by grind
  rw[if_pos this];exact .refl
theorem Vi[Decidable np](a:B7 q nr)(b:B7 q si):B7 q (if np then nr else si):=by grind
theorem U2{b:Br}:∀a:Nat,B7 b (F4 a b)
 |0=>.refl
 |a+1=>(U2 a).trans (.of rfl rfl rfl rfl rfl rfl)
theorem VF(b:0<=o)(a:Ch o q=true->B7 (Cp o q) nr):B7 q (if Ch o q then nr else BE 2 q):=by
 cases hb:Ch o q with
 |true=>exact(B7.room b hb).trans (a hb)
 |false=>exact .end 2 O1
theorem Ac5(a:Ch 1 q=true->B7 (Cp 1 q) nr):B7 q (if Ch 1 q=false then BE 2 q else nr):=by
 cases hb:Ch 1 q with
 |true=>exact(B7.room O1 hb).trans (a hb)
 |false=>exact .end 2 O1
theorem Anh(b:wq.op=7->0<=wq.a):B7 q (Cl wq q):=by
 unfold Cl JB HY I7;dsimp only;by_cases a:wq.op=7
 ·simp[a];exact VF (b a) λ_=>U2 _
 ·rw[if_neg a];repeat' (first
   |exact .end _ O1
   |exact .of rfl rfl rfl rfl rfl rfl
   |refine VF O1 λ_=>?_
   |refine Ac5 λ_=>?_
   |refine Vi ?_ ?_
   |split)
theorem U6(a:Int):B7 q (Fm a q).1:=by
 unfold Fm;split
 ·exact .refl
 ·exact .of rfl rfl rfl rfl rfl rfl
theorem Adm(a:Int):B7 q (Il d a q):=by
 exact Vi (.of rfl rfl rfl rfl rfl rfl) (.end 3 O1)
theorem L6{c:List Bt}:∀b a,B7 a (EP c b a).1
 |0,a=>by
  show B7 a (CP a);cases h:Ce a with
  |false=>exact .BR h
  |true=>
   have d:CP a={a with steps:=a.steps+1}:=by
    unfold Ce at h;unfold CP;grind
   rw[d];exact .step h
 |b+1,a=>by
  rw[EP];cases h:Ce a with
  |false=>exact .BR h
  |true=>
   apply (B7.step h).trans;rw[if_pos rfl];dsimp only;split
   ·refine B7.trans ?_ (L6 b _);exact .of rfl rfl rfl rfl rfl rfl
   split
   ·refine B7.trans ?_ (L6 b _);exact .of rfl rfl rfl rfl rfl rfl
   split
   ·exact .end 7 O1
   split
   ·split
    ·exact Adm _
    ·exact U6 _
   split
   ·exact .end 5 O1
   ·exact U6 _
theorem Aka(c:CC d wo)(a:Br)(b:(Dv d a).op=7):0<=(Dv d a).a:=by
 unfold Dv E4 at b ⊢;cases h1:d[a.now.g.toNat]? with
 |none=>simp
 |some g=>
  obtain⟨e,rfl⟩:=Are.1 h1;rw[h1]at b;simp[Arn]at b ⊢;cases h2:d[a.now.g.toNat].code[a.now.at_.toNat]? with
  |none=>simp
  |some i=>
   rw[h2]at b;simp[Arn]at b ⊢;obtain⟨f,rfl⟩:=Are.1 h2;have:=((c.code _ e).ins _ (Ao f)).2;rw[if_neg O1]at this;exact Alh this O1
theorem Sm(e:CC d wo)(a:Br):B7 a (CQ d a).1:=by
 unfold CQ;cases h:Ce a with
 |false=>exact .BR h
 |true=>
  rw[if_pos rfl];have c:B7 a (BD a):=(B7.step h).trans (.of rfl rfl rfl rfl rfl rfl);dsimp only;split
  ·exact c.trans (L6 _ _)
  split
  ·exact c.trans (B7.trans (b:=HL (BD a)) (.of rfl rfl rfl rfl rfl rfl) (L6 _ _))
  ·exact c.trans (Anh (Aka e a))
theorem SZ{b:List Bt}{e:Nat->Nat->Int}(c:CC b e):∀a d,B7 d.1 (El b a d).1
 |0,_=>.refl
 |a+1,(st,N)=>by
  rw[El];split
  ·exact .refl
  ·exact(Sm c st).trans (SZ c a _)
 |a+1,(st,I v)=>.refl
theorem Akr(e:CC d wo)(c:Int)(a:Br):B7 a (Cm d c a).1:=B7.trans (b:=Gg c a) (.of rfl rfl rfl rfl rfl rfl) ((L6 _ _).trans (SZ e _ _))
theorem Qh(c:CC d wo)(b:Int)(a:Br):B7 a (CZ d b a).1:=by
 apply (Akr c b a).trans;unfold CZ;dsimp only;cases h:Ce (Cm d b a).1 with
 |true=>exact .step h
 |false=>exact .BR h
theorem Ry(a:B7 q (xw (vs++K)).1):B7 q (DF K q vs xw).1:=by
 unfold DF;split
 ·exact a
 ·exact .end 8 O1
theorem toSm{e:List Bt}{j:Nat->Nat->Int}(f:CC e j):∀b g a d,B7 a (FK e b g a d).1
 |b,[],a,d=>by cases b<;>exact .refl
 |0,_::_,a,d=>.refl
 |b+1,(s,c)::g,a,d=>by
  rw[FK];split
  ·have i:=Qh f c a;match h:CZ e c a with
   |(a1,I x)=>rw[h]at i;exact i.trans (Ry (toSm f b _ _ _))
   |(a1,N)=>grind
  ·exact Ry (toSm f b _ _ _)
def Nk(a:Br):Prop:=a.ended=true->a.kind≠1/\a.kind≠2
def Ot(a b:Br):Prop:=a.ended=true/\(a.kind=1/\a.steps=a.fuel/\a.steps<=b.steps\/a.kind=2/\a.used<=b.used)
theorem Ot.go(a:Ot q nr)(b:B7 nr si):Ot q si:=⟨a.1,a.2.imp (λa=>⟨a.1,a.2.1,Atz a.2.2 b.s⟩) λa=>⟨a.1,Atz a.2 b.u⟩⟩
def RP(b c:Int)(d a e:Br):Prop:=(e=lf b c a/\Nk a)\/a=BE 2 d
theorem G1{a:Br}(b:Int)(c:a.ended=false):BE b a={a with ended:=true,kind:=b}:=by unfold BE;grind
theorem RP.end{a:Br}(b:Int)(d:b≠1/\b≠2)(c:a.ended=false):RP o wm nr (BE b a) (BE b (lf o wm a)):=by
 rw[G1 b c,G1 b (a:=lf o wm a) c];exact .inl ⟨rfl,λ_=>d⟩
theorem RP.live(b:nr.ended=false):RP o wm q nr (lf o wm nr):=.inl ⟨rfl,λa=>by grind⟩
theorem RP.room(d:q.spare<=wm)(b:Cp v0 (lf o wm q)=lf o wm (Cp v0 q)->(Cp v0 q).ended=q.ended->RP o wm q nr si):RP o wm q (if Ch v0 q then nr else BE 2 q) (if Ch v0 (lf o wm q) then si else BE 2 (lf o wm q)):=by
 cases hb:Ch v0 q with
 |false=>exact .inr rfl
 |true=>
  have c:=of_decide_eq_true hb;have a:Ch v0 (lf o wm q)=true:=decide_eq_true (show q.used+v0<=wm by omega);rw[a];refine b ?_ ?_
  ·unfold Cp;rw[if_pos hb,if_pos a];rfl
  ·unfold Cp;rw[if_pos hb]
theorem RP.e9(b:q.spare<=wm)(a:Cp 1 (lf o wm q)=lf o wm (Cp 1 q)->(Cp 1 q).ended=q.ended->RP o wm q nr si):RP o wm q (if Ch 1 q=false then BE 2 q else nr) (if Ch 1 (lf o wm q)=false then BE 2 (lf o wm q) else si):=by
 have:=RP.room b a;grind
theorem T1[Decidable np](a:RP o wm q nr si)(b:RP o wm q yv yw):RP o wm q (if np then nr else yv) (if np then si else yw):=by grind
theorem TI{b c:Int}{d:Br}:∀a:Nat,F4 a (lf b c d)=lf b c (F4 a d)
 |0=>rfl
 |a+1=>by rw[F4,TI a];rfl
theorem Wi{b:Br}:∀a:Nat,(F4 a b).ended=b.ended
 |0=>rfl
 |a+1=>(Wi a)
theorem Ag6(b:q.ended=false):RP o wm q (HY wz q) (HY wz (lf o wm q)):=by
 have c:∀a:Option B0,RP o wm q (match a with|some x=>{q with now:={q.now with at_:=x.tgt}}|none=>BE 4 q) (match a with|some x=>{lf o wm q with now:={(lf o wm q).now with at_:=x.tgt}}|none=>BE 4 (lf o wm q)):=λa=>by
  cases a with
  |none=>exact .end 4 O1 b
  |some x=>exact .live b
 unfold HY;exact T1 (.end 3 O1 b) (c _)
theorem Apc{a:Br}(d:a.ended=false)(h:a.spare<=wm):RP o wm a (Cl wq a) (Cl wq (lf o wm a)):=by
 have i:∀e f g,Cp e (lf o wm a)=lf o wm (Cp e a)->(Cp e a).ended=a.ended->RP o wm a (E3 f (Cw g (Cp e a))) (E3 f (Cw g (Cp e (lf o wm a)))):=λe f g b c=>by
  rw[b];exact .live (c.trans d)
 unfold Cl JB I7;dsimp only;repeat' (first
  |exact Ag6 d
  |refine RP.room h λb c=>?_
  |refine RP.e9 h λb c=>?_
  |exact i _ _ _ b c
  |(rw[b];exact .live (c.trans d))
  |(rw[b,TI];exact .live ((Wi _).trans (c.trans d)))
  |(refine RP.end _ ?_ d;omega)
  |(apply RP.live;exact d)
  |refine T1 ?_ ?_
  |split)
def LR(c d:Int)(a b:AR):Prop:=(b=(lf c d a.1,a.2)/\Nk a.1)\/(a.2=N/\Ot a.1 b.1)
theorem Mz[Decidable np](a:LR o wm vm yx)(b:LR o wm yy yz):LR o wm (if np then vm else yy) (if np then yx else yz):=by grind
theorem LR.live(b:q.ended=false):LR o wm (q,y0) (lf o wm q,y0):=.inl ⟨rfl,λa=>by grind⟩
theorem LR.end{a:Br}(b:Int)(d:b≠1/\b≠2)(c:a.ended=false):LR o wm (BE b a,N) (BE b (lf o wm a),N):=by
 rw[G1 b c,G1 b (a:=lf o wm a) c];exact .inl ⟨rfl,λ_=>d⟩
theorem LR.val(a:Int)(c:q.ended=false):LR o wm (Fm a q) (Fm a (lf o wm q)):=by
 have d:∀b:Option JQ,LR o wm (match b with|none=>(q,I a)|some f=>({q with now:={f with s:=f.s++[a]},BF:=q.BF.dropLast},N)) (match b with|none=>(lf o wm q,I a)|some f=>({lf o wm q with now:={f with s:=f.s++[a]},BF:=(lf o wm q).BF.dropLast},N)):=λb=>by
  cases b with
  |none=>exact .live c
  |some f=>exact .live c
 exact d _
theorem LR.enter(a:Int)(e:q.ended=false):LR o wm (Il d a q,N) (Il d a (lf o wm q),N):=by
 unfold Il;by_cases c:((Mm (E4 d a).arity.toNat q).all λb=>decide ((Co q b).kind=2))=true
 ·rw[if_pos c,if_pos (show((Mm (E4 d a).arity.toNat (lf o wm q)).all λb=>decide ((Co (lf o wm q) b).kind=2))=true from c)];exact .live e
 ·rw[if_neg c,if_neg (show ¬((Mm (E4 d a).arity.toNat (lf o wm q)).all λb=>decide ((Co (lf o wm q) b).kind=2))=true from c)];exact .end 3 O1 e
theorem MJ{a:Br}(b:a.ended=false)(c:a.steps≠a.fuel):Ce a=true:=by
 unfold Ce;grind
theorem W6{h:List Bt}{c f:Int}{a:Br}(n:a.fuel<=c):∀g d b,b.fuel=a.fuel->(b.fuel-b.steps).toNat=g->(c-b.steps).toNat=d->b.steps<=b.fuel->b.ended=false->LR c f (EP h g b) (EP h d (lf c f b))
 |0,d,b,e,hn,hm,hs,hl=>by
  have l:b.steps=b.fuel:=O1;have m:EP h 0 b=(BE 1 b,N):=by
   show(CP b,N)=_;unfold CP;rw[if_pos l]
  rw[m,G1 1 hl];exact .inr ⟨rfl,rfl,.inl ⟨rfl,l,(L6 d (lf c f b)).s⟩⟩
 |g+1,0,b,e,hn,hm,hs,hl=>O1
 |g+1,d+1,b,e,hn,hm,hs,hl=>by
  rw[EP,EP,MJ hl O1,MJ (a:=lf c f b) hl (show b.steps≠c by omega),if_pos rfl,if_pos rfl];have k:∀j,LR c f (EP h g (Cw j {b with steps:=b.steps+1})) (EP h d (Cw j {lf c f b with steps:=(lf c f b).steps+1})):=λj=>W6 n g d (Cw j {b with steps:=b.steps+1}) e (by show(b.fuel-(b.steps+1)).toNat=g;omega) (by show(c-(b.steps+1)).toNat=d;omega) (by show b.steps+1<=b.fuel;omega) hl;have i:=hl;refine Mz (k _) (Mz (k _) (Mz (.end 7 O1 i) (Mz (Mz (.enter _ i) (.val _ i)) (Mz (.end 5 O1 i) (.val _ i)))))
theorem R1{gs:List Bt}{S:Int}{a:Br}(b:a.fuel<=o)(d:a.steps<=a.fuel)(c:a.ended=false):LR o S (F3 gs a) (F3 gs (lf o S a)):=W6 b _ _ a rfl rfl rfl d c
theorem Ah8{a:Br}(i:CC d wo)(j:a.fuel<=o)(n:a.spare<=wm)(p:a.steps<=a.fuel)(c:a.ended=false):LR o wm (CQ d a) (CQ d (lf o wm a)):=by
 by_cases f:a.steps=a.fuel
 ·have l:CQ d a=(BE 1 a,N):=by
   have hb:Ce a=false:=by unfold Ce;simp[f]
   unfold CQ;rw[hb];show(CP a,N)=_;unfold CP;rw[if_pos f]
  rw[l,G1 1 c];exact .inr ⟨rfl,rfl,.inl ⟨rfl,f,(Sm i (lf o wm a)).s⟩⟩
 ·have g:=Sm i (lf o wm a);unfold CQ at g ⊢;rw[MJ (a:=lf o wm a) c (show a.steps≠o by omega),if_pos rfl]at g ⊢;rw[MJ c f,if_pos rfl];have k:(BD a).steps<=(BD a).fuel:=by show a.steps+1<=a.fuel;omega
  by_cases b:(Dv d a).op=19
  ·rw[if_pos b,if_pos (show(Dv d (lf o wm a)).op=19 from b)];exact R1 j k c
  by_cases e:(Dv d a).op=8
  ·rw[if_neg b,if_neg (show ¬(Dv d (lf o wm a)).op=19 from b),if_pos e,if_pos (show(Dv d (lf o wm a)).op=8 from e)];exact R1 j k c
  rw[if_neg b,if_neg (show ¬(Dv d (lf o wm a)).op=19 from b),if_neg e,if_neg (show ¬(Dv d (lf o wm a)).op=8 from e)];rw[if_neg (show ¬(Dv d (lf o wm a)).op=19 from b),if_neg (show ¬(Dv d (lf o wm a)).op=8 from e)]at g;rcases Apc (a:=BD a) c n with⟨h,m⟩|h
  ·exact .inl ⟨by show(Cl (Dv d a) (lf o wm (BD a)),N)=_;rw[h],m⟩
  ·refine .inr ⟨rfl,?_⟩;rw[h,G1 2 (a:=BD a) c];exact⟨rfl,.inr ⟨rfl,g.u⟩⟩
theorem VZ(b:CC d wo)(a:AR):B7 a.1 (Ia d a).1:=SZ b _ _
theorem Y8{a:List Bt}{h:Nat->Nat->Int}{d e:Int}(c:CC a h):∀k {f g:AR} {l m:Br},Cz f.1<k->EO a h l f->EO a h m g->f.1.fuel<=d->f.1.spare<=e->LR d e f g->LR d e (Ia a f) (Ia a g)
 |0,f,g,l,m,hk,_,_,_,_,_=>O1
 |k+1,f,g,l,m,hk,h1,h2,hf,hS,.inr ⟨h3,h4⟩=>by
  rw[NN (.inr h4.1)];exact .inr ⟨h3,h4.go (VZ c g)⟩
 |k+1,(s,I x),g,l,m,hk,h1,h2,hf,hS,.inl ⟨h3,h4⟩=>by
  subst h3;exact .inl ⟨rfl,h4⟩
 |k+1,(s,N),g,l,m,hk,h1,h2,hf,hS,.inl ⟨h3,h4⟩=>by
  subst h3;by_cases n:s.ended=true
  ·rw[NN (.inr n),NN (.inr (show(lf d e s).ended=true from n))];exact .inl ⟨rfl,h4⟩
  ·have j:FD a h s:=by have:=h1.2;grind
   have hw':FD a h (lf d e s):=by have:=h2.2;simp at this;rw[if_neg (show ¬(lf d e s).ended=true from n)]at this;omega
   have u:s.ended=false:=by simpa using n
   rw[QT c j,show Ia a (lf d e (s,N).1,N)=Ia a (CQ a (lf d e s)) from QT c hw'];have t:=Ah8 c hf hS j.b.steps.2 u;have q:=MX c j;cases hb:Ce s with
   |true=>
    have r:=Qa c j hb;have o:=q.1.1;have i:=q.1.2.1;refine Y8 c k ?_ q (MX c hw') ?_ ?_ t
    ·have p:=(JG j.b).2 hb;unfold Cz at hk ⊢;grind
    ·rw[o];exact hf
    grind
   |false=>
    have r:s.steps=s.fuel:=by
     unfold Ce at hb;grind
    have o:CQ a s=(BE 1 s,N):=by
     unfold CQ;rw[hb];show(CP s,N)=_;unfold CP;rw[if_pos r]
    rcases t with⟨-,i⟩|⟨i,p⟩
    ·rw[o,G1 1 u]at i;exact absurd rfl (i rfl).1
    ·rw[NN (.inr p.1)];exact .inr ⟨i,p.go (VZ c _)⟩
theorem Rq{a:Br}(b:a.ended=true):Ce a=false/\CP a=a:=by
 refine⟨by unfold Ce;rw[b];rfl,?_⟩;unfold CP BE;grind
theorem Aji{gs:List Bt}{D:Nat->Nat->Int}{S:Int}{a:Br}(e:CC gs D){b:Int}(c:Di gs a)(t:Di gs (lf o S a))(h:0<=b/\b<(L a.cells:Int))(z:a.fuel<=o)(H:a.spare<=S):(CZ gs b (lf o S a)=(lf o S (CZ gs b a).1,(CZ gs b a).2)/\Nk (CZ gs b a).1)\/((CZ gs b a).2=N/\Ot (CZ gs b a).1 (CZ gs b (lf o S a)).1):=by
 let ⟨w,u,n⟩:=LM e c h
 obtain⟨x,O,-⟩:=LM e t h;have hb:Gg b (lf o S a)=lf o S (Gg b a):=rfl;have m:=Jk e _ (PR c h) rfl;have y:LR o S (Cm gs b a) (Cm gs b (lf o S a)):=by
  rw[w,x,hb];refine Y8 e _ (Ar2 _) m (by rw[<-hb];exact(Jk e _ (PR (D:=D) t h) rfl)) ?_ ?_ (R1 (gs:=gs) (S:=S) (a:=Gg b a) z c.steps.2 c.live)
  ·have g:(F3 gs (Gg b a)).1.fuel=a.fuel:=m.1.1;omega
  ·have g:(F3 gs (Gg b a)).1.spare=a.spare:=m.1.2.1;omega
 have r:=Qh e b (lf o S a);unfold CZ at r ⊢;generalize Cm gs b a=p at*;generalize Cm gs b (lf o S a)=q at*;dsimp only at r ⊢;rcases y with⟨rfl,G⟩|⟨E,d⟩
 ·by_cases i:p.1.ended=true
  ·let ⟨k,l⟩:=Rq i
   let ⟨K,M⟩:=Rq (a:=lf o S p.1) i
   grind
  ·have j:p.1.ended=false:=by simpa using i
   by_cases f:p.1.steps=p.1.fuel
   ·have k:Ce p.1=false:=by unfold Ce;simp[f]
    rw[k];refine .inr ⟨rfl,?_⟩;have l:CP p.1={p.1 with ended:=true,kind:=1}:=by unfold CP;rw[if_pos f,G1 1 j]
    rw[l];refine⟨rfl,.inl ⟨rfl,f,?_⟩⟩;cases hq:Ce (lf o S p.1) with
    |true=>show p.1.steps<=p.1.steps+1;omega
    |false=>exact(B7.BR hq).s
   ·have B:p.1.steps<=p.1.fuel:=by
     have d:=u.2;match ho:p.2 with
     |some v=>rw[ho]at d;exact d.1.steps.2
     |none=>rw[ho]at n;exact(n.elim (λc=>absurd rfl c) λc=>absurd c i)
    rw[MJ j f,MJ (a:=lf o S p.1) j (show p.1.steps≠o by rw[u.1.1]at B f;omega)];exact .inl ⟨rfl,λg=>by rw[show({p.1 with steps:=p.1.steps+1}:Br).ended=p.1.ended from rfl,j]at g;cases g⟩
 ·let ⟨k,l⟩:=Rq d.1
  rw[k,l];refine .inr ⟨rfl,?_⟩;cases hq:Ce q.1 with
  |true=>exact d.go (B7.step hq)
  |false=>exact d.go (B7.BR hq)
theorem R4(c:CC d wo)(b:List TD)(a:Br)(e:List UInt8):B7 a (CA d b a e).1:=toSm c _ _ _ _
theorem QB{b:List Bt}{v:Nat->Nat->Int}{g i:Int}(e:CC b v):∀m {d:List TD} {a:Br} {t:List UInt8},Di b a->Di b (lf g i a)->GU d a->tM d a<=m->a.fuel<=g->a.spare<=i->(CA b d (lf g i a) t=(lf g i (CA b d a t).1,(CA b d a t).2)/\Nk (CA b d a t).1)\/((CA b d a t).2=N/\Ot (CA b d a t).1 (CA b d (lf g i a) t).1)
 |_,[],a,t,h,_,_,_,_,_=>by
  rw[Mf,Mf];exact .inl ⟨rfl,λl=>by rw[h.live]at l;cases l⟩
 |0,_::_,a,t,_,_,_,hn,_,_=>by unfold tM at hn;simp at hn
 |m+1,(s,c)::d,a,t,h,h',hT,hn,hf,hS=>by
  unfold tM at hn;rw[AM]at hn;by_cases k:0<=c
  ·rw[MV e h hT k,MV e h' hT k];have q:0<=c/\c<L a.cells:=⟨k,hT _ (Aqu ..)⟩;rcases Aji e h h' q hf hS with⟨l,D⟩|⟨w,j⟩
   ·rcases Mc e h q with⟨z,M,B,-,-,-,-,n,o,y,G,u⟩|⟨n,-,-⟩
    ·have r:Di b (lf g i (CZ b c a).1):=by
      rcases Mc e h' q with⟨U,O,-,-,-,-,-,-,r,-⟩|⟨x,-,-⟩
      ·grind
      grind
     have E:=(Qh e c a).f;have K:=(Qh e c a).p;have H:=OC u;rw[l,n];dsimp only;unfold DF;split
     ·refine QB e m o r (hT.more u y) ?_ O1 O1;unfold tM;grind
     ·rw[G1 8 o.live,G1 8 (a:=lf g i (CZ b c a).1) o.live];exact .inl ⟨rfl,λ_=>⟨nofun,nofun⟩⟩
    grind
   ·match n:CZ b c a,w,j with
    |(a1,N),_,j=>
     refine .inr ⟨rfl,?_⟩;match x:CZ b c (lf g i a),j with
     |(b1,N),j=>exact j
     |(b1,I z),j=>exact j.go (Ry (R4 e _ _ _))
  ·rw[LX k,LX k];unfold DF;split
   ·exact QB e m h h' hT.tail (by unfold tM;omega) hf hS
   ·rw[G1 8 h.live,G1 8 (a:=lf g i a) h.live];exact .inl ⟨rfl,λ_=>⟨nofun,nofun⟩⟩
theorem TS(a:0<=o/\o<=2000000):FT o 2000000=o:=by
 unfold FT;omega
theorem Aqf(h:CC d wo){e f c:Int}(K:0<=e/\e<(L d:Int))(x:0<=f/\f<3000)(w:0<=c/\c<3000)(a g:Em)(q:a=FU d e f c)(r:g=FU d e 20000 20000):
 (0<=a.1.steps/\a.1.steps<=f/\0<=a.1.used/\a.1.used<=c/\0<=a.1.kind/\a.1.kind<=8/\g.1.steps<=20000)/\((a.2=N/\a.1.kind=1/\a.1.steps=f/\a.1.steps<=g.1.steps)\/(a.2=N/\a.1.kind=2/\a.1.used<=g.1.used)\/(a.1.kind≠1/\a.1.kind≠2/\g.2=a.2/\g.1.kind=a.1.kind/\g.1.steps=a.1.steps/\g.1.used=a.1.used)):=by
 have p:FF (L d) 20000 20000=lf 20000 20000 (FF (L d) f c):=rfl;have B:(FF (L d) f c).fuel=f:=TS ⟨x.1,O1⟩;have D:(FF (L d) f c).spare=c:=TS ⟨w.1,O1⟩;have bd:∀j l,Bd (FF (L d) j l):=λj l=>⟨⟨Arq _,(Qj j).1⟩,⟨Arq _,(Qj l).1⟩,⟨Arq _,by show 0<=8;omega⟩,λ_=>rfl⟩;have v:GU [([],e)] (FF (L d) f c):=λM y=>by
  obtain rfl:=Aq.1 y;show e<((IR (L d)).length);simp[IR];omega
 have gA:=R4 h [([],e)] (FF (L d) f c) [];have m:=R4 h [([],e)] (FF (L d) 20000 20000) [];have n:=QB h _ (t:=[]) (PV h.M3 f c) (p▸(PV h.M3 20000 20000)) v .refl O1 O1;rw[<-p]at n;have i:=gA.b (bd _ _);have fA:=gA.f;have pA:=gA.p;have Pa:_=(20000:Int):=m.f;rw[show CA d [([],e)] (FF (L d) f c) []=a from q.symm]at*;rw[show CA d [([],e)] (FF (L d) 20000 20000) []=g from r.symm]at*;have O:=i.s;have U:=i.u;have Y:=i.k;have aa:=(m.b (bd _ _)).s;refine⟨O1,?_⟩;rcases n with⟨rfl,u⟩|⟨E,G,H⟩
 ·have o:a.1.kind≠1/\a.1.kind≠2:=by
   cases he:a.1.ended with
   |true=>exact u he
   |false=>rw[i.z he];omega
  exact .inr (.inr ⟨o.1,o.2,rfl,rfl,rfl,rfl⟩)
 grind
end Go.Proofs.YtcacpmkdfnmhaaaGreatDoor
