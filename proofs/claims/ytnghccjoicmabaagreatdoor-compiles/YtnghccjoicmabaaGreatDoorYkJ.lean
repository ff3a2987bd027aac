import Derived.Test.YtnghccjoicmabaaGreatDoorZwJ
namespace Go.Proofs.YtnghccjoicmabaaGreatDoor
open Go.RowKit Go.Sort
variable{r ny sx:KS}{wd:Type}{sz xf:Ex->KS->KS}{v3:BT->KJ->KJ}
def Kw(b c:KS):Prop:=∃a:List Dd,c.td=b.td++a/\c.kn=b.kn++a.map (·.1)
theorem Kw.same(a:ny.td=r.td)(b:ny.kn=r.kn):Kw r ny:=⟨[],by simp[a],by simp[b]⟩
theorem Kw.refl(a:KS):Kw a a:=.same rfl rfl
theorem Kw.trans(c:Kw r ny)(d:Kw ny sx):Kw r sx:=by
 let ⟨a,e,f⟩:=c
 let ⟨b,g,h⟩:=d
 exact⟨a++b,by grind,by grind⟩
theorem Kw.put(op:Nat)(a:Int)(b:KS):Kw b (AE op a b):=.same rfl rfl
theorem Kw.look(t:ByteArray)(a:KS):Kw a (Bu t a):=by unfold Bu;split<;>exact .put _ _ _
theorem Kw.dN(d:Nat)(c:Int)(b:KS):∀a,Kw b (E3 d c a b)
 |0=>.refl _
 |a+1=>(Kw.dN d c b a).trans (.put _ _ _)
theorem Kw.fold{d:wd->KS->KS}(c:List wd)(e:∀b∈c,∀a,Kw a (d b a))(a:KS):Kw a (c.foldl (λa b=>d b a) a):=by
 induction c generalizing a with
 |nil=>exact .refl _
 |cons b c ih=>exact(e b (by simp) a).trans (ih (λg f=>e g (by simp[f])) _)
theorem Kw.wait(d:ByteArray)(b:Nat)(c:Ex)(a:KS):Kw a (BC d b c a):=by
 exact((show Kw a (DU _ a) from⟨[_],rfl,rfl⟩).trans ((Kw.fold _ (λ_ _ a=>.look _ a) _).trans (.look _ _))).trans (.dN _ _ _ _)
theorem Kw.d9{d:Nat->KS->KS}(e:∀f a,Kw a (d f a))(b:Int)(a:KS):∀c,Kw a (CY d b c a)
 |0=>.refl _
 |c+1=>((Kw.d9 e b a c).trans (e _ _)).trans (.put _ _ _)
theorem Kw.dV(b:Nat)(a:KS):Kw a (AW b a):=by unfold AW;split<;>exact .same rfl rfl
theorem Kw.mod(b:Nat)(c:Bp->Bp)(a:KS):Kw a (D5 b c a):=by unfold D5;split<;>exact .same rfl rfl
theorem Kw.ep(d:Int)(b:List Int)(a:KS):Kw a (CZ d b a):=Kw.fold b (λc _ a=>Kw.mod c.toNat _ a) a
theorem Kw.bind(f:∀b a,Kw a (sz b a))(e:∀b a,Kw a (xf b a))(h:Bool)(c:Av)(d:List Ex)(a:KS):Kw a (DV sz xf h c d a):=by
 unfold DV;split
 ·exact(show Kw a (BI a.AB c (AE 7 c.length a)) from .same rfl rfl).trans (.d9 (λg a=>by
   unfold nth;cases d[g]? with
   |none=>exact .refl _
   |some b=>cases b<;>first|exact f _ a|exact e _ a) _ _ _)
 ·exact(Kw.fold _ (λb _ a=>e b a) _).trans (.same rfl rfl)
theorem Kw.eD{e:BT->KJ->KJ}{d:Int}{m:Nat}:∀c,(∀b∈c,∀a,Kw a.1 (e b a).1)->∀a:KA,Kw a.1.1 (BD e d m c a).1.1
 |[],_,_=>.refl _
 |b::c,h,a=>((show Kw a.1.1 (CS d m b.2.2.1 a.1.1) from .same rfl rfl).trans (h b (by simp) (CS d m b.2.2.1 a.1.1,a.1.2))).trans (Kw.eD c (λb f=>h b (by simp[f])) _)
theorem Kw.eI{F:KS->KS}(c:∀a,Kw a (F a))(bs:List BT)(d:∀b∈bs,∀a,Kw a.1 (v3 b a).1)(a:KJ):Kw a.1 (Cg F v3 bs a).1:=(((c a.1).trans (.put 17 0 _)).trans (Kw.eD bs d _)).trans (.mod _ _ _)
theorem Kl(f:ByteArray):∀c e a,Kw a (kG f c e a)
 |0,_,a=>.refl a
 |c+1,e,a=>by
  have d:=Kl f c;have h:=λi a=>Kw.fold i (λx _ a=>d x a) a;cases e with
  |num n=>exact .put _ _ _
  |name g t p=>exact .look _ _
  |call ps=>exact((h _ _).trans (d _ _)).trans (.dN _ _ _ _)
  |Fs t fs=>exact(h _ _).trans (.put _ _ _)
  |lets r ns es b=>exact((Kw.bind (Kw.wait f c) d r ns es a).trans (d _ _)).trans (.dV _ _)
  |case x bs=>exact .wait _ _ _ _
  |op k i r=>exact .wait _ _ _ _
theorem UJ(c:ByteArray):∀a e b,Kw b (kV c a e b)
 |0,_,b=>.refl b
 |a+1,e,b=>by
  have d:=UJ c a;cases e with
  |num n=>exact Kl c (a+1) _ _
  |name g t p=>exact(Kl c (a+1) _ _).trans (.put _ _ _)
  |call ps=>exact(Kl c (a+1) _ _).trans (.put _ _ _)
  |Fs t fs=>exact Kl c (a+1) _ _
  |lets r ns es f=>exact((Kw.bind (Kw.wait c a) (Kl c a) r ns es b).trans (d _ _)).trans (.dV _ _)
  |op k l r=>exact((d _ _).trans (d _ _)).trans (.put _ _ _)
  |case x bs=>exact(Kw.eI (d x) _ (λf _ b=>((d f.2.2.2.2.1 b.1).trans (.dV _ _)).trans (.put _ _ _)) (b,[])).trans (.ep _ _ _)
theorem Uv(d:ByteArray):∀b c a,Kw a (kR d b c a)
 |0,_,a=>.refl a
 |b+1,c,a=>by
  have g:=Uv d b;have h:∀c,Kw a (Ho (EV 0 (kV d (b+1) c a))):=λc=>by
   have f:Kw a (EV 0 (kV d (b+1) c a)):=(UJ d (b+1) c a).trans (.put _ _ _);unfold Ho;split
   ·exact(f.trans (.put _ _ _)).trans (.put _ _ _)
   ·exact f.trans (.put _ _ _)
  cases c with
  |lets r ns es e=>exact(Kw.bind (Kw.wait d b) (Kl d b) r ns es a).trans (g _ _)
  |case x bs=>exact Kw.eI (UJ d b x) _ (λe _ a=>g e.2.2.2.2.1 a.1) (a,[])
  |_=>exact h _
end Go.Proofs.YtnghccjoicmabaaGreatDoor
