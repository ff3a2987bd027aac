import Derived.Test.YtnghccjoicmabaaGreatDoorVkJ
import Derived.Test.YtnghccjoicmabaaGreatDoorCd1J
import Derived.Test.YtnghccjoicmabaaGreatDoorLk0J
set_option maxRecDepth 100000
set_option maxHeartbeats 8000000
open Except renaming error->P
open Go renaming Calls->Adg,Value->X,World->Q,maxLen->Aed,undef->Aet
open Go.ByteArray renaming toList_eq->Adw
open Go.Ending renaming returned->F
open Go.IntKind renaming i64->C
open Go.Obj renaming cells->Adi
open Go.Proofs.Tryz renaming prog->Acs
open Go.Region renaming ready->Aek
open Go.RowKit renaming wrap64->Aer
open Go.Value renaming agg->T,bool->A,iface->Z,int->V,ownBlock->Ad6,pointer->J,slice->W,string->S,tuple->R
open Go.World renaming news_of_block->Adu
open List renaming range->Aev
open Or renaming inl->Ads,inr->Ad7
namespace Go.Proofs.YtnghccjoicmabaaGreatDoor
open Go.RowKit Go.Sort
variable{s wn:ByteArray}{w v b d x K wi w5 vd vx n3:Nat}{n p h w0 vm:World}{o:Nat->Addr}{m q j f wv vc vy n0 xj:Value}{wc:Array Oper}{w3:Region.Mode}{t:List Nat}{nz:Array Bool}{wp:Program}{w6:Exit->Act->World->Prop}{vo:World->Prop}{wj:Act}{w4 xp xq xr:Oper}{vv:Act->World->Prop}{nh:ByteArray×Nat}{w2:Bool}{l:Av}{wu:List PT}{sh:Operand->Value}{M:TypeId}{N:Ex}{y wy:List ByteArray}{wb vq:List Value}{we w7 nk:Int}{nd v2:Nat×Nat}{wf:DR}{H:Dn}{wl vk:List ((Value×Value×Value)×Nat×Nat)}{wh:List Ex}{na:List (Value×Nat×Nat)}{wq:List (Nat×Av×Ex)}{s4:List ByteArray->Ex->Nat×Nat->Nat×Nat}{sv:ByteArray×DR×Dn}
theorem Qd:G3.toList=[108,101,116]:=by rw[Adw];rfl
theorem LK:BZ.toList=[108,101,116,114,101,99]:=by rw[Adw];rfl
theorem Vc:KG.toList=[99,111,110]:=by rw[Adw];rfl
theorem QV:He.toList=[99,97,115,101]:=by rw[Adw];rfl
theorem Wo(b:CC s=some w):s≠⟨#[]⟩:=λa=>by
 have:CC ⟨#[]⟩=none:=rfl;grind
theorem Wv{E:Nat->Pr Ex}(a:CC (Ag s w)=some v):AY s E w=pOp E v (AC s w):=by unfold AY;rw[a];rfl
theorem Wb{E:Nat->Pr Ex}(a:CC (Ag s w)=none):AY s E w=if Ag s w=G3 then BE s E false (AC s w)
 else if Ag s w=BZ then BE s E true (AC s w)
 else if Ag s w=KG then E5 s E (AC s w)
 else if Ag s w=He then Da s E (AC s w)
 else Dc s E w:=by unfold AY;rw[a]
theorem S8(af:s.size<=2000)(O:C6 n w v o s m b d)(aj:RQ n w v o s m b d):Jg 194 n w v o s m b d (AY s (pE s b)) #[]:=by
 intro g f ai ae I;have M:=hid (A1 ae I);have L:=hid ai;have N:=hid ae;have U:=AK I;have an:=Fy;have H:Hid (Rt (Ag s f)=match CC (Ag s f) with|some ac=>R #[V C (9+(ac:Int)),A true]|none=>R #[V C 0,A false]):=rfl;clear ai ae;show Adg _ _ #[J (some ⟨w,0,none⟩)] _ _;cases hk:CC (Ag s f) with
 |some ac=>
  have ag:=hid (Wv (E:=pE s b) hk);have z:=hid (Wo hk);rw[hk]at H;have t:Hid (∀a,EF w g a->PS a w v s (AC s f) m d->Adg Acs 210 #[J (some ⟨w,0,none⟩),V C (9+(ac:Int))] a λe k=>Bj (AY s (pE s b) f) w g o (XV (b+2) s w v m d g) e k):=by
   intro a i r;rw[ag.out];exact(ZM ac O a _ (L.out.ef i) r U).mono λ_ _ c=>c.dw i
  clear hk ag;go_enter Tryz.func194,Tryz.ntmps194;go_wp2_with (first
   |(go_at_call 57;refine M.out.mono ?_;rintro e a ⟨rfl,j⟩;have h:=hid j;clear j)
   |(go_at_call 209;refine(EY _ _).mono ?_;rintro e k ⟨rfl,rfl⟩;rw[H.out])
   |(go_at_call 58;refine(Bv (N.out.below h.out) I).mono ?_;rintro e ad ⟨rfl,l,p⟩;have y:=hid ((EF.cI (E:=w) h.out).trans l);have B:=hid (p z.out);clear l p)
   |(go_at_call 210;refine(t.out _ y.out B.out).mono ?_;intro e ab c;have u:=hid c;obtain⟨Y,aa,rfl⟩:=c.two;clear c))
  go_ret2
  exact u.out
 |none=>
  have x:=hid (Wb (E:=pE s b) hk);rw[hk]at H;clear hk;by_cases i:Ag s f=G3
  ·have z:Hid (Ag s f≠⟨#[]⟩):=by show _≠_;rw[i];decide
   have ak:=FC Qd i;have ah:((Ag s f).toList==[108,101,116,114,101,99])=false:=by rw[i,Qd];decide
   have t:Hid (∀a,EF w g a->PS a w v s (AC s f) m d->Adg Acs 211 #[J (some ⟨w,0,none⟩),A false] a λe k=>Bj (AY s (pE s b) f) w g o (XV (b+2) s w v m d g) e k):=by
    intro a q G;rw[x.out,if_pos i];exact(U7 false O aj a _ (L.out.ef q) G U).mono λ_ _ c=>c.dw q
   clear i x;go_enter Tryz.func194,Tryz.ntmps194;go_wp2_with (first
    |(go_at_call 57;refine M.out.mono ?_;rintro e a ⟨rfl,j⟩;have h:=hid j;clear j)
    |(go_at_call 209;refine(EY _ _).mono ?_;rintro e k ⟨rfl,rfl⟩;rw[H.out])
    |(go_at_call 58;refine(Bv (N.out.below h.out) I).mono ?_;rintro e ad ⟨rfl,l,p⟩;have y:=hid ((EF.cI (E:=w) h.out).trans l);have B:=hid (p z.out);clear l p)
    |(go_at_call 211;refine(t.out _ y.out B.out).mono ?_;intro e ab c;have u:=hid c;obtain⟨Y,aa,rfl⟩:=c.two;clear c))
   go_ret2
   exact u.out
  ·have ak:=Fz Qd i;by_cases r:Ag s f=BZ
   ·have z:Hid (Ag s f≠⟨#[]⟩):=by show _≠_;rw[r];decide
    have ah:=FC LK r;have t:Hid (∀a,EF w g a->PS a w v s (AC s f) m d->Adg Acs 211 #[J (some ⟨w,0,none⟩),A true] a λe k=>Bj (AY s (pE s b) f) w g o (XV (b+2) s w v m d g) e k):=by
     intro a q G;rw[x.out,if_neg i,if_pos r];exact(U7 true O aj a _ (L.out.ef q) G U).mono λ_ _ c=>c.dw q
    clear i r x;go_enter Tryz.func194,Tryz.ntmps194;go_wp2_with (first
     |(go_at_call 57;refine M.out.mono ?_;rintro e a ⟨rfl,j⟩;have h:=hid j;clear j)
     |(go_at_call 209;refine(EY _ _).mono ?_;rintro e k ⟨rfl,rfl⟩;rw[H.out])
     |(go_at_call 58;refine(Bv (N.out.below h.out) I).mono ?_;rintro e ad ⟨rfl,l,p⟩;have y:=hid ((EF.cI (E:=w) h.out).trans l);have B:=hid (p z.out);clear l p)
     |(go_at_call 211;refine(t.out _ y.out B.out).mono ?_;intro e ab c;have u:=hid c;obtain⟨Y,aa,rfl⟩:=c.two;clear c))
    go_ret2
    exact u.out
   ·have ah:=Fz LK r;by_cases D:Ag s f=KG
    ·have z:Hid (Ag s f≠⟨#[]⟩):=by show _≠_;rw[D];decide
     have al:=FC Vc D;have t:Hid (∀a,EF w g a->PS a w v s (AC s f) m d->Adg Acs 212 #[J (some ⟨w,0,none⟩)] a λe k=>Bj (AY s (pE s b) f) w g o (XV (b+2) s w v m d g) e k):=by
      intro a q G;rw[x.out,if_neg i,if_neg r,if_pos D];exact(Zo af O a _ (L.out.ef q) G U).mono λ_ _ c=>c.dw q
     clear i r D x;go_enter Tryz.func194,Tryz.ntmps194;go_wp2_with (first
      |(go_at_call 57;refine M.out.mono ?_;rintro e a ⟨rfl,j⟩;have h:=hid j;clear j)
      |(go_at_call 209;refine(EY _ _).mono ?_;rintro e k ⟨rfl,rfl⟩;rw[H.out])
      |(go_at_call 58;refine(Bv (N.out.below h.out) I).mono ?_;rintro e ad ⟨rfl,l,p⟩;have y:=hid ((EF.cI (E:=w) h.out).trans l);have B:=hid (p z.out);clear l p)
      |(go_at_call 212;refine(t.out _ y.out B.out).mono ?_;intro e ab c;have u:=hid c;obtain⟨Y,aa,rfl⟩:=c.two;clear c))
     go_ret2
     exact u.out
    ·have al:=Fz Vc D;by_cases K:Ag s f=He
     ·have z:Hid (Ag s f≠⟨#[]⟩):=by show _≠_;rw[K];decide
      have am:=FC QV K;have t:Hid (∀a,EF w g a->PS a w v s (AC s f) m d->Adg Acs 213 #[J (some ⟨w,0,none⟩)] a λe k=>Bj (AY s (pE s b) f) w g o (XV (b+2) s w v m d g) e k):=by
       intro a q G;rw[x.out,if_neg i,if_neg r,if_neg D,if_pos K];exact(Xx af O a _ (L.out.ef q) G U).mono λ_ _ c=>c.dw q
      clear i r D K x;go_enter Tryz.func194,Tryz.ntmps194;go_wp2_with (first
       |(go_at_call 57;refine M.out.mono ?_;rintro e a ⟨rfl,j⟩;have h:=hid j;clear j)
       |(go_at_call 209;refine(EY _ _).mono ?_;rintro e k ⟨rfl,rfl⟩;rw[H.out])
       |(go_at_call 58;refine(Bv (N.out.below h.out) I).mono ?_;rintro e ad ⟨rfl,l,p⟩;have y:=hid ((EF.cI (E:=w) h.out).trans l);have B:=hid (p z.out);clear l p)
       |(go_at_call 213;refine(t.out _ y.out B.out).mono ?_;intro e ab c;have u:=hid c;obtain⟨Y,aa,rfl⟩:=c.two;clear c))
      go_ret2
      exact u.out
     ·have am:=Fz QV K;have t:Hid (∀a,EF w g a->PS a w v s f m d->Adg Acs 214 #[J (some ⟨w,0,none⟩)] a λe k=>Bj (AY s (pE s b) f) w g o (XV (b+2) s w v m d g) e k):=by
       intro a q G;rw[x.out,if_neg i,if_neg r,if_neg D,if_neg K];exact(Xv af O a _ (L.out.ef q) G I).mono λ_ _ c=>c.dw q
      clear i r D K x;go_enter Tryz.func194,Tryz.ntmps194;go_wp2_with (first
       |(go_at_call 57;refine M.out.mono ?_;rintro e a ⟨rfl,j⟩;have h:=hid j;clear j)
       |(go_at_call 209;refine(EY _ _).mono ?_;rintro e k ⟨rfl,rfl⟩;rw[H.out])
       |(go_at_call 214;refine(t.out _ (EF.cI h.out) (N.out.below h.out)).mono ?_;intro e ab c;have u:=hid c;obtain⟨Y,aa,rfl⟩:=c.two;clear c))
      go_ret2
      exact u.out
theorem Ot{e:Q}{f g:Nat}{h:Nat->Addr}{d:ByteArray}{i:X}(c:d.size<=2000)(j:∀b a,C6 e f g h d i b a->RQ e f g h d i b a):∀b a,a+b=30->C6 e f g h d i b a
 |0,a,hn=>by
  obtain rfl:a=30:=by omega
  exact QU c L9
 |b+1,a,hn=>by
  have k:=Ot c j b (a+1) (by omega);exact QU c (MF (by omega) (S8 c k (j b (a+1) k)))
def TY(e:Region.Mode)(f:Array Oper)(d:List Nat)(c:Nat):Bool:=(Aev c).all λa=>d.contains a||(Aev (c+1)).any λb=>decide (a<b) && Region.waitsFor e f b a
theorem NX(y:TY w3 wc t w=true)(s:Region.chainB w3 wc w=true)(M:w<wc.size)(l:HeadInv w3 wc w nz)(K:∀c∈t,nz.getD c true=true):
 ∀f c,w<=c+f->c<w->nz.getD c true=false->∀a,w<=a->a∉Aek w3 wc nz:=by
 have L:∀a,w<a->a∉Aek w3 wc nz:=by
  intro a z e;obtain⟨-,q,k,n⟩:=mem_ready.1 e;have B:=(Aeq.1 k).1;have b:=Acq.1 s a (Afh.2 B);simp[Bool.or_eq_true,decide_eq_true_eq]at b;rcases b with b|b
  ·omega
  ·let ⟨D,v,g,j,i,p⟩:=Region.waitsFor_spec b
   obtain rfl:D=q:=Aba (v.symm.trans k);have h:=n g j i;rw[p,getD_both (l.tail (a-1) (by omega) (by omega))]at h;cases h
 intro f;induction f with
 |zero=>omega
 |succ f ih=>
  intro c I u N a z e;rcases Abo w a with r|r
  ·grind
  obtain rfl:a=w:=by omega
  obtain⟨-,q,k,n⟩:=mem_ready.1 e;have b:=Acq.1 y c (Afh.2 u);rw[Bool.or_eq_true]at b;rcases b with b|b
  ·grind
  let ⟨d,G,o⟩:=List.any_eq_true.1 b
  simp[decide_eq_true_eq]at o;let ⟨E,x,g,j,i,p⟩:=Region.waitsFor_spec o.2
  have H:d<=a:=by grind
  rcases Abo d a with m|m
  ·cases hx:nz.getD d false with
   |true=>
    have h:=l.closed d E x hx g j i;grind
   |false=>exact ih d (by omega) m (getD_in (by rw[l.size];omega) hx) a .refl e
  grind
theorem On(G:w+(v+1)=wc.size)(m:FM w3 wc=true)(L:TY w3 wc t w=true)(p:Region.chainB w3 wc w=true):∀e a d f,HeadInv w3 wc w a->(∀b∈t,a.getD b true=true)->
 wpAnyH wp w3 wc (HP wp wc w6 w (v+1)) vo e (A7 a w (v+1)) d f->wpAny wp w3 wc w6 (e+(v+1)) a d f:=by
 have u:∀e a d f,HeadInv w3 wc w a->(∀b,b<w->a.getD b true=true)->HP wp wc w6 w (v+1) .normal d f->wpAny wp w3 wc w6 (e+(v+1)) a d f:=
  λe a d f c g y=>N3 m (v+1) w a d f G p c.size g c.tail y _ (by omega)
 have I:∀a,HeadInv w3 wc w a->(∀b,b<w->a.getD b true=true)->Aek w3 wc (A7 a w (v+1))=[]:=by
  intro a c g;cases hr:Aek w3 wc (A7 a w (v+1)) with
  |nil=>rfl
  |cons i t=>
   have o:i∈Aek w3 wc (A7 a w (v+1)):=by rw[hr];simp
   obtain⟨k,aa,K,-⟩:=mem_ready.1 o;have Y:=(Aeq.1 K).1;by_cases r:i<w
   ·rw[Dt _ _ _ _ _ r,g i r]at k;cases k
   ·rw[GO _ _ _ _ _ (by omega) (by omega) (by rw[c.size];omega)]at k;cases k
 have M:∀a,HeadInv w3 wc w a->Aek w3 wc a≠[]:=λa c=>C1 m c.size w (by omega) (c.tail w .refl (by omega));intro e;induction e with
 |zero=>
  intro a d f c _ j;refine u 0 a d f c (λb h=>?_) j.2;cases hx:a.getD b true with
  |true=>rfl
  |false=>exact absurd j.1 (C1 m (by rw[Ec];exact c.size) b (by omega) (by rw[Dt _ _ _ _ _ h];exact hx))
 |succ e ih=>
  intro a d f c s j;by_cases g:∀b,b<w->a.getD b true=true
  ·exact u (e+1) a d f c g (j.1 (I a c g))
  ·have H:∃b,b<w/\a.getD b true=false:=by
    apply Classical.byContradiction;intro D;apply g;intro b h;cases hx:a.getD b true with
    |true=>rfl
    |false=>exact absurd ⟨b,h,hx⟩ D
   let ⟨O,E,N⟩:=H
   rw[show e+1+(v+1)=(e+(v+1))+1 by omega];refine⟨λB=>absurd B (M a c),λb h=>?_⟩;have n:b<w:=by
    rcases Abo b w with l|l
    ·exact l
    ·exact absurd h (NX L p (by omega) c s w O (by omega) E N b l)
   refine Ku (wpOp_mono (λx U z=>?_) (j.2 b (GB n h)));refine ih _ x U (c.set h n) (λi o=>?_) ?_
   ·by_cases q:b=i
    ·subst q;rw[Ad2,Abc (by rw[c.size];omega)];rfl
    ·rw[getD_set_ne true q];exact s i o
   ·rw[<-Fo _ _ _ _ n];exact z.2
theorem Mt{c:Program}{Q:Exit->Act->World->Prop}{S:World->Prop}{u:Nat}{w:World}(a d b e:Nat){f:Oper}{v:X}(p:c.follows .mixedOrders=true)(q:a+(d+1)=wc.size)(o:b<a)(l:FM .any wc=true)(s:TY .any wc [b] a=true)(k:Region.chainB .any wc a=true)(n:wc[b]?=some f)(D:f.dst=some e)(r:Region.noSelect wc=true)(m:Region.free .any wc (Array.replicate wc.size false) b=true)(h:(Aek .any wc (Array.replicate wc.size false)).contains b=true)(B:∀g wj w,Q (.panic g) (wj.put (some e) v) w->Q (.panic g) wj w)(t:Yields c wc f v wj)(j:S w.drew)(i:S w.drew->wpAnyH c .any wc (HP c wc Q a (d+1)) S (a-1) (A7 ((Array.replicate wc.size false).setIfInBounds b true) a (d+1)) (wj.put (some e) v) w.drew):(Code.region u wc true).wp c Q wj w:=by
 refine wp_region_any p ?_;have y:=On q l s k (a-1) ((Array.replicate wc.size false).setIfInBounds b true) (wj.put (some e) v) w.drew ((N5 a).set (by simpa using h) o) (λG E=>by
  simp_all) (i j)
 have x:wc.size=(a-1+(d+1))+1:=by omega
 have z:=wpAny_take (Q:=Q) (fuel:=a-1+(d+1)) (w:=w.drew) n r m h (by grind) t (by grind);simp_all
theorem DO{a:Program}(e:wc[w]?=some w4)(d:w4.guard=none)(c:w4.dst=some v)(f:(execOp wj.eval w4).run a n=.ok (.value m) p)(b:vv (wj.put (some v) m) p):wpOp a wc w6 w vv wj n:=by
 unfold wpOp;simp[e];rw[if_pos (by simp[Region.wanted,d])];refine .inl ?_;unfold Oper.wp;rw[f];show vv (wj.put w4.dst m) p;rw[c];exact b
def H0(a:Nat):X:=W (some ⟨a,0,none⟩) 1 1
theorem TD{i1 j1 i2 j2 x1 y1 x2 y2:Nat}(af:wc[i1]?=some w4)(am:wc[j1]?=some xp)(D:wc[i2]?=some xq)(aB:wc[j2]?=some xr)(ad:w4.guard=none)(ae:xp.guard=none)(B:xq.guard=none)(ax:xr.guard=none)(ab:w4.dst=some x1)(ac:xp.dst=some y1)(z:xq.dst=some x2)(ar:xr.dst=some y2){j:Array Bool}(aD:Aek w3 wc j=[i1,i2])(aE:Aek w3 wc (j.setIfInBounds i1 true)=[j1,i2])(aK:Aek w3 wc (j.setIfInBounds i2 true)=[i1])(aG:Aek w3 wc ((j.setIfInBounds i1 true).setIfInBounds j1 true)=[i2])(aI:Aek w3 wc ((j.setIfInBounds i1 true).setIfInBounds i2 true)=[j1])(aL:Aek w3 wc ((j.setIfInBounds i2 true).setIfInBounds i1 true)=[j1])(aH:Aek w3 wc (((j.setIfInBounds i1 true).setIfInBounds j1 true).setIfInBounds i2 true)=[j2])(aJ:Aek w3 wc (((j.setIfInBounds i1 true).setIfInBounds i2 true).setIfInBounds j1 true)=[j2])(aM:Aek w3 wc (((j.setIfInBounds i2 true).setIfInBounds i1 true).setIfInBounds j1 true)=[j2])(au:Aek w3 wc ((((j.setIfInBounds i1 true).setIfInBounds j1 true).setIfInBounds i2 true).setIfInBounds j2 true)=[])(av:Aek w3 wc ((((j.setIfInBounds i1 true).setIfInBounds i2 true).setIfInBounds j1 true).setIfInBounds j2 true)=[])(aw:Aek w3 wc ((((j.setIfInBounds i2 true).setIfInBounds i1 true).setIfInBounds j1 true).setIfInBounds j2 true)=[]){c:Act}{w0:Q}(U:x1<c.tmps.size)(al:y1<c.tmps.size)(Y:x2<c.tmps.size)(a9:y2<c.tmps.size)(ak:[x1,y1,x2,y2].Nodup){c1 c2:Obj}{M:X->Q->Prop}{F:X->X->Q->Prop}(ah:∀b a,Bh [x1,y1,x2,y2] c b->(execOp b.eval w4).run wp a=.ok (.value (H0 a.heap.size)) (a.alloc c1))(E:∀b a,Bh [x1,y1,x2,y2] c b->(execOp b.eval xq).run wp a=.ok (.value (H0 a.heap.size)) (a.alloc c2))(ag:∀b a h,Bh [x1,y1,x2,y2] c b->b.eval (.tmp x1)=H0 h->Below w0.heap.size w0 a->a.heap[h]?=some c1->∃f g,(execOp b.eval xp).run wp a=.ok (.value f) g/\M f g/\a.heap.size<=g.heap.size/\∀x,w0.heap.size<=x->x<a.heap.size->g.heap[x]?=a.heap[x]?)(ay:∀b k a i h,Bh [x1,y1,x2,y2] c b->M i k->Below k.heap.size k a->b.eval (.tmp x2)=H0 h->a.heap[h]?=some c2->∃f g,(execOp b.eval xr).run wp a=.ok (.value f) g/\F i f g)(w:∀a,Below w0.heap.size w0 a->vo a)(G:∀i k a,M i k->Below k.heap.size k a->vo a)(az:∀i y a,F i y a->vo a)(a2:∀b a i y,Bh [x1,y1,x2,y2] c b->b.eval (.tmp y1)=i->b.eval (.tmp y2)=y->F i y a->w6 .normal b a)(fuel:Nat):wpAnyH wp w3 wc w6 vo (fuel+4) j c w0:=by
 have l:∀{a:Q} (aq:Obj),Below w0.heap.size w0 a->Below w0.heap.size w0 (a.alloc aq):=λaq v=>v.alloc v.size _;simp only[Ahd,Ady,Aaz,or_false,not_or]at ak;obtain⟨⟨aN,ao,aO⟩,⟨ap,aC⟩,aP,-,-⟩:=ak;have n:∀{b:Act} {d:Nat} (f:X),d∈[x1,y1,x2,y2]->Bh [x1,y1,x2,y2] c b->Bh [x1,y1,x2,y2] c (b.put (some d) f):=λf a1 v=>v.put a1 f;have an:∀(r:Nat) o (b:Act) k a (i:X) (h:Nat),Aek w3 wc o=[j2]->Aek w3 wc (o.setIfInBounds j2 true)=[]->Bh [x1,y1,x2,y2] c b->b.eval (.tmp y1)=i->M i k->Below k.heap.size k a->b.eval (.tmp x2)=H0 h->a.heap[h]?=some c2->wpAnyH wp w3 wc w6 vo (r+1) o b a:=by
  intro r o b k a i h N K e a7 p H O I;refine wpAnyH_all N (by simp) λs m=>?_;obtain rfl:s=j2:=by simpa using m
  let ⟨f,g,u,ai⟩:=ay b k a i h e p H O I
  refine DO aB ax ar u ⟨az _ _ _ ai,wpAnyH_done K ?_ r⟩;refine a2 _ _ i f (n _ (by simp) e) ?_ ?_ ai
  ·rw[CX (Aa7 aC)];exact a7
  ·exact A4 (by rw[e.size];exact a9) f
 have aa:∀(r:Nat) o (b:Act) (a:Q) (h q:Nat),Aek w3 wc o=[j1]->Aek w3 wc (o.setIfInBounds j1 true)=[j2]->Aek w3 wc ((o.setIfInBounds j1 true).setIfInBounds j2 true)=[]->Bh [x1,y1,x2,y2] c b->Below w0.heap.size w0 a->b.eval (.tmp x1)=H0 h->a.heap[h]?=some c1->b.eval (.tmp x2)=H0 q->a.heap[q]?=some c2->w0.heap.size<=q->q<a.heap.size->wpAnyH wp w3 wc w6 vo (r+2) o b a:=by
  intro r o b a h q N a5 K e H O I a8 a0 a3 a4;refine wpAnyH_all N (by simp) λs m=>?_;obtain rfl:s=j1:=by simpa using m
  let ⟨f,g,u,p,a6,aj⟩:=ag b a h e O H I
  refine DO am ae ac u ⟨G _ _ _ p (Acv _ _),?_⟩;refine an r _ _ g g f q a5 K (n _ (by simp) e) (A4 (by rw[e.size];exact al) f) p (Acv _ _) ?_ ?_
  ·rw[CX ap];exact a8
  ·rw[aj q a3 a4];exact a0
 refine wpAnyH_all aD (by simp) λs m=>?_;have L:s=i1\/s=i2:=by simpa using m
 rcases L with rfl|rfl
 ·refine DO af ad ab (ah _ _ (Bh.refl _ _)) ⟨w _ (l _ (Acv _ _)),?_⟩;refine wpAnyH_all aE (by simp) λt m=>?_;have L:t=j1\/t=i2:=by simpa using m
  rcases L with rfl|rfl
  ·let ⟨f,g,u,p,a6,aj⟩:=ag (c.put (some x1) (H0 w0.heap.size)) (w0.alloc c1) w0.heap.size (n _ (by simp) (Bh.refl _ _)) (A4 U _) (l _ (Acv _ _)) (Adp w0 c1)
   refine DO am ae ac u ⟨G _ _ _ p (Acv _ _),?_⟩;refine wpAnyH_all aG (by simp) λt m=>?_;obtain rfl:t=i2:=by simpa using m
   have e:=n f (d:=y1) (by simp) (n (H0 w0.heap.size) (d:=x1) (by simp) (Bh.refl [x1,y1,x2,y2] c));refine DO D B z (E _ _ e) ⟨G _ _ _ p bA,?_⟩;refine an fuel _ _ g (g.alloc c2) f g.heap.size aH au (n _ (by simp) e) ?_ p bA (A4 (by rw[e.size];exact Y) _) (Adp g c2);rw[CX (Aa7 ap)];exact A4 (by show y1<(c.tmps.setIfInBounds _ _).size;rw[Afe];exact al) f
  ·have e:=n (H0 w0.heap.size) (d:=x1) (by simp) (Bh.refl [x1,y1,x2,y2] c);refine DO D B z (E _ _ e) ⟨w _ (l _ (l _ (Acv _ _))),?_⟩;refine aa (fuel) _ _ ((w0.alloc c1).alloc c2) w0.heap.size (w0.alloc c1).heap.size aI aJ av (n _ (by simp) e) (l _ (l _ (Acv _ _))) ?_ ?_ (A4 (by rw[e.size];exact Y) _) (Adp _ c2) (by simp) (by simp)
   ·rw[CX (Aa7 ao)];exact A4 U _
   ·rw[Ad3 _ _ (by simp)];exact Adp w0 c1
 ·refine DO D B z (E _ _ (Bh.refl _ _)) ⟨w _ (l _ (Acv _ _)),?_⟩;refine wpAnyH_all aK (by simp) λt m=>?_;obtain rfl:t=i1:=by simpa using m
  have e:=n (H0 w0.heap.size) (d:=x2) (by simp) (Bh.refl [x1,y1,x2,y2] c);refine DO af ad ab (ah _ _ e) ⟨w _ (l _ (l _ (Acv _ _))),?_⟩;refine aa (fuel) _ _ ((w0.alloc c2).alloc c1) (w0.alloc c2).heap.size w0.heap.size aL aM aw (n _ (by simp) e) (l _ (l _ (Acv _ _))) (A4 (by rw[e.size];exact U) _) (Adp _ c1) ?_ ?_ .refl (by simp;omega)
  ·rw[CX ao];exact A4 Y _
  ·rw[Ad3 _ _ (by simp)];exact Adp w0 c2
theorem Aah(a:wpOp wp wc w6 w (wpOp wp wc w6 (w+1) (wpOp wp wc w6 (w+2) (wpOp wp wc w6 (w+3) (wpOp wp wc w6 (w+4) (wpOp wp wc w6 (w+5) (w6 .normal)))))) wj n):HP wp wc w6 w (5+1) .normal wj n:=by
 show wpOps wp wc w6 [w,w+1,w+1+1,w+1+1+1,w+1+1+1+1,w+1+1+1+1+1] wj n;refine wpOp_mono (λwj n a=>?_) a;refine wpOp_mono (λwj n a=>?_) a;refine wpOp_mono (λwj n a=>?_) a;refine wpOp_mono (λwj n a=>?_) a;refine wpOp_mono (λwj n a=>?_) a;exact wpOp_mono (λwj n a=>a) a
def Xd(e f:Nat)(j:Q)(d:Nat)(g:X)(c:Av)(k:ByteArray×Nat)(h:X)(i:Q):Prop:=∃b a,h=W (some ⟨b,0,none⟩) (c.length+1) a/\RY e f j i d g c k b a
def Xp(a:Nat)(c:ByteArray×Nat)(b:Q):Prop:=b.cell? ⟨a,0,none⟩=some (S c.1)/\b.cell? ⟨a,1,none⟩=some (V C (c.2:Int))
theorem Xp.cK(b:Xp w nh n)(a:p.heap[w]?=n.heap[w]?):Xp w nh p:=
 ⟨by rw[Ac1 a];exact b.1,by rw[Ac1 a];exact b.2⟩
def LRd(b c:Nat)(e d:X)(f:ByteArray×Nat)(a:Q):Prop:=a.cell? ⟨b,1,none⟩=some e/\a.cell? ⟨b,2,none⟩=some d/\Xp c f a
def Ww(h i:Nat)(q:ByteArray)(l:X)(m j:Nat)(s:Q)(a:Nat)(c:Bool)(n:Av)(t:List PT)(p g:Nat)(o k:X)(f:ByteArray×Nat)(r:PT)(d e:X)(b:Q):Prop:=
 Bm h i q l m j s ((b.setCell ⟨a,1,none⟩ d).setCell ⟨a,2,none⟩ e) a c (n++[f]) (t++[r]) p d e/\V4 b a (A c) o k .nilIface/\Xp g f b
theorem Bm.s1{g:Nat}(a:Bm w g s m b d n p x w2 l wu K q j)(k:w<n.heap.size)(i:EF w p h)(c:Xp wi nh h)(e:Below h.heap.size h w0):LRd x wi q j nh w0:=by
 have f:=(a.v.ef i (by have:=a.hL;omega)).cJ e;exact⟨f.c1,f.c2,c.cK (e.block wi (Adt c.1))⟩
theorem Bm.s2{o:Q}(c:Bm w v s m b d o p x w2 l wu K q j)(u:w<o.heap.size)(t:EF w p h)(e:Xp wi nh h)(B:p.heap.size<=wi)(a:Xd w v h x q l nh f w0)(g:Below w0.heap.size w0 vm):LRd x wi q j nh vm:=by
 obtain⟨z,y,rfl,a⟩:=a;have k:=(c.v4 u t a).cJ g;refine⟨k.c1,k.c2,e.cK ?_⟩;have i:=Adt e.1;rw[g.block wi (Ac2 i a.size)];exact a.block wi i λr=>by have:=(c.n.rg wi (Acw _ (Ah.2 r))).2;omega
theorem Bm.a1{t:Q}{i1 i2:Operand}(a:Bm w v s m b d t p x w2 l wu K q j)(ag:s.size<=2000)(G:w<t.heap.size)(f:EF w p h)(Y:w4.op=.call {callee:=.builtin .append,args:=#[i1,i2],argTypes:=#[100,100]})(z:sh i1=q)(B:sh i2=H0 wi)(i:Below h.heap.size h w0)(I:w0.heap[wi]?=some (.cells #[S nh.1,V C (nh.2:Int)] 115)):
 ∃r e,(execOp sh w4).run Acs w0=.ok (.value r) e/\Xd w v h x q l nh r e/\w0.heap.size<=e.heap.size/\∀c,h.heap.size<=c->c<w0.heap.size->e.heap[c]?=w0.heap[c]?:=by
 let ⟨ac,U,k⟩:=Adb.1 Tryz.dS
 simp at k;let ⟨M,N,O⟩:=k
 have af:l.length<=2000:=by have:=a.len;have:=a.hq;rw[a.same];omega
 obtain⟨D,u,e,ab,aa,g,H,L⟩:=run_append_lies w0 100 w4.type 0 115 ac _ 2 24 Tryz.underlying100 U M N O rfl (by omega) q l.length (l.flatMap wC) (((a.n.ef II f (by have:=a.hL;omega)).cJ II i).own) ⟨wi,0,none⟩ 1 1 [S nh.1,V C nh.2] rfl (by
  have:=Adu I;grind) (by intro ah o;simp at o;rcases o with rfl|rfl<;>rfl) .refl (by unfold Aed;omega) (by omega) (Ac0 _) _ rfl
 refine⟨_,e,BG _ _ _ Y z B ab,⟨D,u,rfl,a.first G f i g H L aa⟩,g.size,λc ad E=>g.block c E λy=>?_⟩;have ae:=(a.n.rg c (Acw _ (Ah.2 y.symm))).2;have:=f.size;omega
theorem Bm.a2{r:Bool}{i1 i2:Operand}(a:Bm w v s m b d n p x r l wu K q j)(ar:s.size<=2000)(g:w<n.heap.size)(O:v<n.heap.size)(e:EF w p h)(H:Xp vd nh h)(I:p.heap.size<=vd)(L:PS h w v s w5 m b)(ae:K+1<=w5/\w5<=s.size)(ag:PX (d+1) h (Z M f,N,t))(ab:CT p.heap.size h t)(ac:w4.op=.call {callee:=.builtin .append,args:=#[i1,i2],argTypes:=#[231,231]})(E:sh i1=j)(G:sh i2=H0 wi)(c:Xd w v h x q l nh wv w0)(i:Below w0.heap.size w0 vm)(Y:vm.heap[wi]?=some (.cells #[Z M f] 117)):
 ∃B k,(execOp sh w4).run Acs vm=.ok (.value B) k/\Ww w v s m b d n x r l wu w5 vd q j nh (Z M f,N,t) wv B k:=by
 let ⟨al,ak,z⟩:=Adb.1 Tryz.ee
 simp at z;let ⟨ah,ai,aj⟩:=z
 have u:=a.s2 g e H I c i;obtain⟨ap,am,rfl,c⟩:=c;have aq:wu.length<=2000:=by have:=a.len;omega
 obtain⟨ao,an,k,af,ad,o,U,aa⟩:=run_append_lies vm 231 w4.type 0 117 al _ 1 16 Tryz.underlying231 ak ah ai aj rfl .refl j wu.length (wu.flatMap S0) (((a.fI g e c).cJ (Ch _) i).own) ⟨wi,0,none⟩ 1 1 [Z M f] rfl (by
  have:=Adu Y;grind) (by intro au y;simp at y;subst y;rfl) .refl (by unfold Aed;omega) (by omega) (Ac0 _) _ rfl
 refine⟨_,k,BG _ _ _ ac E G af,a.fm g O e c i L ae ag ab o U aa ad,a.v5 g e c i o,?_⟩;refine u.2.2.cK (o.block vd (Adt u.2.2.1) λD=>?_);have:=(a.e.rg vd (Acw _ (Ah.2 D.symm))).2;omega
theorem Ww.s3{t:PT}(a:Ww w v s m b d n x w2 l wu K wi q j nh t f wv p):LRd x wi q j nh p:=⟨a.2.1.c1,a.2.1.c2,a.2.2⟩
theorem Zv:IB s (Cq s y) 1:=by
 intro d b i h c;let ⟨f,e,a,g⟩:=Ac c
 have:=BH d b f e a;grind
theorem Sb(h:v<=s.size)(e:Al s Ax v=.ok ((),b))(f:Cq s y b=.ok (nh,d))(g:pE s w d=.ok (N,x)):v+1<=x/\x<=s.size:=by
 have a:=Aj (by decide) v h () b e;have c:=Zv b a.2 nh d f;have i:=Dq s w d c.2 N x g;omega
theorem GY(a:Below w n p):Below w n p.drew:=⟨a.os,a.tape,a.output,a.size,a.block⟩
theorem Bm.next{f:Nat}{k wr:Q}(a:Bm w f s m b d k wr x w2 l wu K q j)(g:w<x+1)(c:EF w wr h)(o:PS h w f s wi m b)(i:K<=wi/\wi<=s.size)(p:x≠w:=by omega):Bm w f s m b d k h x w2 l wu wi q j:=
 ⟨i.2,o,a.v.ef c p,a.n.ef II c g,a.e.ef (Ch _) c g,a.nd,a.ef.trans c,a.hL,Ac5 a.len i.1,a.same⟩
theorem W8{aO:Q}{t af:Nat}{a4:Nat->Addr}{d aw:Nat}(aq:s.size<=2000)(aX:C6 aO t af a4 s m d aw){w0 w:Q}{r:Nat}{aJ:Bool}{j:Av}{aj:List PT}{K:Nat}{bD bw:X}(a6:PB aO w0 t a4)(aa:t<w0.heap.size)(b4:af<w0.heap.size)(a:Bm t af s m aw d w0 w r aJ j aj K bD bw):
 Adg Acs 225 #[J (some ⟨t,0,none⟩),J (some ⟨r,0,none⟩)] w λp ah=>Gu t af s m aw d a4 w0 r aJ j aj (E4 s (pE s d) j K) p ah:=by
 have bg:=a.hq;have bV:=a.len;have aC:j.length<=2000:=by rw[a.same];omega
 have an:t<r:=Ac2 aa a.hL;have av:r≠t:=Aej an;have ac:=hid a6;have f:=hid a;have U:=hid (Bx Ax (a6.ef a.ef) a.ps bg (by decide));obtain⟨aI,aH,rfl⟩:=a.n.slice;obtain⟨aW,aV,rfl⟩:=a.e.slice;obtain⟨co,bZ,bf⟩:=Adb.1 Tryz.dS;simp only[Aeb]at bf;obtain⟨bW,bX,bY⟩:=bf;obtain⟨cp,ch,bh⟩:=Adb.1 Tryz.ee;simp only[Aeb]at bh;obtain⟨cd,ce,cf⟩:=bh;clear a6 a;match h1:Al s Ax K with
 |P (c,k)=>
  have I:Hid (E4 s (pE s d) j K=P (c,k)):=by show pb _ _=_;rw[h1,AG]
  have ak:=hid h1;clear h1;go_enter Tryz.func225,Tryz.ntmps225;go_wp2_with (first
   |(go_at_call 55;refine U.out.mono ?_;rintro p aN e;obtain⟨rfl,h⟩:=e.cQ ak.out;have O:=hid h;clear e h))
  go_ret;exact⟨f.out.ef.trans O.out,by rw[I.out];rfl⟩
 |.ok ((),q1)=>
  have ak:=hid h1;match h2:Cq s (j.map (·.1)) q1 with
  |P (c,k)=>
   have I:Hid (E4 s (pE s d) j K=P (c,k)):=by show pb _ _=_;rw[h1,Ai,h2,AG]
   have au:=hid h2;clear h1 h2;go_enter Tryz.func225,Tryz.ntmps225;go_wp2_with (first
    |(go_at_call 55;refine U.out.mono ?_;rintro p aN e;obtain⟨rfl,h,ap,N⟩:=e.isOk ak.out;have O:=hid h;obtain⟨k0,bi,bj,bk,u⟩:=f.out.v.ef h av;have bl:=u 1;have bm:=u 2;clear u;have l:=hid (C0 j aq (Ac5 aC (by omega)) (ac.out.ef (f.out.ef.trans h)) N ap (Cu.nm (f.out.n.ef II h (Aa8 an))));clear e h N U)
    |(go_at_call 56;refine l.out.mono ?_;rintro p ar e;obtain⟨rfl,L⟩:=e.cQ au.out;have z:=hid (O.out.trans L);clear e L))
   go_ret;exact⟨(f.out.ef.trans z.out).trans (EF.cI bA),by rw[I.out];rfl⟩
  |.ok (x,q2)=>
   have au:=hid h2;match h3:pE s d q2 with
   |P (c,k)=>
    have I:Hid (E4 s (pE s d) j K=P (c,k)):=by show pb _ _=_;rw[h1,Ai,h2,Ai,h3,AG]
    have az:=hid h3;clear h1 h2 h3;go_enter Tryz.func225,Tryz.ntmps225;go_wp2_with (first
     |(go_at_call 55;refine U.out.mono ?_;rintro p aN e;obtain⟨rfl,h,ap,N⟩:=e.isOk ak.out;have O:=hid h;obtain⟨k0,bi,bj,bk,u⟩:=f.out.v.ef h av;have bl:=u 1;have bm:=u 2;clear u;have l:=hid (C0 j aq (Ac5 aC (by omega)) (ac.out.ef (f.out.ef.trans h)) N ap (Cu.nm (f.out.n.ef II h (Aa8 an))));clear e h N U)
     |(go_at_call 56;refine l.out.mono ?_;rintro p ar e;obtain⟨v,rfl,L,rfl,aD,ao⟩:=e.isOk au.out;have z:=hid (O.out.trans L);have a3:=hid ao;clear e L ao l)
     |(go_at_call 124;refine(aX _ q2 (ac.out.ef ((f.out.ef.trans z.out).trans (EF.cI bA))) (a3.out.below bA) aD).mono ?_;intro p ai e;obtain⟨v,rfl,Y,-⟩:=e.cQ az.out;have aP:=hid ((z.out.trans (EF.cI bA)).trans Y);clear e Y))
    go_ret;exact⟨f.out.ef.trans aP.out,by rw[I.out];rfl⟩
   |.ok (y,q3)=>
    have az:=hid h3;have b5:=Sb bg h1 h2 h3;have aQ:Hid (E4 s (pE s d) j K=pb (Al s Ae q3) λ_ ax=>.ok ((x,y),ax)):=by show pb _ _=_;rw[h1,Ai,h2,Ai,h3,Ai]
    clear h1 h2 h3;go_enter Tryz.func225,Tryz.ntmps225;go_upto_region 10 with(first
     |(go_at_call 55;refine U.out.mono ?_;rintro p aN e;obtain⟨rfl,h,ap,N⟩:=e.isOk ak.out;have O:=hid h;obtain⟨k0,bi,bj,bk,u⟩:=f.out.v.ef h av;have bl:=u 1;have bm:=u 2;clear u;have l:=hid (C0 j aq (Ac5 aC (by omega)) (ac.out.ef (f.out.ef.trans h)) N ap (Cu.nm (f.out.n.ef II h (Aa8 an))));clear e h N U)
     |(go_at_call 56;refine l.out.mono ?_;rintro p ar e;obtain⟨v,rfl,L,rfl,aD,ao⟩:=e.isOk au.out;have z:=hid (O.out.trans L);have a3:=hid ao;clear e L ao l)
     |(go_at_call 124;refine(aX _ q2 (ac.out.ef ((f.out.ef.trans z.out).trans (EF.cI bA))) (a3.out.below bA) aD).mono ?_;intro p ai e;obtain⟨v,rfl,Y,b6,ba,aS,aE,be⟩:=e.isOk az.out;obtain⟨aK,aL,rfl⟩:=aE.dd;have ad:Hid (EF t w ai):=(z.out.trans (EF.cI bA)).trans Y;obtain⟨bn,bo,b8,b9⟩:=V2.ef (w:=ar.alloc (.cells #[.string x.1,V C (x.2:Int)] 115)) (b:=ar.heap.size) (x:=Value.string x.1) (y:=Value.int C (x.2:Int)) ⟨by simp,by simp,by simp,by simp⟩ Y (Aej (Ac2 (Ac2 aa f.out.ef.size) z.out.size));obtain⟨ci,cj,ck,cl,aG⟩:=f.out.v.ef ad.out av;have cm:=aG 1;have cn:=aG 2;clear aG;have bt:=hid aE;have bp:=hid be;have br:=hid ba;have aP:=hid Y;clear e Y aE be ba))
    have bq:Hid (CT w.heap.size ai aS):=bp.out.low (Ac5 z.out.size (by simp));obtain⟨ae,aY⟩:∃ae,ar.heap.size=ae:=⟨_,rfl⟩;have aZ:w.heap.size<=ae:=by rw[<-aY];exact z.out.size
    rw[aY]at bn bo b8 b9 ⊢;have l:Hid (Xp ae x ai):=⟨bn,bo⟩;refine Mt (S:=LRd r ae (W aI j.length aH) (W aW aj.length aV) x) 16 5 1 36 (v:=J (some ⟨r,0,none⟩)) (by kernel_rfl) (by rfl) (by decide) (by kernel_rfl) (by kernel_rfl) (by kernel_rfl) rfl rfl (by kernel_rfl) (by kernel_rfl) (by kernel_rfl) (λ_ _ _ a=>a) (Ads ⟨by rfl,λw=>by go_simp<;>with_reducible rfl⟩) (f.out.s1 aa ad.out l.out (GY (Acv _ _))) (λa7=>?_);refine AQ (i:=0) (d:=35) (v:=?_) rfl rfl (by kernel_rfl) (by kernel_rfl) (by kernel_rfl) (λ_ _ _ a=>a) (Ads ⟨by rfl,?_⟩) (by assumption) ?_;rotate_left
    ·intro w g;obtain⟨B,D,E,G⟩:=g;(go_simp<;>with_reducible rfl)
    simp only[Act.put,Adn,Ad4,Adz];refine AQ (i:=2) (d:=37) (v:=?_) rfl rfl (by kernel_rfl) (by kernel_rfl) (by kernel_rfl) (λ_ _ _ a=>a) (Ads ⟨by rfl,?_⟩) (by assumption) ?_;rotate_left
    ·intro w g;obtain⟨B,D,E,G⟩:=g;(go_simp<;>with_reducible rfl)
    simp only[Act.put,Adn,Ad4,Adz];refine AQ (i:=3) (d:=38) (v:=?_) rfl rfl (by kernel_rfl) (by kernel_rfl) (by kernel_rfl) (λ_ _ _ a=>a) (Ads ⟨by rfl,?_⟩) (by assumption) ?_;rotate_left
    ·intro w g;obtain⟨B,D,E,G⟩:=g;(go_simp<;>with_reducible rfl)
    simp only[Act.put,Adn,Ad4,Adz];refine AQ (i:=4) (d:=39) (v:=?_) rfl rfl (by kernel_rfl) (by kernel_rfl) (by kernel_rfl) (λ_ _ _ a=>a) (Ads ⟨by rfl,?_⟩) (by assumption) ?_;rotate_left
    ·intro w g;obtain⟨B,D,E,G⟩:=g;(go_simp<;>with_reducible rfl)
    simp only[Act.put,Adn,Ad4,Adz];refine AQ (i:=5) (d:=40) (v:=?_) rfl rfl (by kernel_rfl) (by kernel_rfl) (by kernel_rfl) (λ_ _ _ a=>a) (Ads ⟨by rfl,?_⟩) (by assumption) ?_;rotate_left
    ·intro w g;obtain⟨B,D,E,G⟩:=g;(go_simp<;>with_reducible rfl)
    simp only[Act.put,Adn,Ad4,Adz];refine AQ (i:=6) (d:=41) (v:=?_) rfl rfl (by kernel_rfl) (by kernel_rfl) (by kernel_rfl) (λ_ _ _ a=>a) (Ads ⟨by rfl,?_⟩) (by assumption) ?_;rotate_left
    ·intro w g;obtain⟨B,D,E,G⟩:=g;(go_simp<;>with_reducible rfl)
    simp only[Act.put,Adn,Ad4,Adz];refine AQ (i:=9) (d:=44) (v:=?_) rfl rfl (by kernel_rfl) (by kernel_rfl) (by kernel_rfl) (λ_ _ _ a=>a) (Ads ⟨by rfl,?_⟩) (by assumption) ?_;rotate_left
    ·intro w g;obtain⟨B,D,E,G⟩:=g;(go_simp<;>with_reducible rfl)
    simp only[Act.put,Adn,Ad4,Adz];refine AQ (i:=10) (d:=45) (v:=?_) rfl rfl (by kernel_rfl) (by kernel_rfl) (by kernel_rfl) (λ_ _ _ a=>a) (Ads ⟨by rfl,?_⟩) (by assumption) ?_;rotate_left
    ·intro w g;obtain⟨B,D,E,G⟩:=g;(go_simp<;>with_reducible rfl)
    simp only[Act.put,Adn,Ad4,Adz];refine AQ (i:=11) (d:=46) (v:=?_) rfl rfl (by kernel_rfl) (by kernel_rfl) (by kernel_rfl) (λ_ _ _ a=>a) (Ads ⟨by rfl,?_⟩) (by assumption) ?_;rotate_left
    ·intro w g;obtain⟨B,D,E,G⟩:=g;(go_simp<;>with_reducible rfl)
    simp only[Act.put,Adn,Ad4,Adz];refine AQ (i:=12) (d:=47) (v:=?_) rfl rfl (by kernel_rfl) (by kernel_rfl) (by kernel_rfl) (λ_ _ _ a=>a) (Ads ⟨by rfl,?_⟩) (by assumption) ?_;rotate_left
    ·intro w g;obtain⟨B,D,E,G⟩:=g;(go_simp<;>with_reducible rfl)
    simp only[Act.put,Adn,Ad4,Adz];refine AQ (i:=13) (d:=48) (v:=?_) rfl rfl (by kernel_rfl) (by kernel_rfl) (by kernel_rfl) (λ_ _ _ a=>a) (Ads ⟨by rfl,?_⟩) (by assumption) ?_;rotate_left
    ·intro w g;obtain⟨B,D,E,G⟩:=g;(go_simp<;>with_reducible rfl)
    simp only[Act.put,Adn,Ad4,Adz];refine TD (i1:=7) (j1:=8) (i2:=14) (j2:=15) (x1:=42) (y1:=43) (x2:=49) (y2:=50) (w0:=ai.drew) (fuel:=0) (c1:=Adi #[.string x.1,V C (x.2:Int)] 115) (c2:=Adi #[Z aK aL] 117) (M:=Xd t af ai r (W aI j.length aH) j x) (F:=Ww t af s m aw d w0 r aJ j aj q3 ae (W aI j.length aH) (W aW aj.length aV) x (Z aK aL,y,aS)) rfl rfl rfl rfl rfl rfl rfl rfl rfl rfl rfl rfl (by kernel_rfl) (by kernel_rfl) (by kernel_rfl) (by kernel_rfl) (by kernel_rfl) (by kernel_rfl) (by kernel_rfl) (by kernel_rfl) (by kernel_rfl) (by kernel_rfl) (by kernel_rfl) (by kernel_rfl) (by simp) (by simp) (by simp) (by simp) (by decide) ?_ ?_ ?_ ?_ ?_ ?_ ?_ ?_
    ·intro k w q;have bT:k.tmps[41]?.getD Aet=T #[.string x.1,V C (x.2:Int)]:=by rw[q.it 41 (by decide)];rfl
     show Sem.run Acs (execOp k.eval ⟨some 42,.buildSlice 100 1 #[(0,.tmp 41)],100,_,_,none⟩) w=_;clear q a7;go_simp;rfl
    ·intro k w q;have bU:k.tmps[48]?.getD Aet=Z aK aL:=by rw[q.it 48 (by decide)];rfl
     show Sem.run Acs (execOp k.eval ⟨some 49,.buildSlice 231 1 #[(0,.tmp 48)],231,_,_,none⟩) w=_;clear q a7;go_simp;rfl
    ·intro k ah b q aB ab a9;exact f.out.a1 (i1:=.tmp 40) (i2:=.tmp 42) aq aa ad.out rfl (by rw[q.eval (by decide)];rfl) aB ((GY (Acv _ _)).trans ab) a9
    ·intro k bG ah aM b q a8 ab aB a9;exact f.out.a2 (i1:=.tmp 47) (i2:=.tmp 49) aq aa b4 ad.out l.out aZ br.out b5 bt.out bq.out rfl (by rw[q.eval (by decide)];rfl) aB a8 ab a9
    ·intro ah ab;exact f.out.s1 aa ad.out l.out ((GY (Acv _ _)).trans ab)
    ·intro aM bG ah a8 ab;exact f.out.s2 aa ad.out l.out aZ a8 ab
    ·intro aM bE ah am;exact am.s3
    ·intro k bH aM bE q aT aU am;have ag:=Ef q;simp only[Ab2,Aho]at ag;rw[aT,aU]at ag;generalize k.eval (.tmp 42)=z42 at ag;generalize k.eval (.tmp 49)=z49 at ag;simp only[Act.put,Adn,Ad4,Adz]at ag;clear q aT aU;subst ag;clear a7;obtain⟨bP,c1,c2,bQ,a5⟩:=id am.2.1;have bR:=a5 1;have bS:=a5 2;have H:=hid am.1;clear am a5;obtain⟨bC,bB,rfl⟩:=H.out.n.slice;obtain⟨bv,bu,rfl⟩:=H.out.e.slice;refine Aah ?_;refine wpOp_step (o:=⟨some 51,.nilCheck (.tmp 35),0,_,_,none⟩) rfl (λbJ bx=>?_);go_simp;refine bx _ _ ?_;refine wpOp_step (o:=⟨some 52,.fieldAddr _ (.tmp 51) 1,0,_,_,none⟩) rfl (λbK bz=>?_);go_simp;refine bz _ _ ?_;refine wpOp_step (o:=⟨none,.store _ (.tmp 52) (.tmp 43),0,_,_,none⟩) rfl (λbL b0=>?_);go_simp;refine b0 _ _ ?_;refine wpOp_step (o:=⟨some 53,.nilCheck (.tmp 36),0,_,_,none⟩) rfl (λbM b1=>?_);go_simp;refine b1 _ _ ?_;refine wpOp_step (o:=⟨some 54,.fieldAddr _ (.tmp 53) 2,0,_,_,none⟩) rfl (λbN b2=>?_);go_simp;refine b2 _ _ ?_;refine wpOp_step (o:=⟨none,.store _ (.tmp 54) (.tmp 50),0,_,_,none⟩) rfl (λbO b3=>?_);go_simp;refine b3 _ _ ?_;simp only[Adk,Aea,Ae5]at H;generalize (bH.setCell ⟨r,1,none⟩ (W bC (j.length+1) bB)).setCell ⟨r,2,none⟩ (W bv (aj.length+1) bu)=w6 at H ⊢;have aR:=hid (Bx Ae (ac.out.ef H.out.ef) H.out.ps H.out.hq (by decide));match h4:Al s Ae q3 with
     |P (c,k)=>
      have I:Hid (E4 s (pE s d) j K=P (c,k)):=by show _=_;rw[aQ.out,h4,AG]
      have a0:=hid h4;clear h4;go_wp2_with (first
       |(go_at_call 55;refine aR.out.mono ?_;rintro p bI e;obtain⟨rfl,al⟩:=e.cQ a0.out;have ay:=hid al;clear e al))
      go_ret;exact⟨H.out.ef.trans ay.out,by rw[I.out];rfl⟩
     |.ok ((),ax)=>
      have I:Hid (E4 s (pE s d) j K=.ok ((x,y),ax)):=by show _=_;rw[aQ.out,h4,Ai]
      have b7:=Aj (by decide) q3 b6 () ax h4;have a0:=hid h4;clear h4;go_wp2_with (first
       |(go_at_call 55;refine aR.out.mono ?_;rintro p bI e;obtain⟨rfl,al,ca,bb⟩:=e.isOk a0.out;have ay:=hid al;have bs:=hid bb;clear e al bb))
      go_ret;have bc:=H.out.next (Aa8 an) ay.out bs.out ⟨by omega,b7.2⟩;exact⟨bc.ef,by rw[I.out];exact⟨rfl,_,_,_,_,bc⟩⟩
theorem Uo(h:s.size<=2000)(e:C6 n w v o s m b d):RQ n w v o s m b d:=
 λ_ _ _ _ _ _ _ _ _ c f g a=>W8 h e c f g a
theorem SZ(b:s.size<=2000):∀a c,c+a=30->C6 n w v o s m a c:=Ot b λ_ _ d=>Uo b d
def NE(c:Q)(b:Nat):Prop:=∀a d,c.heap[b]?≠some (.cells a 136 d)
structure LF (c d e:Nat) (a b:Q):Prop where
 os:b.os=a.os
 tape:b.tape=a.tape
 output:b.output=a.output
 size:a.heap.size<=b.heap.size
 block:∀k,k<a.heap.size->k≠c->(k<d\/e<=k\/NE a k)->b.heap[k]?=a.heap[k]?
theorem LF.refl(b c d:Nat)(a:Q):LF b c d a a:=⟨rfl,rfl,rfl,Acu _,λ_ _ _ _=>rfl⟩
theorem LF.trans{e f b:Nat}{k m l:Q}(a:LF e f b k m)(d:LF e f b m l):LF e f b k l:=by
 refine⟨d.os.trans a.os,d.tape.trans a.tape,d.output.trans a.output,Ac5 a.size d.size,λj i h c=>?_⟩;have g:=a.block j i h c;rw[d.block j (Ac2 i a.size) h ?_,g];rcases c with c|c|c
 ·omega
 ·omega
 ·exact Ad7 (Ad7 λn o=>by rw[g];exact c n o)
theorem LF.cM(a:EF w n p):LF w v b n p:=⟨a.os,a.tape,a.output,a.size,λe d c _=>a.block e d c⟩
theorem LF.wide(a:LF w v b n p)(g:d<=v)(h:b<=x):LF w d x n p:=
 ⟨a.os,a.tape,a.output,a.size,λf e c i=>a.block f e c (by grind)⟩
theorem LF.row(h:LF w v b n p)(e:n.ownsRow d x K m wi wb)(q:x≠136)(o:w<d):p.ownsRow d x K m wi wb:=by
 refine Az e λf c=>?_;have i:=e.lt f (Ah.1 c);refine h.block f i.2 (by omega) (Ad7 (Ad7 λj t r=>?_));rcases e.2 with⟨rfl,-⟩|⟨g,k,l,rfl,-,s,-⟩
 ·have a:=Ah.1 c;cases a
 ·have a:=Ah.1 c;simp[Ad6]at a;grind
theorem LF.dK(g:LF w v b n p)(e:n.ownsRow 0 d x m K wb)(o:d≠136)(h:m.ownBlock≠some w):p.ownsRow 0 d x m K wb:=by
 refine Az e λf c=>?_;refine g.block f (e.lt f (Ah.1 c)).2 (λa=>h (by rw[<-a];exact Ah.1 c)) (Ad7 (Ad7 λi s q=>?_));rcases e.2 with⟨rfl,-⟩|⟨l,j,k,rfl,-,r,-⟩
 ·have a:=Ah.1 c;cases a
 ·have a:=Ah.1 c;simp[Ad6]at a;grind
theorem LF.ev{g:Q}{f:Av}(c:LF w v b n g)(a:Bc n d m q f)(e:w<d):Bc g d m q f:=⟨c.row a.l nofun e,c.row a.p nofun e,a.ne⟩
theorem LF.same(a:LF w v b n p)(g:w<d)(h:x<=v\/b<=d)(i:x<=n.heap.size):HS d x n p:=λc e f=>a.block c (by omega) (by omega) (by omega)
theorem LF.rx{e:Ex}(a:LF w v b n p)(c:RX d n x K m e)(g:w<x)(h:K<=v\/b<=x):RX d p x K m e:=by
 have f:=c.lt;have i:=a.size;exact c.same (a.same g h f.2) (by omega)
theorem LF.xn(c:LF w v b n p)(a:XN n d we w7 s nk m q j f)(g:w<d)(e:d<v):XN p d we w7 s nk m q j f:=a.cK (c.block d a.lt (by omega) (Ads e))
theorem WH{T a b:Nat}(i:X)(k:a<=w)(l:w<b)(g:∃d,n.heap[w]?=some (.cells d 136 (0,0))):LF T a b n (n.setCell ⟨w,0,none⟩ i):=by
 refine⟨rfl,rfl,rfl,by simp,λh m j c=>Ac4 _ _ _ _ (show h≠w from λe=>?_)⟩;subst e;rcases c with c|c|c
 ·omega
 ·omega
 ·let ⟨d,f⟩:=g
  exact c d (0,0) f
theorem Kids.get{i j:Type}{f:Nat->Nat->i->j->Prop}:∀{l k:Nat} {b:List (i×Nat×Nat)} {c:List j},Kids f l k b c->∀a d (g:a<c.length),f b[a].2.1 b[a].2.2 b[a].1 c[a]
 |_,_,[],_,_,a,d,_=>nofun
 |_,_,(v,x,y)::b,e::c,h,0,_,_=>h.2.2.1
 |_,_,(v,x,y)::b,e::c,h,a+1,d,g=>Kids.get h.2.2.2 a (by simpa using d) (by simpa using g)
 |_,_,_::_,[],h,_,_,_=>h.elim
theorem Kids.apart{i j:Type}{k:Nat->Nat->i->j->Prop}:∀{l g:Nat} {b:List (i×Nat×Nat)} {f:List j},Kids k l g b f->∀d a (g:d<a) (c:a<b.length),b[d].2.2<=b[a].2.1
 |_,_,[],_,_,_,a,_,c=>nofun
 |_,_,(v,x,y)::b,e::f,h,0,a+1,_,c=>by
  exact(Kids.mem h.2.2.2 (b[a]'(by simpa using c)) (Ac8 _)).1
 |_,_,(v,x,y)::b,e::f,h,d+1,a+1,g,c=>by
  have:=Kids.apart h.2.2.2 d a (by omega) (by simpa using c);simpa using this
 |_,_,_::_,[],h,_,_,_,_=>h.elim
def Rf(a:Nat)(r:ByteArray)(g:DR)(f:Dn)(v:List ((X×X×X)×Nat×Nat))(q o:Nat)(p k j:X)(c:Nat):Prop:=
 ∀(b:Q) (i n:Nat) (s:X) (d:Ex) (e:List ByteArray) (l:X) (h:Nat×Nat),RX c b i n s d->(BQ c d/\CN c d)->a<i->TX b a r q o h.1 h.2 p k j->b.ownsRow (a+1) 55 2 k g.length (Cm g)->b.ownsRow (a+1) 88 4 j f.length (Bg v f)->b.ownsRow 0 9 1 l e.length (e.map .string)->l.ownBlock≠some a->e.length+2001*c<=100000->
  Adg Acs 20 #[J (some ⟨a,0,none⟩),s,l] b λu t=>u=F (R #[])/\LF a i n b t/\TX t a r q o (FK (λm=>A3 m (Ao g f) 0) c e d h).1 (FK (λm=>A3 m (Ao g f) 0) c e d h).2 p k j
theorem Hs(a:n.ownsRow 0 9 1 m y.length (y.map .string)):FB n m y:=FB.cS a
theorem OW(E:XN n v nk w7 s we m q j f)(r:n.ownsRow (v+1) b x j 0 wb)(k:n.ownsRow (v+1) d K f 0 vq)(p:n.ownsRow 0 9 1 wv y.length (y.map .string))(G:y.length<=100000)(o:(nk=1/\A3 s y 0=true)\/nk=0\/nk=2):
 Adg Acs 20 #[J (some ⟨w,0,none⟩),J (some ⟨v,0,none⟩),wv] n λB H=>B=F (R #[])/\H=n:=by
 have e:=hid (Fv s y wv n (Hs p) G);obtain⟨ai,ah,rfl⟩:=Ad r;obtain⟨M,L,rfl⟩:=Ad k;obtain⟨Y,aa,ab,ac,ad,ae,af,ag,-⟩:=E;clear r k p;have N:(nk==4)=false:=by rw[beq_eq_false_iff_ne];omega
 have O:(nk==5)=false:=by rw[beq_eq_false_iff_ne];omega
 have g:Hid (((nk==1)=true/\A3 s y 0=true)\/(nk==1)=false):=by
  rcases o with⟨h,D⟩|h|h
  ·exact Ads ⟨by rw[beq_iff_eq];exact h,D⟩
  ·right;rw[beq_eq_false_iff_ne];omega
  ·right;rw[beq_eq_false_iff_ne];omega
 clear o;rcases g.out with⟨u,i⟩|u
 ·rw[i]at e;clear g i;go_enter Tryz.func20,Tryz.ntmps20;go_wp2_with (first
   |(go_at_call 45;refine e.out.mono ?_;rintro z I ⟨rfl,a⟩;replace a:=a.symm;subst a;clear e))
  go_loopw [9] (λc wr=>c=V C 0/\wr=n) (λ_ _=>0)
  case atStart=>exact⟨rfl,rfl⟩
  case round=>
   obtain⟨rfl,a⟩:=hrel;replace a:=a.symm
   subst a;go_wp2;go_loopw [10] (λc wr=>c=V C 0/\wr=n) (λ_ _=>0)
   case atStart=>exact⟨rfl,rfl⟩
   case round=>
    obtain⟨rfl,a⟩:=hrel;replace a:=a.symm
    subst a;go_wp2;all_goals first
     |(exfalso;omega)
     |(refine bE ?_
       exact⟨rfl,rfl⟩)
 ·clear g;obtain⟨U,l⟩:∃t,A3 s y 0=t:=⟨_,rfl⟩;rw[l]at e;clear l;go_enter Tryz.func20,Tryz.ntmps20;go_wp2_with (first
   |(go_at_call 45;refine e.out.mono ?_;rintro z I ⟨rfl,a⟩;replace a:=a.symm;subst a;clear e))
  go_loopw [9] (λc wr=>c=V C 0/\wr=n) (λ_ _=>0)
  case atStart=>exact⟨rfl,rfl⟩
  case round=>
   obtain⟨rfl,a⟩:=hrel;replace a:=a.symm
   subst a;go_wp2;go_loopw [10] (λc wr=>c=V C 0/\wr=n) (λ_ _=>0)
   case atStart=>exact⟨rfl,rfl⟩
   case round=>
    obtain⟨rfl,a⟩:=hrel;replace a:=a.symm
    subst a;go_wp2;all_goals first
     |(exfalso;omega)
     |(refine bE ?_
       exact⟨rfl,rfl⟩)
theorem NB{T B a b:Nat}{r:X}(p:XN n B 1 we wn (wi:Int) f wv vc vy)(aC:T<B)(an:a<=B)(ao:B<b)(E:TX n T s x K nd.1 nd.2 m q r)(I:n.ownsRow (T+1) 55 2 q wf.length (Cm wf))(G:n.ownsRow (T+1) 88 4 r H.length (Bg wl H))(ar:wl.length=H.length)(aq:wf.length<=2000)(ap:H.length<=2000)(Y:n.ownsRow (B+1) w5 vx vc 0 wb)(O:n.ownsRow (B+1) vd n3 vy 0 vq)(U:n.ownsRow 0 9 1 n0 y.length (y.map .string))(au:y.length<=100000)(w:A3 wn y 0=false):
 Adg Acs 20 #[J (some ⟨T,0,none⟩),J (some ⟨B,0,none⟩),n0] n λam aa=>am=F (R #[])/\LF T a b n aa/\TX aa T s x K (if A3 wn (Ao wf H) 0=true then nd else K5 nd 4 wi).1 (if A3 wn (Ao wf H) 0=true then nd else K5 nd 4 wi).2 m q r:=by
 have i:=hid (Fv wn y n0 n (Hs U) au);rw[w]at i;obtain⟨aE,aD,rfl⟩:=Ad Y;obtain⟨az,ay,rfl⟩:=Ad O;have ax:=hid p;have k:=hid (WH (T:=T) (a:=a) (b:=b) (V C 2) an ao p.ty);have N:=p.dA 2;have l:=hid (E.other (B:=B) (j:=0) (u:=V C 2) (by omega));have h:=hid (Mj (nmx:=wn) l.out (k.out.row I (by decide) (by omega)) (k.out.row G (by decide) (by omega)) ar aq ap);obtain⟨a0,a1,a2,a3,a4,a5,a6,a7,D⟩:=p;have a8:=D 0 (by omega);have ad:=hid N;obtain⟨ae,af,ag,ah,ai,aj,ak,al,-⟩:=N;clear E Y O U I G D;cases hg:A3 wn (Ao wf H) 0 with
 |true=>
  rw[hg]at h;rw[if_pos rfl];clear hg w;go_enter Tryz.func20,Tryz.ntmps20;go_wp2_with (first
   |(go_at_call 45;refine i.out.mono ?_;rintro o av ⟨rfl,d⟩;replace d:=d.symm;subst d;clear i)
   |(go_at_call 46;refine h.out.mono ?_;rintro o aw ⟨rfl,d⟩;subst d;clear h))
  obtain⟨e,M⟩:∃e,n.setCell ⟨B,0,none⟩ (V C 2)=e:=⟨_,rfl⟩;rw[M]at l k ae af ag ah ai aj ak al ⊢;clear M;go_loopw [9] (λg wr=>g=V C 0/\wr=e) (λ_ _=>0)
  case atStart=>exact⟨rfl,rfl⟩
  case round=>
   obtain⟨rfl,d⟩:=hrel;replace d:=d.symm
   subst d;go_wp2;go_loopw [10] (λg wr=>g=V C 0/\wr=e) (λ_ _=>0)
   case atStart=>exact⟨rfl,rfl⟩
   case round=>
    obtain⟨rfl,d⟩:=hrel;replace d:=d.symm
    subst d;go_wp2;all_goals first
     |(exfalso;omega)
     |(refine bE ?_
       exact⟨rfl,k.out,l.out⟩)
 |false=>
  rw[hg]at h;rw[if_neg (by decide)];clear hg w;have z:=hid (FP (c:=4) (a:=wi) l.out);go_enter Tryz.func20,Tryz.ntmps20;go_wp2_with (first
   |(go_at_call 45;refine i.out.mono ?_;rintro o av ⟨rfl,d⟩;replace d:=d.symm;subst d;clear i)
   |(go_at_call 46;refine h.out.mono ?_;rintro o aw ⟨rfl,d⟩;subst d;clear h)
   |(go_at_call 47;refine z.out.mono ?_;rintro o e ⟨rfl,L,t⟩;have ac:=hid L;have ab:=hid (k.out.trans (LF.cM t));have v:=ad.out.ef t (by omega);have a9:=v.c6;have aB:=v.c7;clear L t v z))
  go_loopw [9] (λg wr=>g=V C 0/\wr=e) (λ_ _=>0)
  case atStart=>exact⟨rfl,rfl⟩
  case round=>
   obtain⟨rfl,d⟩:=hrel;replace d:=d.symm
   subst d;go_wp2;go_loopw [10] (λg wr=>g=V C 0/\wr=e) (λ_ _=>0)
   case atStart=>exact⟨rfl,rfl⟩
   case round=>
    obtain⟨rfl,d⟩:=hrel;replace d:=d.symm
    subst d;go_wp2;all_goals first
     |(exfalso;omega)
     |(refine bE ?_
       exact⟨rfl,ab.out,ac.out⟩)
structure F6 (c r s e N h:Nat) (K:ByteArray) (H D:Nat) (E n k:X) (l:DR) (i:Dn) (x:List ((X×X×X)×Nat×Nat)) (o:List ByteArray) (G:X) (m:List ByteArray) (v:X) (f:List Ex) (b:List (X×Nat×Nat)) (d:List (Nat×Av×Ex)) (a:List ((X×X×X)×Nat×Nat)) (y B:Int) (L:ByteArray) (I:Int) (u t p g:X) (M wr:Q) (w z:Nat) (q:Nat×Nat):Prop where
 lf:LF c r s M wr
 tx:TX wr c K H D q.1 q.2 E n k
 xn:XN wr e y B L I u t p g
 pr:wr.ownsRow (e+1) 86 1 p f.length (b.map (·.1))
 ar:wr.ownsRow (e+1) 139 4 g d.length (Ci a d)
 pk:∀j (h1:j<b.length) (h2:j<f.length),w<=j->RX h wr b[j].2.1 b[j].2.2 b[j].1 f[j]
 ak:∀j (h1:j<a.length) (h2:j<d.length),z<=j->Kh (RX h wr) wr a[j].2.1 a[j].2.2 a[j].1 d[j]
 ir:wr.ownsRow (c+1) 55 2 n l.length (Cm l)
 dr:wr.ownsRow (c+1) 88 4 k i.length (Bg x i)
 nr:wr.ownsRow 0 9 1 G o.length (o.map .string)
 ir2:wr.ownsRow 0 9 1 v m.length (m.map .string)
structure M0 (e f g d c:Nat) (b:List (X×Nat×Nat)) (a:List ((X×X×X)×Nat×Nat)) (k h:X):Prop where
 hT:e<f
 ha:f<=d
 pm:∀j (h1:j<b.length),d+1<=b[j].2.1/\b[j].2.1<=b[j].2.2/\b[j].2.2<=c
 am:∀j (h1:j<a.length),c<=a[j].2.1/\a[j].2.1<=a[j].2.2/\a[j].2.2<=g
 pp:∀i j (h0:i<j) (h1:j<b.length),b[i].2.2<=b[j].2.1
 aa:∀i j (h0:i<j) (h1:j<a.length),a[i].2.2<=a[j].2.1
 mb:d+1<=c/\c<=g
 hn:k.ownBlock≠some e
 hi:h.ownBlock≠some e
theorem F6.step{l:Nat}{wr:Q}{x k2 l2:Nat}(e:F6 w v b d l K s wi w5 m q j wf H wl y f wy wv wh na wq vk we w7 wn nk vc vy n0 xj n wr vd vx nd)(g:M0 w v b d l na vk f wv)(c:LF w x n3 wr h)(t:TX h w s wi w5 v2.1 v2.2 m q j)(ab:d+1<=x)(u:n3<=b)(Y:vd<=k2)(aa:vx<=l2)(o:∀a o,k2<=a->na[a].2.2<=x\/n3<=na[a].2.1)(r:∀a o,l2<=a->vk[a].2.2<=x\/n3<=vk[a].2.1):
 F6 w v b d l K s wi w5 m q j wf H wl y f wy wv wh na wq vk we w7 wn nk vc vy n0 xj n h k2 l2 v2:=by
 have N:=g.hT;have O:=g.ha;refine⟨e.lf.trans (c.wide (by omega) u),t,c.xn e.xn (by omega) (by omega),c.row e.pr nofun (by omega),c.row e.ar nofun (by omega),λa i k p=>?_,λa i k p=>?_,c.row e.ir nofun .refl,c.row e.dr nofun .refl,c.dK e.nr nofun g.hn,c.dK e.ir2 nofun g.hi⟩
 ·have B:=g.pm a i;exact c.rx (e.pk a i k (by omega)) (by omega) (by grind)
 ·have B:=g.am a i;have ac:=g.mb;let ⟨D,z,E,G,I,L,M⟩:=(e.ak a i k (by omega))
  have U:=r a i p;exact⟨c.ev D (by omega),z,E,G,I,L,c.rx M (by omega) (by omega)⟩
theorem JH(d:w<wh.length)(a:Nat×Nat):MC s4 y wy w2 (wh.drop w) a=MC s4 y wy w2 (wh.drop (w+1)) (s4 (if (w2||decide (w+1=wh.length))=true then wy else y) wh[w] a):=by
 rw[Adv d,MC];have b:(wh.drop (w+1)).isEmpty=decide (w+1=wh.length):=by
  by_cases c:w+1=wh.length
  ·grind
  ·rw[decide_eq_false c,<-Bool.not_eq_true,List.isEmpty_iff,List.drop_eq_nil_iff];omega
 rw[b]
theorem P0(a:n.ownsRow w v b m d wb):n.ownsRow 0 v b m d wb:=by
 refine⟨a.1,?_⟩;rcases a.2 with c|⟨g,e,f,c,-,h⟩
 ·exact Ads c
 grind
theorem C2(a:Below w n p):Below w n p.drew:=⟨a.os,a.tape,a.output,a.size,a.block⟩
def Xb(d b c:Nat)(e f g bd:X)(a:Q):Prop:=a.cell? ⟨d,7,none⟩=some e/\a.cell? ⟨b,c*4+1,none⟩=some f/\a.cell? ⟨b,c*4+2,none⟩=some g/\a.cell? ⟨b,c*4+3,none⟩=some bd
theorem Qi(d:wl.length=wq.length)(a:Nat)(e:a<wq.length)(f:a<wl.length):(Ci wl wq)[a*4+1]?=some wl[a].1.1/\(Ci wl wq)[a*4+2]?=some wl[a].1.2.1/\(Ci wl wq)[a*4+3]?=some wl[a].1.2.2:=by
 have c:=(C7 (λb:(((X×X×X)×Nat×Nat)×(Nat×Av×Ex))=>(V C b.2.1:X)) (λb=>b.1.1.1) (λb=>b.1.1.2.1) (λb=>b.1.1.2.2) (List.zip wl wq) a (by simp;omega)).2;simp[List.getElem_zip]at c;exact c
theorem Ml(i:XN n w we w7 s nk m q j (W (some ⟨v,0,none⟩) wq.length b))(d:n.ownsRow (w+1) 139 4 (W (some ⟨v,0,none⟩) wq.length b) wq.length (Ci wl wq))(f:wl.length=wq.length){a:Nat}(g:a<wq.length)(h:a<wl.length):Xb w v a (W (some ⟨v,0,none⟩) wq.length b) wl[a].1.1 wl[a].1.2.1 wl[a].1.2.2 n:=by
 have c:=Qi f a g h;obtain⟨-,-,-,-,-,-,-,e,-⟩:=i;refine⟨e,?_,?_,?_⟩
 ·rw[d.cellAt (a*4+1) (by omega)];exact c.1
 ·rw[d.cellAt (a*4+2) (by omega)];exact c.2.1
 ·rw[d.cellAt (a*4+3) (by omega)];exact c.2.2
theorem Uc(b:w<wq.length)(a:Nat×Nat):Ry s4 y (wq.drop w) a=Ry s4 y (wq.drop (w+1)) (s4 (y++wq[w].2.1.map (·.1)) wq[w].2.2 (Bk a y.length wq[w].2.1)):=by
 rw[Adv b,Ry]
theorem F6.g9{wr:Q}(ad:Rf w s wf H wl wi w5 m q j K)(a:F6 w v b d x K s wi w5 m q j wf H wl y f wy wv wh na wq vk we w7 wn nk vc vy n0 (W (some ⟨vd,0,none⟩) wq.length vx) n wr wh.length n3 nd)(c:M0 w v b d x na vk f wv)(ay:na.length=wh.length)(u:vk.length=wq.length)(o:n3<wq.length)(az:y.length+2001*(K+1)<=100000)(I:wq[n3].2.1.length<=2000/\(BQ K wq[n3].2.2/\CN K wq[n3].2.2)):
 ∃r p bd,Xb d vd n3 (W (some ⟨vd,0,none⟩) wq.length vx) r p bd wr/\∀g,Below wr.heap.size wr g->Adg Acs 21 #[J (some ⟨w,0,none⟩),f,r,p] g λk e=>∃i,k=F i/\Xb d vd n3 (W (some ⟨vd,0,none⟩) wq.length vx) r p bd e/\
  Adg Acs 20 #[J (some ⟨w,0,none⟩),bd,i] e λG E=>G=F (R #[])/\Xb d vd n3 (W (some ⟨vd,0,none⟩) wq.length vx) r p bd E/\
   F6 w v b d x K s wi w5 m q j wf H wl y f wy wv wh na wq vk we w7 wn nk vc vy n0 (W (some ⟨vd,0,none⟩) wq.length vx) n E wh.length (n3+1) (FK (λwn=>A3 wn (Ao wf H) 0) K (y++wq[n3].2.1.map (·.1)) wq[n3].2.2 (Bk nd y.length wq[n3].2.1)):=by
 have h:n3<vk.length:=by omega
 have au:=c.hT;have aw:=c.ha;have a0:=c.mb;have ax:=c.am n3 h;let ⟨aq,U,a4,a5,a6,a7,D⟩:=a.ak n3 h o .refl
 refine⟨vk[n3].1.1,vk[n3].1.2.1,vk[n3].1.2.2,Ml a.xn a.ar u o h,λg L=>?_⟩;have t:EF w wr g:=EF.cI L;have Y:LF w v b wr g:=LF.cM t;have ai:=a.tx.cJ L;refine(F4 ai (Y.dK a.nr nofun c.hn) (Y.ev aq (by omega)) (by omega) (by omega) I.1).mono ?_;rintro k e ⟨ae,ag,i,rfl,M⟩;have l:=t.trans ae;have B:LF w v b wr e:=LF.cM l;have ab:LF w U vk[n3].2.2 wr e:=LF.cM l;have av:=a.tx.lt;have ac:=B.row a.ar nofun (by omega);have a1:=t.size;refine⟨i,rfl,Ml (ab.xn a.xn (by omega) (by omega)) ac u o h,?_⟩;have aj:(y++wq[n3].2.1.map (·.1)).length=y.length+wq[n3].2.1.length:=by simp
 have al:=D.same (λao a2 a3=>l.block ao (by have:=D.lt;omega) (by omega)) (Ac5 D.lt.2 l.size);refine(ad e U vk[n3].2.2 vk[n3].1.2.2 wq[n3].2.2 (y++wq[n3].2.1.map (·.1)) i _ al I.2 (by omega) ag (B.row a.ir nofun .refl) (B.row a.dr nofun .refl) (by rw[aj];exact P0 M) (λk=>by have:=(M.lt w k).1;omega) (by omega)).mono ?_;rintro G E ⟨rfl,af,ah⟩;have ap:=ab.trans af;have z:=a.step (l2:=n3+1) c ap ah (by omega) (by omega) .refl (by omega) (λN O an=>by omega) (λN O an=>Ad7 (c.aa n3 N (by omega) O));exact⟨rfl,Ml z.xn z.ar u o h,z⟩
theorem SK{af:List ((X×X×X)×Nat×Nat)}(a1:Rf w s wf H af wi w5 m q j K)(k:F6 w v b d x K s wi w5 m q j wf H af y n0 y n0 wh na wq vk nk w7 wn we f wv vc vy n n 0 0 nd)(ay:M0 w v b d x na vk n0 n0)(a6:na.length=wh.length)(a5:vk.length=wq.length)(ao:y.length+2001*(K+1)<=100000)(az:∀l∈wh,BQ K l/\CN K l)(a0:∀l∈wq,l.2.1.length<=2000/\(BQ K l.2.2/\CN K l.2.2))(aR:(nk==1)=false)(aS:(nk==4)=false)(bj:(nk==5)=false)(aB:wh.length<=100000)(ae:wq.length<=100000):
 Adg Acs 20 #[J (some ⟨w,0,none⟩),J (some ⟨d,0,none⟩),n0] n λaV B=>aV=F (R #[])/\LF w v b n B/\TX B w s wi w5 (Ry (FK (λwn=>A3 wn (Ao wf H) 0) K) y wq (MC (FK (λwn=>A3 wn (Ao wf H) 0) K) y y false wh nd)).1 (Ry (FK (λwn=>A3 wn (Ao wf H) 0) K) y wq (MC (FK (λwn=>A3 wn (Ao wf H) 0) K) y y false wh nd)).2 m q j:=by
 have aw:=hid a6;have aK:=hid a5;have ax:=hid ao;have aG:=hid ae;clear a6 a5 ae;have ah:=hid (Fv wn y n0 n (Hs k.nr) (by omega));have aN:=hid k;have e:=hid ay;have av:=hid a1;have aH:=hid az;have aI:=hid a0;obtain⟨au,aD,rfl⟩:=Ad k.pr;obtain⟨al,ak,rfl⟩:=Ad k.ar;obtain⟨N,O,U,Y,aa,ab,ac,ad,-⟩:=k.xn;obtain⟨i,an⟩:∃i,MC (FK (λwn=>A3 wn (Ao wf H) 0) K) y y false wh nd=i:=⟨_,rfl⟩;have aQ:=hid an;rw[an];obtain⟨bk,a3⟩:∃l,A3 wn y 0=l:=⟨_,rfl⟩;rw[a3]at ah;clear k ay a1 az a0 an a3 ao;go_enter Tryz.func20,Tryz.ntmps20;go_wp2_with (first
  |(go_at_call 45;refine ah.out.mono ?_;rintro D bi ⟨rfl,ap⟩;replace ap:=ap.symm;subst ap;clear ah))
 clear N O U Y aa ab ac ad;go_loopw [9] (λu wr=>∃a:Nat,a<=wh.length/\u=V C (a:Int)/\∃z,Hid (F6 w v b d x K s wi w5 m q j wf H af y n0 y n0 wh na wq vk nk w7 wn we f wv (W au wh.length aD) (W al wq.length ak) n wr a 0 z/\MC (FK (λwn=>A3 wn (Ao wf H) 0) K) y y false (wh.drop a) z=i)) (λu _=>wh.length-(intOf u).toNat)
 case atStart=>exact⟨0,Ac0 _,rfl,nd,aN.out,aQ.out⟩
 case round=>
  obtain⟨a,bm,rfl,z,g⟩:=hrel;rename Q=>wr
  obtain⟨N,O,U,Y,aa,ab,ac,ad,-⟩:=g.out.1.xn;by_cases a8:a<wh.length
  ·have aW:(0:Int)<=(a:Int):=by omega
   have aX:(a:Int)<(wh.length:Int):=by omega
   obtain⟨aY,rfl⟩:∃E,au=some ⟨E,0,none⟩:=by
    obtain⟨E,aT,D,-⟩:=g.out.1.pr.form (by omega);grind
   have aU:wr.cell? ⟨aY,a,none⟩=some (na[a]'(by have:=aw.out;omega)).1:=by
    rw[g.out.1.pr.cellAt a (by omega)];grind
   have ag:=hid (av.out wr (na[a]'(by grind)).2.1 (na[a]'(by grind)).2.2 (na[a]'(by grind)).1 wh[a] y n0 z (g.out.1.pk a (by grind) a8 (Acu _)) (aH.out _ (Ac8 _)) (by have:=e.out.pm a (by grind);have:=e.out.hT;have:=e.out.ha;omega) g.out.1.tx g.out.1.ir g.out.1.dr g.out.1.nr e.out.hn (by have:=ax.out;omega));have M:Hid (MC (FK (λwn=>A3 wn (Ao wf H) 0) K) y y false (wh.drop (a+1)) (FK (λwn=>A3 wn (Ao wf H) 0) K y wh[a] z)=i):=by
    have h:=g.out.2;rw[JH a8]at h;show _=_;grind
   obtain⟨bl,a4⟩:∃bh,(na[a]'(by grind)).1=bh:=⟨_,rfl⟩;rw[a4]at aU ag;clear a4;have bn:a<100000:=by omega
   clear aB aR aS;cases hq:((a:Int)==Aer ((wh.length:Int)-1)) with
   |true=>
    go_wp2_with (first
     |(go_at_call 20;refine ag.out.mono ?_;rintro D aE ⟨rfl,G,I⟩;have ai:=hid G;have aj:=hid I;clear G I))
    refine⟨⟨a+1,by omega,by go_num,_,g.out.1.step (k2:=a+1) (l2:=0) e.out ai.out aj.out (by have:=e.out.pm a (by grind);omega) (by have:=e.out.pm a (by grind);have:=e.out.mb;omega) (by omega) (by omega) (λr t aq=>Ad7 (e.out.pp a r (by omega) t)) (λr t aq=>Ad7 (by have:=e.out.pm a (by grind);have:=e.out.am r t;omega)),M.out⟩,by simp[intOf];omega⟩
   |false=>
    go_wp2_with (first
     |(go_at_call 20;refine ag.out.mono ?_;rintro D aE ⟨rfl,G,I⟩;have ai:=hid G;have aj:=hid I;clear G I))
    refine⟨⟨a+1,by omega,by go_num,_,g.out.1.step (k2:=a+1) (l2:=0) e.out ai.out aj.out (by have:=e.out.pm a (by grind);omega) (by have:=e.out.pm a (by grind);have:=e.out.mb;omega) (by omega) (by omega) (λr t aq=>Ad7 (e.out.pp a r (by omega) t)) (λr t aq=>Ad7 (by have:=e.out.pm a (by grind);have:=e.out.am r t;omega)),M.out⟩,by simp[intOf];omega⟩
  ·have aZ:¬(a:Int)<(wh.length:Int):=by omega
   obtain rfl:a=wh.length:=by omega
   have aP:Hid (z=i):=by have h:=g.out.2;rw[Ab9]at h;exact h
   have ae:=aG.out;clear aB;go_wp2;go_loopw [10] (λu wr=>∃c:Nat,c<=wq.length/\u=V C (c:Int)/\∃L,Hid (F6 w v b d x K s wi w5 m q j wf H af y n0 y n0 wh na wq vk nk w7 wn we f wv (W au wh.length aD) (W al wq.length ak) n wr wh.length c L/\Ry (FK (λwn=>A3 wn (Ao wf H) 0) K) y (wq.drop c) L=Ry (FK (λwn=>A3 wn (Ao wf H) 0) K) y wq i)) (λu _=>wq.length-(intOf u).toNat)
   case atStart=>exact⟨0,Ac0 _,rfl,z,g.out.1,by rw[Agx,aP.out]⟩
   case round=>
    clear N O U Y aa ab ac ad g;obtain⟨c,ao,rfl,L,o⟩:=hrel;rename Q=>wl
    obtain⟨N,O,U,Y,aa,ab,ac,ad,-⟩:=o.out.1.xn;by_cases a9:c<wq.length
    ·have aW:(0:Int)<=(c:Int):=by omega
     have aX:(c:Int)<(wq.length:Int):=by omega
     have bo:c<100000:=by omega
     obtain⟨p,rfl⟩:∃E,al=some ⟨E,0,none⟩:=by
      obtain⟨E,aT,D,-⟩:=o.out.1.ar.form (by omega);simp_all
     obtain⟨bb,ba,bd,k,a2⟩:=o.out.1.g9 av.out e.out aw.out aK.out a9 ax.out (aI.out _ (Ac8 _));have aL:=hid (a2 wl.drew (C2 (Acv _ _)));have M:Hid (Ry (FK (λwn=>A3 wn (Ao wf H) 0) K) y (wq.drop (c+1)) (FK (λwn=>A3 wn (Ao wf H) 0) K (y++wq[c].2.1.map (·.1)) wq[c].2.2 (Bk L y.length wq[c].2.1))=Ry (FK (λwn=>A3 wn (Ao wf H) 0) K) y wq i):=by
      have h:=o.out.2;rw[Uc a9]at h;exact h
     obtain⟨bc,be,bf,bg⟩:=k;have bp:wl.drew.cell? ⟨d,7,none⟩=_:=bc;have bq:wl.drew.cell? ⟨p,c*4+1,none⟩=_:=be;have br:wl.drew.cell? ⟨p,c*4+2,none⟩=_:=bf;have bs:wl.drew.cell? ⟨p,c*4+3,none⟩=_:=bg;clear a2 ae;go_upto_region 18 with(fail)
     go_region_held_law (λB=>B.cell? ⟨d,7,none⟩=some (W (some ⟨p,0,none⟩) wq.length ak)/\B.cell? ⟨p,c*4+1,none⟩=some bb/\B.cell? ⟨p,c*4+2,none⟩=some ba/\B.cell? ⟨p,c*4+3,none⟩=some bd) (exact⟨by assumption,by assumption,by assumption,by assumption⟩)
      (first
       |(go_at_call 21;refine aL.out.mono ?_;rintro D bi ⟨bt,rfl,⟨bu,bv,bw,bx⟩,a7⟩;have aM:=hid a7;clear a7)
       |(go_at_call 20;refine aM.out.mono ?_;rintro D aE ⟨rfl,⟨bz,b0,b1,b2⟩,aC⟩;have aO:=hid aC;clear aC))
     go_wp2;exact⟨⟨c+1,by omega,by go_num,_,aO.out,M.out⟩,by simp[intOf];omega⟩
    ·have aZ:¬(c:Int)<(wq.length:Int):=by omega
     obtain rfl:c=wq.length:=by omega
     have aJ:Hid (L=Ry (FK (λwn=>A3 wn (Ao wf H) 0) K) y wq i):=by have h:=o.out.2;rw[Ab9]at h;exact h
     go_wp2;refine bE ?_;rw[<-aJ.out];exact⟨rfl,o.out.1.lf,o.out.1.tx⟩
theorem F6.inner{h:Nat}(i:F6 w v b d h K s wi w5 m q j wf H wl y f y f wh na wq vk we w7 wn nk vc vy n0 xj n n 0 0 nd)(c:M0 w v b d h na vk f f)(k:EF w n p)(l:TX p w s wi w5 v2.1 v2.2 m q j)(o:p.ownsRow 0 9 1 wv wy.length (wy.map .string)):
 F6 w v b d h K s wi w5 m q j wf H wl y f wy wv wh na wq vk we w7 wn nk vc vy n0 xj n p 0 0 v2:=by
 have r:=c.mb;have a:=i.step (x:=b) c (LF.cM k) l (by omega) .refl .refl .refl (λe g _=>Ads (by have:=c.pm e g;omega)) (λe g _=>Ads (by have:=c.am e g;omega));exact⟨a.lf,a.tx,a.xn,a.pr,a.ar,a.pk,a.ak,a.ir,a.dr,a.nr,o⟩
theorem Sh{bd:Av}(ag:Bool)(bb:Rf w s wf H wl wi w5 m q j K)(I:F6 w v b d x K s wi w5 m q j wf H wl y n0 y n0 wh na [] [] (if ag=true then 5 else 4) w7 wn we f wv vc vy n n 0 0 nd)(af:M0 w v b d x na [] n0 n0)(be:Bc n (d+1) f wv bd)(bh:na.length=wh.length)(bi:y.length+2001*(K+1)<=100000)(aq:bd.length<=2000)(ba:∀ah∈wh,BQ K ah/\CN K ah)(a8:wh.length<=100000):
 Adg Acs 20 #[J (some ⟨w,0,none⟩),J (some ⟨d,0,none⟩),n0] n λbp u=>bp=F (R #[])/\LF w v b n u/\TX u w s wi w5 (MC (FK (λwn=>A3 wn (Ao wf H) 0) K) y (y++bd.map (·.1)) ag wh (Bk nd y.length bd)).1 (MC (FK (λwn=>A3 wn (Ao wf H) 0) K) y (y++bd.map (·.1)) ag wh (Bk nd y.length bd)).2 m q j:=by
 have g:=hid bh;have a1:=hid bi;clear bh;obtain⟨l,a7⟩:∃bx,y++bd.map (·.1)=bx:=⟨_,rfl⟩;have aK:l.length=y.length+bd.length:=by rw[<-a7];simp
 have aW:=hid aK;have b3:=I.tx.lt;have b2:=af.hT;have b4:=af.ha;obtain⟨aB,aL⟩:∃ah,Bk nd y.length bd=ah:=⟨_,rfl⟩;have U:Hid (Adg Acs 21 #[J (some ⟨w,0,none⟩),n0,f,wv] n.drew λh z=>∃o,h=F o/\o.ownBlock≠some w/\F6 w v b d x K s wi w5 m q j wf H wl y n0 l o wh na [] [] (if ag=true then 5 else 4) w7 wn we f wv vc vy n z 0 0 aB):=by
  have bc:EF w n n.drew:=EF.cI (C2 (Acv _ _));have bl:LF w v b n n.drew:=LF.cM bc;refine(F4 I.tx.drew (bl.dK I.nr (by decide) af.hn) (bl.ev be (by omega)) (by omega) (by omega) aq).mono ?_;rintro h z ⟨bs,bf,o,rfl,bj⟩;rw[aL]at bf;have b5:n.heap.size<=n.drew.heap.size:=Acu _;refine⟨o,rfl,λh=>by have:=(bj.lt w h).1;omega,I.inner af (bc.trans bs) bf ?_⟩;rw[aK,<-a7];exact P0 bj
 have aj:Hid (∀z,z.ownsRow 0 9 1 n0 y.length (y.map .string)->Adg Acs 45 #[S wn,n0] z λh u=>h=F (A (A3 wn y 0))/\u=z):=λz ae=>Fv wn y n0 z (Hs ae) (by omega);have c:=hid af;have a0:=hid bb;have az:=hid ba;obtain⟨a9,bk,rfl⟩:=Ad I.pr;obtain⟨aZ,aY,rfl⟩:=Ad I.ar;obtain⟨Y,a2,a3,a4,ab,ac,a5,a6,-⟩:=I.xn;obtain⟨E,aJ⟩:∃E,MC (FK (λwn=>A3 wn (Ao wf H) 0) K) y l ag wh aB=E:=⟨_,rfl⟩;have aX:=hid aJ;rw[a7,aL,aJ];obtain⟨b0,bg⟩:∃ah,A3 wn y 0=ah:=⟨_,rfl⟩;rw[bg]at aj;clear I af bb ba aJ bg bi a7 aL aK be;cases ag with
 |true=>
  simp only[if_true]at U Y;go_enter Tryz.func20,Tryz.ntmps20;have aG:n.drew.cell? ⟨d,4,none⟩=_:=ab;have aH:n.drew.cell? ⟨d,5,none⟩=_:=ac;go_upto_region 2 with(fail)
  go_region_held_law (λu=>u.cell? ⟨d,4,none⟩=some f/\u.cell? ⟨d,5,none⟩=some wv) (exact⟨by assumption,by assumption⟩)
   (first
    |(go_at_call 21;refine U.out.mono ?_;rintro h z ⟨o,rfl,av,D⟩;have ao:=hid D;obtain⟨aO,aP,aQ,aR,aS,aT,aU,aV,-⟩:=D.xn;have ak:=hid (aj.out _ D.nr);clear D))
  clear Y a2 a3 a4 ab ac a5 a6 aG aH aj U;go_wp2_with (first
   |(go_at_call 45;refine ak.out.mono ?_;rintro h bz ⟨rfl,i⟩;replace i:=i.symm;subst i;clear ak))
  clear aO aP aQ aR aS aT aU aV;have al:=hid av;clear av;go_loopw [9] (λt wr=>∃a:Nat,a<=wh.length/\t=V C (a:Int)/\∃k,Hid (F6 w v b d x K s wi w5 m q j wf H wl y n0 l o wh na [] [] 5 w7 wn we f wv (W a9 wh.length bk) (W aZ 0 aY) n wr a 0 k/\MC (FK (λwn=>A3 wn (Ao wf H) 0) K) y l true (wh.drop a) k=E)) (λt _=>wh.length-(intOf t).toNat)
  case atStart=>exact⟨0,Ac0 _,rfl,aB,ao.out,aX.out⟩
  case round=>
   clear ao;obtain⟨a,bu,rfl,k,e⟩:=hrel;rename Q=>wr
   obtain⟨Y,a2,a3,a4,ab,ac,a5,a6,-⟩:=e.out.1.xn;by_cases N:a<wh.length
   ·have bq:(0:Int)<=(a:Int):=by omega
    have br:(a:Int)<(wh.length:Int):=by omega
    obtain⟨aI,rfl⟩:∃ad,a9=some ⟨ad,0,none⟩:=by
     obtain⟨ad,bn,h,-⟩:=e.out.1.pr.form (by omega);grind
    have aE:wr.cell? ⟨aI,a,none⟩=some (na[a]'(by have:=g.out;omega)).1:=by
     rw[e.out.1.pr.cellAt a (by omega)];grind
    have ai:=hid (a0.out wr (na[a]'(by have:=g.out;omega)).2.1 (na[a]'(by have:=g.out;omega)).2.2 (na[a]'(by have:=g.out;omega)).1 wh[a] y n0 k (e.out.1.pk a (by have:=g.out;omega) N (Acu _)) (az.out _ (Ac8 _)) (by have:=c.out.pm a (by have:=g.out;omega);omega) e.out.1.tx e.out.1.ir e.out.1.dr e.out.1.nr c.out.hn (by have:=a1.out;omega));have O:=hid (a0.out wr (na[a]'(by have:=g.out;omega)).2.1 (na[a]'(by grind)).2.2 (na[a]'(by grind)).1 wh[a] l o k (e.out.1.pk a (by grind) N (Acu _)) (az.out _ (Ac8 _)) (by have:=c.out.pm a (by grind);omega) e.out.1.tx e.out.1.ir e.out.1.dr e.out.1.ir2 al.out (by have:=a1.out;have:=aW.out;omega));have B:Hid (MC (FK (λwn=>A3 wn (Ao wf H) 0) K) y l true (wh.drop (a+1)) ((FK (λwn=>A3 wn (Ao wf H) 0) K) (if (true||decide (a+1=wh.length))=true then l else y) wh[a] k)=E):=by
     have p:=e.out.2;rw[JH N]at p;exact p
    obtain⟨bo,au⟩:∃aM,(na[a]'(by have:=g.out;omega)).1=aM:=⟨_,rfl⟩;rw[au]at aE ai O;clear au;have bv:a<100000:=by omega
    have aD:Hid (Aer ((wh.length:Int)-1)=(wh.length:Int)-1):=by
     show Aer _=_;unfold Aer;omega
    have ay:Hid (M0 w v b d x na [] n0 o):=⟨c.out.hT,c.out.ha,c.out.pm,c.out.am,c.out.pp,c.out.aa,c.out.mb,c.out.hn,al.out⟩;clear a8 aq;simp only[Bool.true_or,if_true]at B;go_wp2_with (first
     |(go_at_call 20;refine O.out.mono ?_;rintro h bm ⟨rfl,G,L⟩;have an:=hid G;have ap:=hid L;clear G L))
    exact⟨⟨a+1,by omega,by go_num,_,e.out.1.step (k2:=a+1) (l2:=0) ay.out an.out ap.out (by have:=c.out.pm a (by have:=g.out;omega);omega) (by have:=c.out.pm a (by grind);have:=c.out.mb;omega) (by omega) (by omega) (λM r ax=>Ad7 (c.out.pp a M (by omega) r)) (λM r ax=>by simp at r),B.out⟩,by simp[intOf];omega⟩
   ·have bt:¬(a:Int)<(wh.length:Int):=by omega
    obtain rfl:a=wh.length:=by omega
    have aC:Hid (k=E):=by have p:=e.out.2;rw[Ab9]at p;exact p
    clear a8 aq;go_wp2;go_loopw [10] (λt aN=>t=V C 0/\aN=wr) (λ_ _=>0)
    case atStart=>exact⟨rfl,rfl⟩
    case round=>
     obtain⟨rfl,i⟩:=hrel;replace i:=i.symm
     subst i;go_wp2;refine bE ?_;rw[<-aC.out];exact⟨rfl,e.out.1.lf,e.out.1.tx⟩
 |false=>
  simp only[if_false,Bool.false_eq_true]at U Y;go_enter Tryz.func20,Tryz.ntmps20;have aG:n.drew.cell? ⟨d,4,none⟩=_:=ab;have aH:n.drew.cell? ⟨d,5,none⟩=_:=ac;go_upto_region 2 with(fail)
  go_region_held_law (λu=>u.cell? ⟨d,4,none⟩=some f/\u.cell? ⟨d,5,none⟩=some wv) (exact⟨by assumption,by assumption⟩)
   (first
    |(go_at_call 21;refine U.out.mono ?_;rintro h z ⟨o,rfl,av,D⟩;have ao:=hid D;obtain⟨aO,aP,aQ,aR,aS,aT,aU,aV,-⟩:=D.xn;have ak:=hid (aj.out _ D.nr);clear D))
  clear Y a2 a3 a4 ab ac a5 a6 aG aH aj U;go_wp2_with (first
   |(go_at_call 45;refine ak.out.mono ?_;rintro h bz ⟨rfl,i⟩;replace i:=i.symm;subst i;clear ak))
  clear aO aP aQ aR aS aT aU aV;have al:=hid av;clear av;go_loopw [9] (λt wr=>∃a:Nat,a<=wh.length/\t=V C (a:Int)/\∃k,Hid (F6 w v b d x K s wi w5 m q j wf H wl y n0 l o wh na [] [] 4 w7 wn we f wv (W a9 wh.length bk) (W aZ 0 aY) n wr a 0 k/\MC (FK (λwn=>A3 wn (Ao wf H) 0) K) y l false (wh.drop a) k=E)) (λt _=>wh.length-(intOf t).toNat)
  case atStart=>exact⟨0,Ac0 _,rfl,aB,ao.out,aX.out⟩
  case round=>
   clear ao;obtain⟨a,bu,rfl,k,e⟩:=hrel;rename Q=>wr
   obtain⟨Y,a2,a3,a4,ab,ac,a5,a6,-⟩:=e.out.1.xn;by_cases N:a<wh.length
   ·have bq:(0:Int)<=(a:Int):=by omega
    have br:(a:Int)<(wh.length:Int):=by omega
    obtain⟨aI,rfl⟩:∃ad,a9=some ⟨ad,0,none⟩:=by
     obtain⟨ad,bn,h,-⟩:=e.out.1.pr.form (by omega);exact⟨ad,by cases h;rfl⟩
    have aE:wr.cell? ⟨aI,a,none⟩=some (na[a]'(by have:=g.out;omega)).1:=by
     rw[e.out.1.pr.cellAt a (by omega)];have bw:a<na.length:=by have:=g.out;omega
     rw[Aa1,Ad0 bw];rfl
    have ai:=hid (a0.out wr (na[a]'(by have:=g.out;omega)).2.1 (na[a]'(by have:=g.out;omega)).2.2 (na[a]'(by have:=g.out;omega)).1 wh[a] y n0 k (e.out.1.pk a (by have:=g.out;omega) N (Acu _)) (az.out _ (Ac8 _)) (by have:=c.out.pm a (by have:=g.out;omega);have:=c.out.hT;have:=c.out.ha;omega) e.out.1.tx e.out.1.ir e.out.1.dr e.out.1.nr c.out.hn (by have:=a1.out;omega));have O:=hid (a0.out wr (na[a]'(by have:=g.out;omega)).2.1 (na[a]'(by have:=g.out;omega)).2.2 (na[a]'(by have:=g.out;omega)).1 wh[a] l o k (e.out.1.pk a (by have:=g.out;omega) N (Acu _)) (az.out _ (Ac8 _)) (by have:=c.out.pm a (by have:=g.out;omega);have:=c.out.hT;have:=c.out.ha;omega) e.out.1.tx e.out.1.ir e.out.1.dr e.out.1.ir2 al.out (by have:=a1.out;have:=aW.out;omega));have B:Hid (MC (FK (λwn=>A3 wn (Ao wf H) 0) K) y l false (wh.drop (a+1)) ((FK (λwn=>A3 wn (Ao wf H) 0) K) (if (false||decide (a+1=wh.length))=true then l else y) wh[a] k)=E):=by
     have p:=e.out.2;rw[JH N]at p;exact p
    obtain⟨bo,au⟩:∃aM,(na[a]'(by have:=g.out;omega)).1=aM:=⟨_,rfl⟩;rw[au]at aE ai O;clear au;have bv:a<100000:=by omega
    have aD:Hid (Aer ((wh.length:Int)-1)=(wh.length:Int)-1):=by
     show Aer _=_;unfold Aer;omega
    have ay:Hid (M0 w v b d x na [] n0 o):=⟨c.out.hT,c.out.ha,c.out.pm,c.out.am,c.out.pp,c.out.aa,c.out.mb,c.out.hn,al.out⟩;clear a8 aq;cases hq:((a:Int)==Aer ((wh.length:Int)-1)) with
    |true=>
     have aw:a+1=wh.length:=by
      have ae:=hq;rw[aD.out,beq_iff_eq]at ae;omega
     rw[decide_eq_true aw]at B;simp only[Bool.or_true,if_true]at B;clear aw ai;go_wp2_with (first
      |(go_at_call 20;refine O.out.mono ?_;rintro h bm ⟨rfl,G,L⟩;have an:=hid G;have ap:=hid L;clear G L))
     exact⟨⟨a+1,by omega,by go_num,_,e.out.1.step (k2:=a+1) (l2:=0) ay.out an.out ap.out (by have:=c.out.pm a (by have:=g.out;omega);omega) (by have:=c.out.pm a (by have:=g.out;omega);have:=c.out.mb;omega) (by omega) (by omega) (λM r ax=>Ad7 (c.out.pp a M (by omega) r)) (λM r ax=>by simp at r),B.out⟩,by simp[intOf];omega⟩
    |false=>
     have aw:¬a+1=wh.length:=by
      intro b1;have ae:=hq;rw[aD.out,beq_eq_false_iff_ne]at ae;exact ae (by omega)
     rw[decide_eq_false aw]at B;simp only[Bool.or_false,Bool.false_eq_true,if_false]at B;clear aw O;go_wp2_with (first
      |(go_at_call 20;refine ai.out.mono ?_;rintro h bm ⟨rfl,G,L⟩;have an:=hid G;have ap:=hid L;clear G L))
     exact⟨⟨a+1,by omega,by go_num,_,e.out.1.step (k2:=a+1) (l2:=0) ay.out an.out ap.out (by have:=c.out.pm a (by have:=g.out;omega);omega) (by have:=c.out.pm a (by have:=g.out;omega);have:=c.out.mb;omega) (by omega) (by omega) (λM r ax=>Ad7 (c.out.pp a M (by omega) r)) (λM r ax=>by simp at r),B.out⟩,by simp[intOf];omega⟩
   ·have bt:¬(a:Int)<(wh.length:Int):=by omega
    obtain rfl:a=wh.length:=by omega
    have aC:Hid (k=E):=by have p:=e.out.2;rw[Ab9]at p;exact p
    clear a8 aq;go_wp2;go_loopw [10] (λt aN=>t=V C 0/\aN=wr) (λ_ _=>0)
    case atStart=>exact⟨rfl,rfl⟩
    case round=>
     obtain⟨rfl,i⟩:=hrel;replace i:=i.symm
     subst i;go_wp2;refine bE ?_;rw[<-aC.out];exact⟨rfl,e.out.1.lf,e.out.1.tx⟩
theorem Ue{bd:Av}(p:XN n d we w7 wn nk wv vc vy n0)(a:Yr (RX K n) n d b bd wh wq wv vc vy n0 na vk x)(o:w<v)(r:v<=d)(z:TX n w s wi w5 nd.1 nd.2 m q j)(u:n.ownsRow (w+1) 55 2 q wf.length (Cm wf))(t:n.ownsRow (w+1) 88 4 j H.length (Bg wl H))(l:n.ownsRow 0 9 1 f y.length (y.map .string))(k:f.ownBlock≠some w):
 F6 w v b d x K s wi w5 m q j wf H wl y f y f wh na wq vk we w7 wn nk wv vc vy n0 n n 0 0 nd/\M0 w v b d x na vk f f:=by
 refine⟨⟨LF.refl _ _ _ _,z,p,a.pr,a.ar,λc e i _=>a.pk.get c e i,λc e i _=>a.ak.get c e i,u,t,l,l⟩,⟨o,r,λc e=>a.pk.mem _ (Ac8 _),λc e=>a.ak.mem _ (Ac8 _),λh c g e=>a.pk.apart h c g e,λh c g e=>a.ak.apart h c g e,⟨a.pk.le,a.ak.le⟩,k,k⟩⟩
theorem NT{T:Nat}{s:ByteArray}{o:DR}{f:Dn}{aj:List ((X×X×X)×Nat×Nat)}{p nest:Nat}{nm iv dv:X}(ac:aj.length=f.length)(Y:o.length<=2000)(O:f.length<=2000):∀m,Rf T s o f aj p nest nm iv dv m
 |0=>λ_ _ _ _ _ _ _ _ b=>b.elim
 |m+1=>by
  intro B D E a3 a q ap j b h am z aa U y ao ae;have ai:=NT (T:=T) (s:=s) (p:=p) (nest:=nest) (nm:=nm) (iv:=iv) (dv:=dv) ac Y O m;have ax:=b.lt;obtain⟨al,av,au,a2,aq,a0,az,a1,rfl,M,aw,x,ay,i⟩:=b;let ⟨L,w⟩:=Ue x i am M z aa U y ao
  have ad:=i.pk.len;have ab:=i.ak.len;have K:∀e∈Bd a,BQ m e/\CN m e:=λe b=>⟨h.1.2.1 e b,h.2.2.1 e b⟩;have ag:(Bd a).length<=100000:=Ac5 h.2.1.1 (by decide);have t:∀(G:(xK a==1)=false) (H:(xK a==4)=false) (I:(xK a==5)=false) (N:GM a=[]) (ah:Qq a=false) (af:lkN (λd=>A3 d (Ao o f) 0) q a=id),Adg Acs 20 #[J (some ⟨T,0,none⟩),J (some ⟨al,0,none⟩),ap] B λv u=>v=F (R #[])/\LF T D E B u/\TX u T s p nest (FK (λd=>A3 d (Ao o f) 0) (m+1) q a j).1 (FK (λd=>A3 d (Ao o f) 0) (m+1) q a j).2 nm iv dv:=by
   intro G H I N ah af;rw[FK,N,ah,af,Aez,Ad8];exact SK ai L w ad ab ae K (λe b=>⟨(h.1.2.2 e b).1,(h.1.2.2 e b).2,h.2.2.2 e b⟩) G H I ag (Ac5 h.2.1.2.1 (by decide))
  cases a with
  |num n=>exact t rfl rfl rfl rfl rfl rfl
  |call ps=>exact t rfl rfl rfl rfl rfl rfl
  |Fs tag fs=>exact t rfl rfl rfl rfl rfl rfl
  |case c brs=>exact t rfl rfl rfl rfl rfl rfl
  |op k l r=>exact t rfl rfl rfl rfl rfl rfl
  |lets r ns es body=>
   have an:=Aeo (by rw[ab];rfl);subst an;exact Sh r ai L w i.nr ad ae h.1.1 K ag
  |name g d pl=>
   cases g with
   |true=>exact t rfl rfl rfl rfl rfl rfl
   |false=>
    show Adg _ _ _ _ λv u=>v=F (R #[])/\LF T D E B u/\TX u T s p nest (if A3 d q 0=true then j else if A3 d (Ao o f) 0=true then j else K5 j 4 pl).1 (if A3 d q 0=true then j else if A3 d (Ao o f) 0=true then j else K5 j 4 pl).2 nm iv dv;cases h1:A3 d q 0 with
    |true=>
     rw[if_pos rfl];refine(OW x i.pr i.ar y (by omega) (Ads ⟨rfl,h1⟩)).mono ?_;rintro v u ⟨rfl,rfl⟩;exact⟨rfl,LF.refl _ _ _ _,z⟩
    |false=>
     rw[if_neg (by simp)];exact NB x (by omega) M (by have:=w.mb;omega) z aa U ac Y O i.pr i.ar y (by omega) h1
def Ki(b:ByteArray->Bool)(c:Nat×Nat)(a:ByteArray×Av×Ex):Nat×Nat:=FK b 31 (a.2.1.map (·.1)) a.2.2 (Bk c 0 a.2.1)
structure Ju (a:Nat) (m:ByteArray) (l:Nat) (k f d:X) (e:DR) (c:Dn) (b:List ((X×X×X)×Nat×Nat)) (h wr:Q) (i:Nat) (g:Nat×Nat):Prop where
 lf:LF a (a+1) h.heap.size h wr
 tx:TX wr a m l 0 g.1 g.2 k f d
 ir:wr.ownsRow (a+1) 55 2 f e.length (Cm e)
 dr:wr.ownsRow (a+1) 88 4 d c.length (Bg b c)
 ak:∀j (h1:j<b.length) (h2:j<c.length),i<=j->T3 wr b[j].2.1 b[j].2.2 b[j].1 c[j]
theorem JC(d:wl.length=H.length)(a:Nat)(e:a<H.length)(f:a<wl.length):(Bg wl H)[a*4]?=some (.string H[a].1)/\(Bg wl H)[a*4+1]?=some wl[a].1.1/\(Bg wl H)[a*4+2]?=some wl[a].1.2.1/\(Bg wl H)[a*4+3]?=some wl[a].1.2.2:=by
 have c:=C7 (λb:(((X×X×X)×Nat×Nat)×(ByteArray×Av×Ex))=>(S b.2.1)) (λb=>b.1.1.1) (λb=>b.1.1.2.1) (λb=>b.1.1.2.2) (List.zip wl H) a (by simp;omega);simp[List.getElem_zip]at c;exact c
theorem Ju.start(c:TX n w s v 0 0 nd.2 m q j)(b:nd.1=0)(a:EH w n q j wf H wl):Ju w s v m q j wf H wl n n 0 nd:=
 ⟨LF.refl _ _ _ _,by rw[b];exact c,a.ir,a.dr,λd e f _=>a.dk.get d e f⟩
theorem Ju.cells{wr:Q}{g:Nat}(a:Ju w s v m q (W (some ⟨g,0,none⟩) H.length d) wf H wl n wr b nd)(B:wl.length=H.length)(k:b<H.length):∃f o e i r h c,wr.cell? ⟨g,b*4,none⟩=some (.string H[b].1)/\wr.cell? ⟨g,b*4+1,none⟩=some (W f o e)/\wr.cell? ⟨g,b*4+2,none⟩=some (W i r h)/\wr.cell? ⟨g,b*4+3,none⟩=some (J (some ⟨c,0,none⟩))/\(wl[b]'(by omega)).1=(W f o e,W i r h,J (some ⟨c,0,none⟩)):=by
 have j:b<wl.length:=by omega
 have z:=JC B b k j;let ⟨t,N,U,Y,aa,ab,D⟩:=a.ak b j k .refl
 let ⟨f,e,u⟩:=Ad t.l
 let ⟨i,h,x⟩:=Ad t.p
 obtain⟨c,I,G,O,E,L,K,M,y,-⟩:=D;refine⟨f,_,e,i,_,h,c,?_,?_,?_,?_,Prod.ext u (Prod.ext x y)⟩
 ·rw[a.dr.cellAt (b*4) (by omega)];exact z.1
 ·rw[a.dr.cellAt (b*4+1) (by omega)];grind
 ·rw[a.dr.cellAt (b*4+2) (by omega)];grind
 ·rw[a.dr.cellAt (b*4+3) (by omega)];grind
theorem Ju.step{wr:Q}(c:Ju w s v m q j wf H wl n wr b nd)(ab:wl.length=H.length)(Y:wf.length<=2000)(U:H.length<=2000)(ad:b<H.length)(E:b<wl.length)(B:∀a (M:a<wl.length),w+1<=wl[a].2.1/\wl[a].2.1<=wl[a].2.2/\wl[a].2.2<=n.heap.size)(O:∀k a (aj:k<a) (M:a<wl.length),wl[k].2.2<=wl[a].2.1)(t:H[b].2.1.length<=2000/\(BQ 31 H[b].2.2/\CN 31 H[b].2.2)){X:Q}(l:Below wr.heap.size wr X){D:Nat}(al:wr.heap.size<=D)(u:D<X.heap.size):
 Adg Acs 21 #[J (some ⟨w,0,none⟩),W none 0 0,wl[b].1.1,wl[b].1.2.1] X λg d=>∃f,g=F f/\d.heap[D]?=X.heap[D]?/\
  Adg Acs 20 #[J (some ⟨w,0,none⟩),wl[b].1.2.2,f] d λr p=>r=F (R #[])/\p.heap[D]?=X.heap[D]?/\Ju w s v m q j wf H wl n p (b+1) (Ki (λai=>A3 ai (Ao wf H) 0) nd H[b]):=by
 have ao:=B b E;have am:=c.tx.lt;have ap:=c.lf.size;obtain⟨ah,I,ay,az,a0,a1,L⟩:=c.ak b E ad (Acu _);have x:EF w wr X:=EF.cI l;have ag:LF w (w+1) n.heap.size wr X:=LF.cM x;have aq:=l.size;refine(F4 (names:=[]) (c.tx.cJ l) (Ad1 _ _ _ _) (ag.ev ah (by omega)) (by omega) (by simp) t.1).mono ?_;rintro g d ⟨i,N,f,rfl,G⟩;have h:=x.trans i;have K:LF w (w+1) n.heap.size wr d:=LF.cM h;refine⟨f,rfl,i.block D u (by omega),?_⟩;have ac:(([]:List ByteArray)++H[b].2.1.map (·.1)).length=0+H[b].2.1.length:=by simp
 have ae:RX 31 d I wl[b].2.2 wl[b].1.2.2 H[b].2.2:=L.same (λa ax k2=>h.block a (by omega) (by omega)) (Ac5 L.lt.2 h.size);refine(NT ab Y U 31 d I wl[b].2.2 wl[b].1.2.2 H[b].2.2 ([]++H[b].2.1.map (·.1)) f _ ae t.2 (by omega) N (K.row c.ir (by decide) (by omega)) (K.row c.dr (by decide) (by omega)) (by rw[ac];exact P0 G) (λg=>by have:=(G.lt w g).1;omega) (by omega)).mono ?_;rintro r p ⟨rfl,y,z⟩;have ar:=i.size;have e:=(LF.cM h).trans y;refine⟨rfl,?_,⟨c.lf.trans (e.wide (by omega) (by omega)),?_,e.row c.ir (by decide) (by omega),e.row c.dr (by decide) (by omega),λa o af aw=>?_⟩⟩
 ·rw[y.block D (by omega) (by omega) (Ad7 (Ads (by omega)))];exact i.block D u (by omega)
 ·rw[Aec]at z;exact z
 ·have aa:=B a o;have an:=O b a (by omega) o;refine(c.ak a o af (by omega)).same (λk au av=>?_) (Ac5 aa.2.2 (Ac5 c.lf.size e.size));exact e.block k (by omega) (by omega) (Ad7 (Ads (by omega)))
def K1(b:DR)(a:Dn)(c:Nat×Nat):Nat×Nat:=a.foldl (Ki (λd=>A3 d (Ao b a) 0)) c
def EA(a:ByteArray):Nat×Nat:=
 if 2000<a.size then (1,0) else
  match Bo a 0 with
  |P e=>e
  |.ok (x,_)=>if (K1 x.2.1 x.2.2 (0,0)).1=0 then (0,0) else K1 x.2.1 x.2.2 (0,0)
theorem Xq:NZ (GP s y):=by
 intro e d c b;rcases Af b with a|⟨i,f,a,b⟩
 ·exact Hk s _ e d c a
 rcases Af b with a|⟨j,g,a,b⟩
 ·exact FY s f d c a
 rcases Af b with a|⟨k,h,a,b⟩
 ·exact Jr s 30 g d c a
 cases b
theorem O5:NZ (EB s wf H):=by
 intro g d c a;unfold EB at a;split at a
 ·rcases Af a with b|⟨f,e,b,a⟩
  ·exact Hk s _ _ d c b
  rcases Af a with b|⟨i,h,b,a⟩
  ·exact FSa s _ e d c b
  cases a
 ·split at a
  ·rcases Af a with b|⟨f,e,b,a⟩
   ·exact Xq _ d c b
   cases a
  grind
theorem QI{h:ByteArray}:∀e g f,NZ (CI h e g f)
 |0,_,_=>λi d c a=>by cases a;decide
 |e+1,g,f=>λi d c a=>by
  rw[CI]at a;split at a
  ·grind
  ·split at a
   ·rcases Af a with b|⟨l,j,b,a⟩
    ·exact O5 _ d c b
    rcases Af a with b|⟨m,k,b,a⟩
    ·exact A5 h _ j d c b
    exact QI e _ _ k d c a
   grind
theorem SH:NZ (Bo s):=by
 intro e d c b;rcases Af b with a|⟨j,f,a,b⟩
 ·exact A5 s _ e d c a
 rcases Af b with a|⟨k,g,a,b⟩
 ·exact A5 s _ f d c a
 rcases Af b with a|⟨l,h,a,b⟩
 ·exact E9 s g d c a
 rcases Af b with a|⟨m,i,a,b⟩
 ·exact QI _ _ _ h d c a
 cases b
theorem Km(a:2000<s.size):EA s=(1,0):=by unfold EA;rw[if_pos a]
theorem Lq(a:¬2000<s.size)(b:Bo s 0=P nd):EA s=nd:=by unfold EA;rw[if_neg a,b]
theorem Oh(a:¬2000<s.size)(b:Bo s 0=.ok (sv,w)):EA s=if (K1 sv.2.1 sv.2.2 (0,0)).1=0 then (0,0) else K1 sv.2.1 sv.2.2 (0,0):=by unfold EA;rw[if_neg a,b]
def Yq(e:Q)(h g:X)(d:DR)(a:Dn):Prop:=e.ownsRow 0 55 2 h d.length (Cm d)/\∃c:List ((X×X×X)×Nat×Nat),c.length=a.length/\e.ownsRow 0 88 4 g a.length (Bg c a)/\∀b (j:b<c.length) (k:b<a.length),∃i f,c[b].1.1=.slice i a[b].2.1.length f
def J5(a:ByteArray)(j:Q)(l:Ending)(k:Q):Prop:=Below j.heap.size j k/\∃(i:ByteArray) (f:Option Addr) (g c:Nat) (e:Option Addr) (h d:Nat),l=F (R #[T #[S i,W f g c,W e h d],V C ((EA a).1:Int),V C ((EA a).2:Int)])/\∀b m,Bo a 0=.ok (b,m)->(EA a).1=0->i=b.1/\Yq k (W f g c) (W e h d) b.2.1 b.2.2
theorem Bq(a:Below w n p)(f:w<=v)(e:X):Below w n (p.setCell ⟨v,b,none⟩ e):=
 ⟨a.os,a.tape,a.output,by simpa using a.size,λc d=>by rw[Ac4 _ _ _ _ (show c≠v by omega)];exact a.block c d⟩
theorem Oq(a:Below v n p)(b:NF w w p h)(e:v<=w)(f:v<=p.heap.size):Below v n h:=
 ⟨b.os.trans a.os,b.tape.trans a.tape,b.output.trans a.output,Ac5 a.size b.size,λc d=>by rw[b.block c (by omega) (by omega) (by omega)];exact a.block c d⟩
theorem Vf(a:Below d n p)(c:LF w v b p h)(g:d<=w)(i:w<v)(j:d<=p.heap.size):Below d n h:=
 ⟨c.os.trans a.os,c.tape.trans a.tape,c.output.trans a.output,Ac5 a.size c.size,λe f=>by rw[c.block e (by omega) (by omega) (Ads (by omega))];exact a.block e f⟩
theorem L7(l:2000<s.size):Adg Acs 10 #[S s] n λg q=>J5 s n g q:=by
 obtain⟨c,a⟩:∃c,c=n.alloc (.cells #[S ⟨#[]⟩,W none 0 0,W none 0 0] 48):=⟨_,rfl⟩;have d:Hid (Below n.heap.size n c):=by rw[a];exact bA
 have f:Hid (V3 c n.heap.size (S ⟨#[]⟩) (W none 0 0) (W none 0 0)):=by
  subst a;exact⟨by simp,by simp,by simp,λt=>by simp⟩
 have e:Hid (EA s=(1,0)):=Km l;have r:(2000:Int)<(s.size:Int):=by omega
 let ⟨m,o,p,b⟩:=id f.out
 have h:=b 0;have i:=b 1;have j:=b 2;rw[a]at m o p h i j;clear b;go_enter Tryz.func10,Tryz.ntmps10;go_wp2;refine Adc (v:=R #[T #[S ⟨#[]⟩,W none 0 0,W none 0 0],V C 1,V C 0]) (by simp[results,Tryz.results10,go_sem]) rfl ?_;rw[<-a];unfold J5;rw[e.out];exact⟨d.out,_,_,_,_,_,_,_,rfl,λ_ _ _ k=>by cases k⟩
theorem NC{c:Nat}(O:¬2000<s.size)(i:Bo s 0=P (w,c)):Adg Acs 10 #[S s] n λh ab=>J5 s n h ab:=by
 obtain⟨a,j⟩:∃a,a=n.alloc (.cells #[S ⟨#[]⟩,W none 0 0,W none 0 0] 48):=⟨_,rfl⟩;have t:Below n.heap.size n a:=by rw[j];exact bA
 have L:a.heap.size=n.heap.size+1:=by rw[j];simp
 have I:V3 a n.heap.size (S ⟨#[]⟩) (W none 0 0) (W none 0 0):=by
  subst j;exact⟨by simp,by simp,by simp,λY=>by simp⟩
 obtain⟨e,o⟩:∃e,e=a.alloc (.cells #[S s,V C 0,V C 0,V C 0,V C 0,S ⟨#[]⟩,W none 0 0,W none 0 0] 84):=⟨_,rfl⟩;have u:Below a.heap.size a e:=by rw[o];exact bA
 have G:=t.trans (u.mono t.size);have U:e.heap.size=n.heap.size+2:=by simp_all
 have K:TX e (n.heap.size+1) s 0 0 0 0 (S ⟨#[]⟩) (W none 0 0) (W none 0 0):=by
  rw[o,<-L];exact⟨by simp,by simp,by simp,by simp,by simp,by simp,by simp,by simp,λY _=>by simp⟩
 have ap:=SH 0 w c i;have ad:=hid i;have ar:((w:Int)==0)=false:=by grind
 have E:Hid (EA s=(w,c)):=Lq O i;have au:¬(2000:Int)<(s.size:Int):=by omega
 have D:Hid (Adg Acs 19 #[J (some ⟨n.heap.size+1,0,none⟩)] e λh f=>h=F (R #[])/\Hid (Below n.heap.size n f/\V3 f n.heap.size (S ⟨#[]⟩) (W none 0 0) (W none 0 0))/\∃d q p l b k,TX f (n.heap.size+1) s d 0 w c q p (W l b k)):=by
  refine(Hm K (by omega) (Ac0 _)).mono ?_;rintro h f ⟨rfl,H,m⟩;rw[i]at m;obtain⟨d,q,p,l,b,k,m,-⟩:=m;refine⟨rfl,⟨Oq G H (by omega) (by omega),?_⟩,d,q,p,l,b,k,m⟩;exact(I.cJ u).cK (H.block _ (by omega) .refl (by omega))
 rw[o,j]at D;clear t u I K o G i U L j;go_enter Tryz.func10,Tryz.ntmps10;go_wp2_with (first
  |(go_at_call 19;refine D.out.mono ?_;rintro h f ⟨rfl,g,d,q,p,l,b,k,ae,af,ag,ah,ai,aj,ak,al,-⟩))
 go_loopw [6] (λaa wr=>aa=V C 0/\wr=f) (λ_ _=>0)
 case atStart=>simp
 case round=>
  obtain⟨rfl,x⟩:=hrel;replace x:=x.symm
  subst x;obtain⟨av,aw,ax,r⟩:=g.out.2;have am:=r 0;have an:=r 1;have ao:=r 2;clear r;by_cases aq:0<b
  ·have M:(0:Int)<(b:Int):=by omega
   go_upto_region 17 with(fail)
   go_region
   go_wp2;obtain⟨y,z,B,-⟩:=g.out.2.put (S ⟨#[]⟩) (W none 0 0) (W none 0 0);refine Adc (v:=R #[T #[S ⟨#[]⟩,W none 0 0,W none 0 0],V C (w:Int),V C (c:Int)]) (by simp[results,Tryz.results10,go_sem,y,z,B]) rfl ?_;unfold J5;rw[E.out];exact⟨C2 (Bq (Bq (Bq g.out.1 (Acu _) _) (Acu _) _) (Acu _) _),_,_,_,_,_,_,_,rfl,λac d N=>by omega⟩
  ·have M:¬(0:Int)<(b:Int):=by omega
   go_upto_region 17 with(fail)
   go_region
   go_wp2;obtain⟨y,z,B,-⟩:=g.out.2.put (S ⟨#[]⟩) (W none 0 0) (W none 0 0);refine Adc (v:=R #[T #[S ⟨#[]⟩,W none 0 0,W none 0 0],V C (w:Int),V C (c:Int)]) (by simp[results,Tryz.results10,go_sem,y,z,B]) rfl ?_;unfold J5;rw[E.out];exact⟨C2 (Bq (Bq (Bq g.out.1 (Acu _) _) (Acu _) _) (Acu _) _),_,_,_,_,_,_,_,rfl,λac d N=>by omega⟩
end Go.Proofs.YtnghccjoicmabaaGreatDoor
