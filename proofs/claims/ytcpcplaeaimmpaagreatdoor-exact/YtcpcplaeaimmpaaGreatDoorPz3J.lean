import Derived.Test.YtcpcplaeaimmpaaGreatDoorPxBJ
set_option maxRecDepth 100000
set_option maxHeartbeats 8000000
namespace Go.Proofs.YtcpcplaeaimmpaaGreatDoor
open Go.RowKit Go.Sort
abbrev PT:=Value×Ex×List Nat
abbrev BT:=Nat×Value×Nms×PT
def ptC(x:PT):List Value:=[x.1]
def ptS(x:PT):List Nat:=x.2.2
def brC(x:BT):List Value:=[.int .i64 (x.1:Int),x.2.1,x.2.2.2.1]
def btS(x:BT):List Nat:=vB x.2.1++x.2.2.2.2.2
abbrev RowE(ok:World->PT->Prop)(w:World)(lo:Nat)(v:Value)(xs:List PT):Prop:=RowS ptC ptS ok 181 1 w lo v xs
abbrev RowBr(ok:World->BT->Prop)(w:World)(lo:Nat)(v:Value)(xs:List BT):Prop:=RowS brC btS ok 319 3 w lo v xs
section
variable (ok:World->PT->Prop)
def okBr(w:World)(x:BT):Prop:=NmsO w 0 x.2.1 x.2.2.1∧ok w x.2.2.2
def PXN(w:World)(v:Value)(e:Ex)(bs:List Nat):Prop:=match e with
 |.num n=>v=.iface 344 (.agg #[.int .i64 n])∧bs=[]
 |.name _ t pl=>v=.iface 170 (.agg #[.string t,.int .i64 (pl:Int)])∧bs=[]
 |.op k l r=>∃lv lb rv rb,v=.iface 361 (.agg #[.int .i64 (9+(k:Int)),lv,rv])∧ok w (lv,l,lb)∧ok w (rv,r,rb)∧bs=lb++rb
 |.call parts=>∃f args fv fb av xs,parts=f::args∧v=.iface 363 (.agg #[fv,av])∧ok w (fv,f,fb)∧RowE ok w 0 av xs∧xs.map (λx:PT=>x.2.1)=args∧bs=fb++rowB ptS av xs
 |.lets r ns es body=>∃nv ev xs bv bb,v=.iface 312 (.agg #[.bool r,nv,ev,bv])∧NmsO w 0 nv ns∧RowE ok w 0 ev xs∧xs.map (λx:PT=>x.2.1)=es∧ok w (bv,body,bb)∧bs=vB nv++(rowB ptS ev xs++bb)
 |.con tag fs=>∃fv xs,v=.iface 393 (.agg #[.int .i64 (tag:Int),fv])∧RowE ok w 0 fv xs∧xs.map (λx:PT=>x.2.1)=fs∧bs=rowB ptS fv xs
 |.case e brs=>∃ev eb bv ys,v=.iface 316 (.agg #[ev,bv])∧ok w (ev,e,eb)∧RowBr (okBr ok) w 0 bv ys∧ys.map (λy:BT=>(y.1,y.2.2.1,y.2.2.2.2.1))=brs∧bs=eb++rowB btS bv ys
end
def PX:Nat->World->PT->Prop
 |0,_,_=>False
 |d+1,w,x=>PXN (PX d) w x.1 x.2.1 x.2.2
theorem NmsO.fr{w w':World}{lo:Nat}{v:Value}{l:Nms}(h:NmsO w lo v l)(hz:w.heap.size<=w'.heap.size)(hf:Fr (vB v) w w'):NmsO w' lo v l:=RowS.fr okW h hz (hf.sub λb hb=>by
 rcases List.mem_append.1 hb with h1|h1
 ·exact h1
 ·simp at h1)
theorem okFr_br{ok:World->PT->Prop}(hok:OkFr ptS ok):OkFr btS (okBr ok):=by
 intro w w' x h hz hf;exact⟨h.1.fr hz (hf.sub λb hb=>List.mem_append_left _ hb),hok w w' _ h.2 hz (hf.sub λb hb=>List.mem_append_right _ hb)⟩
theorem PXN.fr{ok:World->PT->Prop}(hok:OkFr ptS ok){w w':World}{v:Value}{e:Ex}{bs:List Nat}(h:PXN ok w v e bs)(hz:w.heap.size<=w'.heap.size)(hf:Fr bs w w'):PXN ok w' v e bs:=by
 cases e with
 |num n=>exact h
 |name g t pl=>exact h
 |op k l r=>
  obtain⟨lv,lb,rv,rb,h1,h2,h3,rfl⟩:=h;exact⟨lv,lb,rv,rb,h1,hok w w' _ h2 hz (hf.sub λb hb=>List.mem_append_left _ hb),hok w w' _ h3 hz (hf.sub λb hb=>List.mem_append_right _ hb),rfl⟩
 |call parts=>
  obtain⟨f,args,fv,fb,av,xs,h1,h2,h3,h4,h5,rfl⟩:=h;exact⟨f,args,fv,fb,av,xs,h1,h2,hok w w' _ h3 hz (hf.sub λb hb=>List.mem_append_left _ hb),h4.fr hok hz (hf.sub λb hb=>List.mem_append_right _ hb),h5,rfl⟩
 |lets r ns es body=>
  obtain⟨nv,ev,xs,bv,bb,h1,h2,h3,h4,h5,rfl⟩:=h;exact⟨nv,ev,xs,bv,bb,h1,h2.fr hz (hf.sub λb hb=>List.mem_append_left _ hb),h3.fr hok hz (hf.sub λb hb=>List.mem_append_right _ (List.mem_append_left _ hb)),h4,hok w w' _ h5 hz (hf.sub λb hb=>List.mem_append_right _ (List.mem_append_right _ hb)),rfl⟩
 |con tag fs=>
  obtain⟨fv,xs,h1,h2,h3,rfl⟩:=h;exact⟨fv,xs,h1,h2.fr hok hz hf,h3,rfl⟩
 |case e brs=>
  obtain⟨ev,eb,bv,ys,h1,h2,h3,h4,rfl⟩:=h;exact⟨ev,eb,bv,ys,h1,hok w w' _ h2 hz (hf.sub λb hb=>List.mem_append_left _ hb),h3.fr (okFr_br hok) hz (hf.sub λb hb=>List.mem_append_right _ hb),h4,rfl⟩
theorem okPX:∀d,OkFr ptS (PX d)
 |0=>λ_ _ _ h=>h.elim
 |d+1=>λ_ _ _ h hz hf=>PXN.fr (okPX d) h hz hf
theorem PX.if_:∀{d:Nat} {w:World} {v:Value} {e:Ex} {bs:List Nat},PX d w (v,e,bs)->∃t x,v=.iface t x
 |0,_,_,_,_,h=>h.elim
 |d+1,w,v,e,bs,h=>by
  cases e with
  |num n=>exact⟨_,_,h.1⟩
  |name g t pl=>exact⟨_,_,h.1⟩
  |op k l r=>obtain⟨lv,lb,rv,rb,h1,-⟩:=h;exact⟨_,_,h1⟩
  |call parts=>obtain⟨f,args,fv,fb,av,xs,-,h2,-⟩:=h;exact⟨_,_,h2⟩
  |lets r ns es body=>obtain⟨nv,ev,xs,bv,bb,h1,-⟩:=h;exact⟨_,_,h1⟩
  |con tag fs=>obtain⟨fv,xs,h1,-⟩:=h;exact⟨_,_,h1⟩
  |case e brs=>obtain⟨ev,eb,bv,ys,h1,-⟩:=h;exact⟨_,_,h1⟩
def NewB(lo:Nat)(w:World)(bs:List Nat):Prop:=bs.Nodup∧∀b∈bs,lo<=b∧b<w.heap.size
theorem NewB.nil(lo:Nat)(w:World):NewB lo w []:=⟨List.nodup_nil,λb hb=>by cases hb⟩
theorem NewB.low{lo lo':Nat}{w:World}{bs:List Nat}(h:NewB lo w bs)(hz:lo'<=lo):NewB lo' w bs:=⟨h.1,λb hb=>⟨Nat.le_trans hz (h.2 b hb).1,(h.2 b hb).2⟩⟩
def IfV(v:Value):Prop:=v=.nilIface∨∃t x,v=.iface t x
def XRes{α:Type}(r:Pr α)(P:Nat)(w:World)(adr:Nat->Addr)(V:α->Nat->Value->World->Prop)(e:Ending)(w':World):Prop:=EF P w w'∧match r with
 |.ok (a,q)=>∃v,e=.returned (.tuple #[v,.nilIface])∧V a q v w'
 |.error (c,k)=>∃v,e=.returned (.tuple #[v,pE' adr (kIx c) k])∧IfV v
theorem XRes.ok{α:Type}{r:Pr α}{P:Nat}{w w':World}{adr:Nat->Addr}{V:α->Nat->Value->World->Prop}{a:α}{q:Nat}{v:Value}(h:r=.ok (a,q))(hE:EF P w w')(hv:V a q v w'):XRes r P w adr V (.returned (.tuple #[v,.nilIface])) w':=⟨hE,by rw[h];exact⟨v,rfl,hv⟩⟩
theorem XRes.bad{α:Type}{r:Pr α}{P:Nat}{w w':World}{adr:Nat->Addr}{V:α->Nat->Value->World->Prop}{c k:Nat}{v x:Value}(h:r=.error (c,k))(hE:EF P w w')(hx:x=pE' adr (kIx c) k)(hv:IfV v):XRes r P w adr V (.returned (.tuple #[v,x])) w':=⟨hE,by rw[h,hx];exact⟨v,rfl,hv⟩⟩
theorem XRes.isErr{α:Type}{r:Pr α}{P:Nat}{w w':World}{adr:Nat->Addr}{V:α->Nat->Value->World->Prop}{e:Ending}{c a:Nat}(h:XRes r P w adr V e w')(hr:r=.error (c,a)):∃v,e=.returned (.tuple #[v,.iface 81 (pEb adr (kIx c) a)])∧EF P w w'∧IfV v:=by
 subst hr;obtain⟨v,hv,hi⟩:=h.2;exact⟨v,hv,h.1,hi⟩
theorem XRes.isOk{α:Type}{r:Pr α}{P:Nat}{w w':World}{adr:Nat->Addr}{V:α->Nat->Value->World->Prop}{e:Ending}{x:α}{q:Nat}(h:XRes r P w adr V e w')(hr:r=.ok (x,q)):∃v,e=.returned (.tuple #[v,.nilIface])∧EF P w w'∧V x q v w':=by
 subst hr;obtain⟨v,hv,hV⟩:=h.2;exact⟨v,hv,h.1,hV⟩
def XV(d:Nat)(s:ByteArray)(P W:Nat)(gv:Value)(nest:Nat)(w:World)(x:Ex)(q:Nat)(v:Value)(w':World):Prop:=q<=s.size∧PS w' P W s q gv nest∧∃bs,PX d w' (v,x,bs)∧NewB w.heap.size w' bs
structure EFo (P:Nat) (v:Value) (w w':World):Prop where
 os:w'.os=w.os
 tape:w'.tape=w.tape
 output:w'.output=w.output
 size:w.heap.size<=w'.heap.size
 block:∀k,k<w.heap.size->k≠P->v.ownBlock≠some k->w'.heap[k]?=w.heap[k]?
def GlobRes(P W:Nat)(s:ByteArray)(adr:Nat->Addr)(w:World)(gv:Value)(G:Nms)(nest:Nat)(R:Pr (ByteArray×Nat))(e:Ending)(w':World):Prop:=EFo P gv w w'∧match R with
 |.error (c,a)=>e=.returned (.tuple #[.agg #[.string ⟨#[]⟩,.int .i64 0],pE' adr (kIx c) a])
 |.ok (x,q)=>∃gv',e=.returned (.tuple #[.agg #[.string x.1,.int .i64 (x.2:Int)],.nilIface])∧q<=s.size∧PS w' P W s q gv' nest∧NmsO w' (P+1) gv' (G++[x])∧∀b,gv'.ownBlock=some b->gv.ownBlock=some b∨w.heap.size<=b
structure GSt (P W:Nat) (s:ByteArray) (gv:Value) (G:Nms) (nest q:Nat) (x:ByteArray×Nat) (w wx:World) (N R:Nat) (g c:Nat):Prop where
 ef:EFo P gv w wx
 ps:PS wx P W s q (.slice (some ⟨g,0,none⟩) (G.length+1) c) nest
 row:NmsO wx (P+1) (.slice (some ⟨g,0,none⟩) (G.length+1) c) (G++[x])
 at_:gv.ownBlock=some g∨w.heap.size<=g
 n:V2 wx N (.string x.1) (.int .i64 (x.2:Int))
 r:V2 wx R (.string ⟨#[]⟩) (.int .i64 0)
 ne:g≠R
theorem V2.of_blk{w w':World}{b:Nat}{x y:Value}(h:V2 w b x y)(e:w'.heap[b]?=w.heap[b]?):V2 w' b x y:=
 ⟨by rw[World.cell?_of_block (a:=⟨b,0,none⟩) e];exact h.1,by rw[World.cell?_of_block (a:=⟨b,1,none⟩) e];exact h.2.1,by rw[World.frozen?_of_block (a:=⟨b,0,none⟩) e];exact h.2.2.1,by rw[World.frozen?_of_block (a:=⟨b,1,none⟩) e];exact h.2.2.2⟩
theorem GSt.make{P W:Nat}{s:ByteArray}{gv:Value}{G:Nms}{nest q:Nat}{x:ByteArray×Nat}{w w2 Z w4:World}{g c N R:Nat}(hP:P<w.heap.size)(hW:W<w.heap.size)(hWG:gv.ownBlock≠some W)(hr:NmsO w (P+1) gv G)(hE:EF P w w2)(hS:PS w2 P W s q gv nest)(hn:V2 Z N (.string x.1) (.int .i64 (x.2:Int)))(hN:w.heap.size<=N)(hrv:V2 Z R (.string ⟨#[]⟩) (.int .i64 0))(hR:w.heap.size<=R)(hb:Below w2.heap.size w2 Z)
 (hg:Z.grownBy w4 gv.ownBlock) (hat:gv.ownBlock=some g∨g=Z.heap.size) (hlt:g<w4.heap.size)
 (hown:w4.ownsRow 0 170 2 (.slice (some ⟨g,0,none⟩) (G.length+1) c) (G.length+1) (G.flatMap wC++[.string x.1,.int .i64 (x.2:Int)])):
 GSt P W s gv G nest q x w (w4.setCell ⟨P,1,none⟩ (.slice (some ⟨g,0,none⟩) (G.length+1) c)) N R g c:=by
 have hgr:∀b,gv.ownBlock=some b->P+1<=b∧b<w.heap.size:=λb e=>hr.rg b (List.mem_append_left _ (mem_vB.2 e));have hz:=hE.size;have hz2:=hb.size;have hz4:=hg.size;have hold:∀b,b<w2.heap.size->gv.ownBlock≠some b->w4.heap[b]?=w2.heap[b]?:=λb h1 h2=>by
  rw[hg.block b (by omega) (λe=>h2 e.symm)];exact hb.block b h1
 have hgP:gv.ownBlock≠some P:=λe=>by have:=hgr P e;omega
 have hrow4:NmsO w4 (P+1) (.slice (some ⟨g,0,none⟩) (G.length+1) c) (G++[x]):=by
  refine hr.push okW (by omega) (w1:=Z) (λb hb'=>?_) (by omega) trivial (λb hb'=>by cases hb') List.nodup_nil hg rfl hat hlt hown;have h1:=hr.rg b hb';rw[hb.block b (by omega)];exact hE.block b h1.2 (by omega)
 have hg1:P+1<=g:=(hrow4.rg g (List.mem_append_left _ (by rw[vB_slice];simp))).1;have hNZ:=hn.lt;have hgN:gv.ownBlock≠some N:=λe=>by have:=hgr N e;omega
 refine⟨⟨?_,?_,?_,?_,λk hk h1 h2=>?_⟩,?_,?_,?_,?_,?_,?_⟩
 ·exact(hg.os.trans hb.os).trans hE.os
 ·exact(hg.tape.trans hb.tape).trans hE.tape
 ·exact(hg.output.trans hb.output).trans hE.output
 ·simp;omega
 ·rw[Below.heap_setCell _ _ _ _ h1,hold k (by omega) h2];exact hE.block k hk h1
 ·refine PS.setGv (gv:=gv) ?_ _;obtain⟨o,c',k0,kc,kc2,kne,kw⟩:=hS.c0;have eP:=hold P (by omega) hgP;have eW:=hold W (by omega) hWG;refine⟨⟨o,c',?_,kc,kc2,kne,λi hi=>⟨?_,?_⟩⟩,?_,?_,λj hj=>?_⟩
  ·rw[World.cell?_of_block (a:=⟨P,0,none⟩) eP];exact k0
  ·rw[World.cell?_of_block (a:=⟨W,o+i*2,none⟩) eW];exact(kw i hi).1
  ·rw[World.cell?_of_block (a:=⟨W,o+i*2+1,none⟩) eW];exact(kw i hi).2
  ·rw[World.cell?_of_block (a:=⟨P,1,none⟩) eP];exact hS.c1
  ·rw[World.cell?_of_block (a:=⟨P,2,none⟩) eP];exact hS.c2
  ·rw[World.frozen?_of_block (a:=⟨P,j,none⟩) eP];exact hS.f j hj
 ·refine NmsO.fr hrow4 (by simp) λb hb'=>?_;rw[vB_slice]at hb';have hbg:b=g:=by simpa using hb'
  exact Below.heap_setCell _ _ _ _ (show b≠P by omega)
 ·rcases hat with h1|h1
  ·exact Or.inl h1
  ·exact Or.inr (by omega)
 ·exact V2.far (V2.of_blk hn (hg.block N hNZ (λe=>hgN e.symm))) (by omega)
 ·exact V2.far (V2.of_blk hrv (hg.block R hrv.lt (λe=>by have:=hgr R e.symm;omega))) (by omega)
 ·rcases hat with h1|h1
  ·have:=hgr g h1;omega
  ·have:=hrv.lt;omega
theorem PS.grown1{P W:Nat}{s:ByteArray}{p nest:Nat}{gv v:Value}{w2 Z w4:World}(h:PS w2 P W s p gv nest)(hb:Below w2.heap.size w2 Z)(hg:Z.grownBy w4 v.ownBlock)(hv:v.ownBlock≠some P):w4.cell? ⟨P,1,none⟩=some gv∧w4.frozen? ⟨P,1,none⟩=false:=by
 have e:w4.heap[P]?=w2.heap[P]?:=by
  rw[hg.block P (Nat.lt_of_lt_of_le h.lt hb.size) (λe=>hv e.symm)];exact hb.block P h.lt
 exact⟨by rw[World.cell?_of_block (a:=⟨P,1,none⟩) e];exact h.c1,by rw[World.frozen?_of_block (a:=⟨P,1,none⟩) e];exact h.f 1 (by omega)⟩
theorem EFo.new{P R j:Nat}{v u:Value}{w w':World}(h:EFo P v w w')(hR:w.heap.size<=R):EFo P v w (w'.setCell ⟨R,j,none⟩ u):=
 ⟨h.os,h.tape,h.output,by have:=h.size;simp;omega,λk hk h1 h2=>by rw[Below.heap_setCell _ _ _ _ (show k≠R by omega)];exact h.block k hk h1 h2⟩
theorem below_drew1{B:Nat}{a w:World}(h:Below B a w):Below B a w.drew:=⟨h.os,h.tape,h.output,h.size,h.block⟩
theorem globalName_any{B w:World}{P W:Nat}{adr:Nat->Addr}{s:ByteArray}{p nest:Nat}{gv:Value}{G:Nms}(hs:s.size<=2000)(hG:G.length<=2000)(hB:PB B w P adr)(h:PS w P W s p gv nest)(hp:p<=s.size)(hr:NmsO w (P+1) gv G)(hWG:gv.ownBlock≠some W):
 Calls Tryz.prog 146 #[.pointer (some ⟨P,0,none⟩)] w λe w'=>GlobRes P W s adr w gv G nest (pNew s (G.map (·.1)) p) e w':=by
 have hPl:=h.lt;have hWl:=h.wlt;have HS:=hid h;obtain⟨gp,gc,rfl⟩:=hr.slice;have HN:=hid (λw1 (hb:Below w.heap.size w w1)=>newName_any' G hs (Nat.le_trans hG (by omega)) (hB.ef (EF.of_below hb)) (h.below hb) hp ((NmsO.nm hr).keep hb));have HR:=hid hr;have HWG:=hid hWG;have c1:=h.c1;obtain⟨ni,hni,hnj⟩:=Option.map_eq_some_iff.1 Tryz.nameI;simp only[Prod.mk.injEq]at hnj;obtain⟨hn0,hn1,hn2⟩:=hnj;have HB0:Hid (∀o,Below w.heap.size w (w.alloc o)):=λo=>(Below.refl _ _).alloc (Nat.le_refl _) _;have HV0:Hid (V2 (w.alloc (.cells #[.string ⟨#[]⟩,.int .i64 0] 170)) w.heap.size (.string ⟨#[]⟩) (.int .i64 0)):=⟨by simp,by simp,by simp,by simp⟩;have HRP:Hid (w.heap.size≠P):=Nat.ne_of_gt hPl;have c1a:=λo=>alloc_old w o _ _ _ c1;have HGP:Hid ((Value.slice gp G.length gc).ownBlock≠some P):=λe=>by
  have:=(hr.rg P (List.mem_append_left _ (mem_vB.2 e))).1;omega
 clear hB h hr hWG;match hx:pNew s (G.map (·.1)) p with
 |.error (c,a)=>
  have HX:=hid hx;clear hx;go_enter Tryz.func146,Tryz.ntmps146;go_upto_region 2 with(first
   |(go_at_call 66;refine(HN.out _ (HB0.out _)).mono ?_;rintro e w2 ⟨hr,hbl⟩;obtain⟨rfl,hE2⟩:=hr.isErr HX.out;have hS2:=(HS.out.below (HB0.out _)).below (hbl c a HX.out);have HE2:=hid ((EF.of_below (E:=P) (HB0.out _)).trans hE2);have HV2:=hid (HV0.out.ef hE2 HRP.out);have HS2:=hid hS2;have k1:=hS2.c1;have k1f:=hS2.f 1 (by omega);have k1a:=λo=>alloc_old w2 o _ _ _ k1;have k1b:=λo o'=>alloc_old (w2.alloc o) o' _ _ _ (k1a o);clear hr hE2 hS2 hbl HN))
  have HZ2:Hid (∀o o',Below w2.heap.size w2 ((w2.alloc o).alloc o')):=λo o'=>((Below.refl _ _).alloc (Nat.le_refl _) _).alloc (by simp) _;go_cut [] (λwx=>∃g c',Hid (GSt P W s (.slice gp G.length gc) G nest p (⟨#[]⟩,0) w wx w2.heap.size w.heap.size g c'))
  case first=>
   go_region_law
    (first
    |(refine step_append_lies _ rfl (.tmp 19) (.tmp 21) 105 rfl 0 170 ni _ 2 24 Tryz.underlying105 hni hn0 hn1 hn2 rfl (by omega) (.slice gp G.length gc) G.length (G.flatMap wC) (by simp[Act.eval];done) (((HR.out.ef okW HE2.out (Nat.lt_succ_self P)).own.alloc _).alloc _) ⟨w2.heap.size+1,0,none⟩ 1 1 [.string (⟨#[]⟩:ByteArray),.int .i64 (0:Int)] (by simp[Act.eval];done) rfl (by have h:=World.news_of_block (heap_alloc_new (w2.alloc (Obj.cells #[.string (⟨#[]⟩:ByteArray),.int .i64 (0:Int)] 170)) (Obj.cells #[.string (⟨#[]⟩:ByteArray),.int .i64 (0:Int)] 170));simpa using h) (by intro u hu;simp at hu;rcases hu with rfl|rfl<;>rfl) (by omega) (by unfold maxLen;omega) (by omega) (Nat.zero_le _) _ rfl ?_;intro g1 c1' w4 hown hgrow hat hlt1;have HM:=hid (GSt.make (x:=(⟨#[]⟩,0)) (N:=w2.heap.size) (R:=w.heap.size) hPl hWl HWG.out HR.out HE2.out HS2.out (V2.keep (w:=w2.alloc (Obj.cells #[.string (⟨#[]⟩:ByteArray),.int .i64 (0:Int)] 170)) ⟨by simp,by simp,by simp,by simp⟩ (by first|exact(Below.refl _ _).alloc (Nat.le_refl _) _|exact below_drew1 ((Below.refl _ _).alloc (Nat.le_refl _) _))) HE2.out.size (HV2.out.keep (by first|exact HZ2.out _ _|exact below_drew1 (HZ2.out _ _))) (Nat.le_refl _) (by first|exact HZ2.out _ _|exact below_drew1 (HZ2.out _ _)) hgrow hat hlt1 hown);obtain⟨u1,u2⟩:=HS2.out.grown1 (by first|exact HZ2.out _ _|exact below_drew1 (HZ2.out _ _)) hgrow HGP.out;clear hown hgrow hat hlt1))
   all_goals
    go_wp2_with fail
    go_meet
    exact⟨_,_,HM⟩
  case rest=>
   rename World=>wx
   obtain⟨g,c',HK⟩:=hcut;obtain⟨n0,n1,n2,n3⟩:=id HK.out.n;obtain⟨r0,r1,r2,r3⟩:=id HK.out.r;go_wp2;obtain⟨s0,s1,-,-⟩:=HK.out.r.put (.string (⟨#[]⟩:ByteArray)) (.int .i64 (0:Int));refine bodyPost_ret (v:=.tuple #[.agg #[.string (⟨#[]⟩:ByteArray),.int .i64 (0:Int)],.iface 81 (pEb adr (kIx c) a)]) (by simp[results,Tryz.results146,go_sem,s0,s1]) rfl ?_;refine⟨(HK.out.ef.new (Nat.le_refl _)).new (Nat.le_refl _),?_⟩;rw[HX.out];rfl
 |.ok (x,q)=>
  have HX:=hid hx;clear hx;go_enter Tryz.func146,Tryz.ntmps146;go_upto_region 2 with(first
   |(go_at_call 66;refine(HN.out _ (HB0.out _)).mono ?_;rintro e w2 ⟨hr,-⟩;obtain⟨v,rfl,hE2,rfl,hq2,hS2⟩:=hr.isOk HX.out;have HE2:=hid ((EF.of_below (E:=P) (HB0.out _)).trans hE2);have HV2:=hid (HV0.out.ef hE2 HRP.out);have HS2:=hid hS2;have k1:=hS2.c1;have k1f:=hS2.f 1 (by omega);have k1a:=λo=>alloc_old w2 o _ _ _ k1;have k1b:=λo o'=>alloc_old (w2.alloc o) o' _ _ _ (k1a o);clear hr hE2 hS2 HN))
  have HZ2:Hid (∀o o',Below w2.heap.size w2 ((w2.alloc o).alloc o')):=λo o'=>((Below.refl _ _).alloc (Nat.le_refl _) _).alloc (by simp) _;go_cut [] (λwx=>∃g c,Hid (GSt P W s (.slice gp G.length gc) G nest q x w wx w2.heap.size w.heap.size g c))
  case first=>
   go_region_law
    (first
    |(refine step_append_lies _ rfl (.tmp 19) (.tmp 21) 105 rfl 0 170 ni _ 2 24 Tryz.underlying105 hni hn0 hn1 hn2 rfl (by omega) (.slice gp G.length gc) G.length (G.flatMap wC) (by simp[Act.eval];done) (((HR.out.ef okW HE2.out (Nat.lt_succ_self P)).own.alloc _).alloc _) ⟨w2.heap.size+1,0,none⟩ 1 1 [.string x.1,.int .i64 (x.2:Int)] (by simp[Act.eval];done) rfl (by have h:=World.news_of_block (heap_alloc_new (w2.alloc (Obj.cells #[.string x.1,.int .i64 (x.2:Int)] 170)) (Obj.cells #[.string x.1,.int .i64 (x.2:Int)] 170));simpa using h) (by intro u hu;simp at hu;rcases hu with rfl|rfl<;>rfl) (by omega) (by unfold maxLen;omega) (by omega) (Nat.zero_le _) _ rfl ?_;intro g1 c1' w4 hown hgrow hat hlt1;have HM:=hid (GSt.make (x:=x) (N:=w2.heap.size) (R:=w.heap.size) hPl hWl HWG.out HR.out HE2.out HS2.out (V2.keep (w:=w2.alloc (Obj.cells #[.string x.1,.int .i64 (x.2:Int)] 170)) ⟨by simp,by simp,by simp,by simp⟩ (by first|exact(Below.refl _ _).alloc (Nat.le_refl _) _|exact below_drew1 ((Below.refl _ _).alloc (Nat.le_refl _) _))) HE2.out.size (HV2.out.keep (by first|exact HZ2.out _ _|exact below_drew1 (HZ2.out _ _))) (Nat.le_refl _) (by first|exact HZ2.out _ _|exact below_drew1 (HZ2.out _ _)) hgrow hat hlt1 hown);obtain⟨u1,u2⟩:=HS2.out.grown1 (by first|exact HZ2.out _ _|exact below_drew1 (HZ2.out _ _)) hgrow HGP.out;clear hown hgrow hat hlt1))
   all_goals
    go_wp2_with fail
    go_meet
    exact⟨_,_,HM⟩
  case rest=>
   rename World=>wx
   obtain⟨g,c,HK⟩:=hcut;obtain⟨n0,n1,n2,n3⟩:=id HK.out.n;obtain⟨r0,r1,r2,r3⟩:=id HK.out.r;go_wp2;obtain⟨s0,s1,-,-⟩:=HK.out.r.put (.string x.1) (.int .i64 (x.2:Int));refine bodyPost_ret (v:=.tuple #[.agg #[.string x.1,.int .i64 (x.2:Int)],.nilIface]) (by simp[results,Tryz.results146,go_sem,s0,s1]) rfl ?_;have hgg:∀b,(Value.slice (some ⟨g,0,none⟩) (G.length+1) c).ownBlock=some b->(Value.slice gp G.length gc).ownBlock=some b∨w.heap.size<=b:=λb e=>by
    have:g=b:=Option.some.inj e;subst this;exact HK.out.at_
   refine⟨(HK.out.ef.new (Nat.le_refl _)).new (Nat.le_refl _),?_⟩;rw[HX.out];refine⟨_,rfl,hq2,(HK.out.ps.far HRP.out (Nat.ne_of_gt hWl)).far HRP.out (Nat.ne_of_gt hWl),?_,hgg⟩;refine NmsO.fr HK.out.row (by simp) λb hb'=>?_;rw[vB_slice]at hb';have hbg:b=g:=by simpa using hb'
   have hne:=HK.out.ne;rw[Below.heap_setCell _ _ _ _ (show b≠w.heap.size by omega),Below.heap_setCell _ _ _ _ (show b≠w.heap.size by omega)]
theorem word_whole{t:ByteArray}(h:wordB t=true):wholeP t=none:=by
 unfold wordB at h;simp only[Bool.and_eq_true,decide_eq_true_eq]at h;obtain⟨⟨⟨h1,-⟩,h2⟩,-⟩:=h;rw[chk_step h2]at h1;simp only[ne_eq,not_true_eq_false,decide_false,Bool.false_and,Bool.or_false,Bool.and_eq_true]at h1;have h3:97<=t[0].toNat:=by
  have:=h1.1;simp only[lowN,Bool.and_eq_true,decide_eq_true_eq]at this;exact this.1
 have hn:negB t=false:=by
  unfold negB;rw[getElem?_pos t 0 h2];simp only[decide_eq_false_iff_not];omega
 have ha:absP t=t:=by unfold absP;rw[if_neg (by simp[hn])]
 refine whole_bad (Or.inl ?_);rw[ha];unfold numB;have hl:0<t.data.toList.length:=by simpa using h2
 have e:t.data.toList=t[0]::t.data.toList.drop 1:=by
  have:=List.drop_eq_getElem_cons hl;rw[List.drop_zero]at this;exact this
 have hd:digsL t.data.toList=false:=by
  rw[e];unfold digsL;rw[List.all_cons];have:digN t[0].toNat=false:=by
   unfold digN;rw[Bool.and_eq_false_iff];exact Or.inr (decide_eq_false (by omega))
  rw[this];rfl
 rw[hd,Bool.and_false]
theorem atom_num{s:ByteArray}{p:Nat}{v:Int}(h:wholeP (tokT s p)=some v):pAtom s p=.ok (.num v,nxt s p):=by
 have hw:wordB (tokT s p)=false:=by
  cases hw:wordB (tokT s p) with
  |false=>rfl
  |true=>rw[word_whole hw]at h;cases h
 unfold pAtom;rw[if_neg (by simp[hw]),h]
theorem atom_name{s:ByteArray}{p:Nat}(h:wordB (tokT s p)=true):pAtom s p=.ok (.name false (tokT s p) (tokA s p),nxt s p):=by unfold pAtom;rw[if_pos h]
theorem atom_bad{s:ByteArray}{p:Nat}(h:wordB (tokT s p)=false)(h2:wholeP (tokT s p)=none):pAtom s p=.error (2,tokA s p):=by unfold pAtom;rw[if_neg (by simp[h]),h2]
theorem whole_ne{t:ByteArray}{v:Int}(h:wholeP t=some v):t≠⟨#[]⟩:=λe=>by rw[e,wholeP_empty]at h;cases h
theorem XRes.two{α:Type}{r:Pr α}{P:Nat}{w w':World}{adr:Nat->Addr}{V:α->Nat->Value->World->Prop}{e:Ending}(h:XRes r P w adr V e w'):∃a b,e=.returned (.tuple #[a,b]):=by
 match r,h with
 |.error (c,k),h=>obtain⟨v,hv,-⟩:=h.2;exact⟨_,_,hv⟩
 |.ok (a,q),h=>obtain⟨v,hv,-⟩:=h.2;exact⟨_,_,hv⟩
theorem XRes.rebase{r:Pr Ex}{P W d nest:Nat}{s:ByteArray}{gv:Value}{w w1 w':World}{adr:Nat->Addr}{e:Ending}(h:XRes r P w1 adr (XV d s P W gv nest w1) e w')(hE:EF P w w1):XRes r P w adr (XV d s P W gv nest w) e w':=by
 refine⟨hE.trans h.1,?_⟩;match r,h with
 |.error (c,k),h=>exact h.2
 |.ok (a,q),h=>
  obtain⟨v,hv,h1,h2,bs,h3,h4⟩:=h.2;exact⟨v,hv,h1,h2,bs,h3,h4.low hE.size⟩
def BrackC(B:World)(P W:Nat)(adr:Nat->Addr)(s:ByteArray)(gv:Value)(d nest:Nat):Prop:=∀(w:World) (p:Nat),PB B w P adr->PS w P W s p gv nest->p<=s.size->tokT s p=tOpen->
 Calls Tryz.prog 185 #[.pointer (some ⟨P,0,none⟩)] w λe w'=>XRes (pE s d p) P w adr (XV (d+1) s P W gv nest w) e w'
theorem pE_atom{s:ByteArray}{p:Nat}(h:¬tokT s p=tOpen):∀d,pE s d p=pAtom s p
 |0=>by rw[pE];exact if_neg h
 |d+1=>by rw[pE];exact if_neg h
theorem expr_at{B:World}{P W:Nat}{adr:Nat->Addr}{s:ByteArray}{gv:Value}{d nest:Nat}(hs:s.size<=2000)(w:World)(p:Nat)(hK:tokT s p=tOpen->BrackC B P W adr s gv d nest)(hB:PB B w P adr)(h:PS w P W s p gv nest)(hp:p<=s.size):
 Calls Tryz.prog 149 #[.pointer (some ⟨P,0,none⟩)] w λe w'=>XRes (pE s d p) P w adr (XV (d+1) s P W gv nest w) e w':=by
 have HP:=hid (λw1 (hb:Below w.heap.size w w1)=>peek_any (h.below hb) hp);have HS:=hid h;have HSY:=hid hB.sy;have hz:=tokT_small hp hs;have F0:=fldW0;have F1:=fldW1;have HB0:=hid (Below.refl w.heap.size w);by_cases ho:tokT s p=tOpen
 ·have HKK:=hid (λw1 (hb:Below w.heap.size w w1)=>hK ho w1 p (hB.ef (EF.of_below hb)) (h.below hb) hp ho);have b1:=lit_t tOpen_l ho;clear h hB ho;go_enter Tryz.func149,Tryz.ntmps149;go_wp2_with (first
   |(go_at_call 67;refine(HP.out _ HB0.out).mono ?_;rintro e w1 ⟨rfl,hb1⟩;replace HB0:=hid (HB0.out.trans (hb1.mono HB0.out.size));clear hb1)
   |(go_at_call 185;refine(HKK.out _ HB0.out).mono ?_;intro e w2 hr;have HR:=hid (hr.rebase (EF.of_below HB0.out));obtain⟨ra,rb,rfl⟩:=hr.two;clear hr))
  go_ret2
  exact HR.out
 ·have b1:=lit_f tOpen_l ho;have HA:=hid (pE_atom ho d);clear h hB ho;cases hw:wholeP (tokT s p) with
  |some v=>
   have HT:=hid (HA.out.trans (atom_num hw));have HNE:=hid (whole_ne hw);have HW:=hid hw;clear hw;go_enter Tryz.func149,Tryz.ntmps149;go_wp2_with (first
    |(go_at_call 67;refine(HP.out _ HB0.out).mono ?_;rintro e w1 ⟨rfl,hb1⟩;replace HB0:=hid (HB0.out.trans (hb1.mono HB0.out.size));clear hb1)
    |(go_at_call 186;refine(pnumber_any _ hz (HSY.out.keep HB0.out)).mono ?_;rintro e w3 ⟨hb3,n,rfl,hn⟩;obtain rfl:=hn v HW.out;replace HB0:=hid (HB0.out.trans (hb3.mono HB0.out.size));clear hb3 hn;rw[HW.out];simp only[Option.isSome_some])
    |(go_at_call 68;refine(skip_any (HS.out.below HB0.out) hp).mono ?_;rintro e w4 ⟨rfl,hE4,hP4⟩;have HE4:=hid ((EF.of_below (E:=P) HB0.out).trans hE4);have HP4:=hid (hP4 HNE.out);clear hE4 hP4))
   go_ret2
   exact XRes.ok HT.out HE4.out ⟨nxt_le hp,HP4.out,[],⟨rfl,rfl⟩,NewB.nil _ _⟩
  |none=>
   have HW:=hid hw;cases hn:wordB (tokT s p) with
   |true=>
    have HT:=hid (HA.out.trans (atom_name hn));have HNE:=hid (word_ne hn);have HN:=hid hn;clear hw hn;go_enter Tryz.func149,Tryz.ntmps149;go_wp2_with (first
     |(go_at_call 67;refine(HP.out _ HB0.out).mono ?_;rintro e w1 ⟨rfl,hb1⟩;replace HB0:=hid (HB0.out.trans (hb1.mono HB0.out.size));clear hb1)
     |(go_at_call 186;refine(pnumber_any _ hz (HSY.out.keep HB0.out)).mono ?_;rintro e w3 ⟨hb3,n,rfl,-⟩;replace HB0:=hid (HB0.out.trans (hb3.mono HB0.out.size));clear hb3;rw[HW.out];simp only[Option.isSome_none])
     |(go_at_call 109;refine(synName_any _ _ hz).mono ?_;rintro e w' ⟨rfl,rfl⟩;rw[HN.out])
     |(go_at_call 68;refine(skip_any (HS.out.below HB0.out) hp).mono ?_;rintro e w4 ⟨rfl,hE4,hP4⟩;have HE4:=hid ((EF.of_below (E:=P) HB0.out).trans hE4);have HP4:=hid (hP4 HNE.out);clear hE4 hP4))
    go_ret2
    exact XRes.ok HT.out HE4.out ⟨nxt_le hp,HP4.out,[],⟨rfl,rfl⟩,NewB.nil _ _⟩
   |false=>
    have HT:=hid (HA.out.trans (atom_bad hn hw));have HN:=hid hn;clear hw hn;go_enter Tryz.func149,Tryz.ntmps149;go_wp2_with (first
     |(go_at_call 67;refine(HP.out _ HB0.out).mono ?_;rintro e w1 ⟨rfl,hb1⟩;replace HB0:=hid (HB0.out.trans (hb1.mono HB0.out.size));clear hb1)
     |(go_at_call 186;refine(pnumber_any _ hz (HSY.out.keep HB0.out)).mono ?_;rintro e w3 ⟨hb3,n,rfl,-⟩;replace HB0:=hid (HB0.out.trans (hb3.mono HB0.out.size));clear hb3;rw[HW.out];simp only[Option.isSome_none])
     |(go_at_call 109;refine(synName_any _ _ hz).mono ?_;rintro e w' ⟨rfl,rfl⟩;rw[HN.out];have sy1:=(HSY.out.keep HB0.out).sy)
     |(go_at_call 108;refine(pwrong_any adr 12 (HS.out.below HB0.out) hp).mono ?_;rintro e w5 ⟨rfl,hb5⟩;replace HB0:=hid (HB0.out.trans (hb5.mono HB0.out.size));clear hb5))
    go_ret2
    exact XRes.bad HT.out (EF.of_below HB0.out) rfl (Or.inl rfl)
theorem Tryz.exprI:(Tryz.prog.info? 181).map (λi=>(i.zero,i.size,i.bytes))=some (some .nilIface,1,16):=by kernel_rfl
def cellLen(w:World)(a:Addr):Nat:=match w.cell? a with|some v=>slen v|none=>0
structure V4 (w:World) (b:Nat) (x0 x1 x2 x3:Value):Prop where
 c0:w.cell? ⟨b,0,none⟩=some x0
 c1:w.cell? ⟨b,1,none⟩=some x1
 c2:w.cell? ⟨b,2,none⟩=some x2
 c3:w.cell? ⟨b,3,none⟩=some x3
 f:∀j,w.frozen? ⟨b,j,none⟩=false
theorem V4.lt{w:World}{b:Nat}{x0 x1 x2 x3:Value}(h:V4 w b x0 x1 x2 x3):b<w.heap.size:=block_lt_of_cell h.c0
theorem V4.of_block{w w':World}{b:Nat}{x0 x1 x2 x3:Value}(h:V4 w b x0 x1 x2 x3)(e:w'.heap[b]?=w.heap[b]?):V4 w' b x0 x1 x2 x3:=by
 have hc:∀j,w'.cell? ⟨b,j,none⟩=w.cell? ⟨b,j,none⟩:=λj=>World.cell?_of_block (a:=⟨b,j,none⟩) e;exact⟨by rw[hc];exact h.c0,by rw[hc];exact h.c1,by rw[hc];exact h.c2,by rw[hc];exact h.c3,λj=>by rw[World.frozen?_of_block (a:=⟨b,j,none⟩) e];exact h.f j⟩
theorem V4.keep{w w':World}{b:Nat}{x0 x1 x2 x3:Value}(h:V4 w b x0 x1 x2 x3)(hb:Below w.heap.size w w'):V4 w' b x0 x1 x2 x3:=h.of_block (hb.block b h.lt)
theorem nsB{w:World}{lo:Nat}{v:Value}{l:Nms}(h:NmsO w lo v l):∀b∈vB v,lo<=b∧b<w.heap.size:=λb hb=>h.rg b (List.mem_append_left _ hb)
theorem vB_nodup(v:Value):(vB v).Nodup:=by unfold vB;cases v.ownBlock<;>simp
structure V3 (w:World) (b:Nat) (x0 x1 x2:Value):Prop where
 c0:w.cell? ⟨b,0,none⟩=some x0
 c1:w.cell? ⟨b,1,none⟩=some x1
 c2:w.cell? ⟨b,2,none⟩=some x2
 f:∀j,w.frozen? ⟨b,j,none⟩=false
theorem V3.lt{w:World}{b:Nat}{x0 x1 x2:Value}(h:V3 w b x0 x1 x2):b<w.heap.size:=block_lt_of_cell h.c0
theorem V3.of_block{w w':World}{b:Nat}{x0 x1 x2:Value}(h:V3 w b x0 x1 x2)(e:w'.heap[b]?=w.heap[b]?):V3 w' b x0 x1 x2:=by
 have hc:∀j,w'.cell? ⟨b,j,none⟩=w.cell? ⟨b,j,none⟩:=λj=>World.cell?_of_block (a:=⟨b,j,none⟩) e;exact⟨by rw[hc];exact h.c0,by rw[hc];exact h.c1,by rw[hc];exact h.c2,λj=>by rw[World.frozen?_of_block (a:=⟨b,j,none⟩) e];exact h.f j⟩
theorem V3.ef{w w':World}{b P:Nat}{x0 x1 x2:Value}(h:V3 w b x0 x1 x2)(hE:EF P w w')(hn:b≠P):V3 w' b x0 x1 x2:=h.of_block (hE.block b h.lt hn)
theorem V3.keep{w w':World}{b:Nat}{x0 x1 x2:Value}(h:V3 w b x0 x1 x2)(hb:Below w.heap.size w w'):V3 w' b x0 x1 x2:=h.of_block (hb.block b h.lt)
theorem V3.put{w:World}{b:Nat}{x0 x1 x2:Value}(h:V3 w b x0 x1 x2)(u0 u1 u2:Value):V3 (((w.setCell ⟨b,0,none⟩ u0).setCell ⟨b,1,none⟩ u1).setCell ⟨b,2,none⟩ u2) b u0 u1 u2:=by
 have e1:(w.setCell ⟨b,0,none⟩ u0).cell? ⟨b,1,none⟩=some x1:=by rw[World.cell?_setCell_other _ _ _ _ (off_ne (by omega))];exact h.c1
 have e2:((w.setCell ⟨b,0,none⟩ u0).setCell ⟨b,1,none⟩ u1).cell? ⟨b,2,none⟩=some x2:=by rw[World.cell?_setCell_other _ _ _ _ (off_ne (by omega)),World.cell?_setCell_other _ _ _ _ (off_ne (by omega))];exact h.c2
 refine⟨?_,?_,World.cell?_setCell_same _ _ _ e2,λj=>by rw[World.frozen?_setCell,World.frozen?_setCell,World.frozen?_setCell];exact h.f j⟩
 ·rw[World.cell?_setCell_other _ _ _ _ (off_ne (by omega)),World.cell?_setCell_other _ _ _ _ (off_ne (by omega))];exact World.cell?_setCell_same _ _ _ h.c0
 ·rw[World.cell?_setCell_other _ _ _ _ (off_ne (by omega))];exact World.cell?_setCell_same _ _ _ e1
theorem ef_put3{P R:Nat}{w w':World}{u0 u1 u2:Value}(h:EF P w w')(hR:w.heap.size<=R):EF P w (((w'.setCell ⟨R,0,none⟩ u0).setCell ⟨R,1,none⟩ u1).setCell ⟨R,2,none⟩ u2):=ef_new (ef_new (ef_new h hR) hR) hR
end Go.Proofs.YtcpcplaeaimmpaaGreatDoor
