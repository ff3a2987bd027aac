import Derived.Test.YtlanckgcjijefaaGreatDoorPy7J
set_option maxRecDepth 100000
set_option maxHeartbeats 8000000
namespace Go.Proofs.YtlanckgcjijefaaGreatDoor
open Go.RowKit Go.Sort
structure EFo (P:Nat) (v:Value) (w w':World):Prop where
 os:w'.os=w.os
 tape:w'.tape=w.tape
 output:w'.output=w.output
 size:w.heap.size<=w'.heap.size
 block:∀k,k<w.heap.size->k≠P->v.ownBlock≠some k->w'.heap[k]?=w.heap[k]?
theorem EFo.of_ef{P:Nat}{v:Value}{w w':World}(h:EF P w w'):EFo P v w w':=⟨h.os,h.tape,h.output,h.size,λk hk h1 _=>h.block k hk h1⟩
def GlobRes(P W:Nat)(s:ByteArray)(adr:Nat->Addr)(w:World)(gv:Value)(G:Nms)(nest:Nat)(R:Pr (ByteArray×Nat))(e:Ending)(w':World):Prop:=EFo P gv w w'∧match R with
 |.error (c,a)=>e=.returned (.tuple #[.agg #[.string ⟨#[]⟩,.int .i64 0],pE' adr (kIx c) a])
 |.ok (x,q)=>∃gv',e=.returned (.tuple #[.agg #[.string x.1,.int .i64 (x.2:Int)],.nilIface])∧q<=s.size∧PS w' P W s q gv' nest∧NmsO w' (P+1) gv' (G++[x])∧∀b,gv'.ownBlock=some b->gv.ownBlock=some b∨w.heap.size<=b
structure GSt (P W:Nat) (s:ByteArray) (gv:Value) (G:Nms) (nest q:Nat) (x:ByteArray×Nat) (w wx:World) (N R:Nat) (g c:Nat):Prop where
 ef:EFo P gv w wx
 ps:PS wx P W s q (.slice (some ⟨g,0,none⟩) (G.length+1) c) nest
 row:NmsO wx (P+1) (.slice (some ⟨g,0,none⟩) (G.length+1) c) (G++[x])
 at_:gv.ownBlock=some g∨w.heap.size<=g
 n:V2 wx N (.string x.1) (.int .i64 (x.2:Int))
 r:V2 wx R (.string ⟨#[]⟩) (.int .i64 0)
 ne:g≠R
theorem V2.of_blk{w w':World}{b:Nat}{x y:Value}(h:V2 w b x y)(e:w'.heap[b]?=w.heap[b]?):V2 w' b x y:=
 ⟨by rw[World.cell?_of_block (a:=⟨b,0,none⟩) e];exact h.1,by rw[World.cell?_of_block (a:=⟨b,1,none⟩) e];exact h.2.1,by rw[World.frozen?_of_block (a:=⟨b,0,none⟩) e];exact h.2.2.1,by rw[World.frozen?_of_block (a:=⟨b,1,none⟩) e];exact h.2.2.2⟩
theorem GSt.make{P W:Nat}{s:ByteArray}{gv:Value}{G:Nms}{nest q:Nat}{x:ByteArray×Nat}{w w2 Z w4:World}{g c N R:Nat}(hP:P<w.heap.size)(hW:W<w.heap.size)(hWG:gv.ownBlock≠some W)(hr:NmsO w (P+1) gv G)(hE:EF P w w2)(hS:PS w2 P W s q gv nest)(hn:V2 Z N (.string x.1) (.int .i64 (x.2:Int)))(hN:w.heap.size<=N)(hrv:V2 Z R (.string ⟨#[]⟩) (.int .i64 0))(hR:w.heap.size<=R)(hb:Below w2.heap.size w2 Z)
 (hg:Z.grownBy w4 gv.ownBlock) (hat:gv.ownBlock=some g∨g=Z.heap.size) (hlt:g<w4.heap.size)
 (hown:w4.ownsRow 0 91 2 (.slice (some ⟨g,0,none⟩) (G.length+1) c) (G.length+1) (G.flatMap wC++[.string x.1,.int .i64 (x.2:Int)])):
 GSt P W s gv G nest q x w (w4.setCell ⟨P,1,none⟩ (.slice (some ⟨g,0,none⟩) (G.length+1) c)) N R g c:=by
 have hgr:∀b,gv.ownBlock=some b->P+1<=b∧b<w.heap.size:=λb e=>hr.rg b (List.mem_append_left _ (mem_vB.2 e));have hz:=hE.size;have hz2:=hb.size;have hz4:=hg.size;have hold:∀b,b<w2.heap.size->gv.ownBlock≠some b->w4.heap[b]?=w2.heap[b]?:=λb h1 h2=>by
  rw[hg.block b (by omega) (λe=>h2 e.symm)];exact hb.block b h1
 have hgP:gv.ownBlock≠some P:=λe=>by have:=hgr P e;omega
 have hrow4:NmsO w4 (P+1) (.slice (some ⟨g,0,none⟩) (G.length+1) c) (G++[x]):=by
  refine hr.push okW (by omega) (w1:=Z) (λb hb'=>?_) (by omega) trivial (λb hb'=>by cases hb') List.nodup_nil hg rfl hat hlt hown;have h1:=hr.rg b hb';rw[hb.block b (by omega)];exact hE.block b h1.2 (by omega)
 have hg1:P+1<=g:=(hrow4.rg g (List.mem_append_left _ (by rw[vB_slice];simp))).1;have hNZ:=hn.lt;have hgN:gv.ownBlock≠some N:=λe=>by have:=hgr N e;omega
 refine⟨⟨?_,?_,?_,?_,λk hk h1 h2=>?_⟩,?_,?_,?_,?_,?_,?_⟩
 ·exact(hg.os.trans hb.os).trans hE.os
 ·exact(hg.tape.trans hb.tape).trans hE.tape
 ·exact(hg.output.trans hb.output).trans hE.output
 ·simp;omega
 ·rw[Below.heap_setCell _ _ _ _ h1,hold k (by omega) h2];exact hE.block k hk h1
 ·refine PS.setGv (gv:=gv) ?_ _;obtain⟨o,c',k0,kc,kc2,kne,kw⟩:=hS.c0;have eP:=hold P (by omega) hgP;have eW:=hold W (by omega) hWG;refine⟨⟨o,c',?_,kc,kc2,kne,λi hi=>⟨?_,?_⟩⟩,?_,?_,λj hj=>?_⟩
  ·rw[World.cell?_of_block (a:=⟨P,0,none⟩) eP];exact k0
  ·rw[World.cell?_of_block (a:=⟨W,o+i*2,none⟩) eW];exact(kw i hi).1
  ·rw[World.cell?_of_block (a:=⟨W,o+i*2+1,none⟩) eW];exact(kw i hi).2
  ·rw[World.cell?_of_block (a:=⟨P,1,none⟩) eP];exact hS.c1
  ·rw[World.cell?_of_block (a:=⟨P,2,none⟩) eP];exact hS.c2
  ·rw[World.frozen?_of_block (a:=⟨P,j,none⟩) eP];exact hS.f j hj
 ·refine NmsO.fr hrow4 (by simp) λb hb'=>?_;rw[vB_slice]at hb';have hbg:b=g:=by simpa using hb'
  exact Below.heap_setCell _ _ _ _ (show b≠P by omega)
 ·rcases hat with h1|h1
  ·exact Or.inl h1
  ·exact Or.inr (by omega)
 ·exact V2.far (V2.of_blk hn (hg.block N hNZ (λe=>hgN e.symm))) (by omega)
 ·exact V2.far (V2.of_blk hrv (hg.block R hrv.lt (λe=>by have:=hgr R e.symm;omega))) (by omega)
 ·rcases hat with h1|h1
  ·have:=hgr g h1;omega
  ·have:=hrv.lt;omega
theorem PS.grown1{P W:Nat}{s:ByteArray}{p nest:Nat}{gv v:Value}{w2 Z w4:World}(h:PS w2 P W s p gv nest)(hb:Below w2.heap.size w2 Z)(hg:Z.grownBy w4 v.ownBlock)(hv:v.ownBlock≠some P):w4.cell? ⟨P,1,none⟩=some gv∧w4.frozen? ⟨P,1,none⟩=false:=by
 have e:w4.heap[P]?=w2.heap[P]?:=by
  rw[hg.block P (Nat.lt_of_lt_of_le h.lt hb.size) (λe=>hv e.symm)];exact hb.block P h.lt
 exact⟨by rw[World.cell?_of_block (a:=⟨P,1,none⟩) e];exact h.c1,by rw[World.frozen?_of_block (a:=⟨P,1,none⟩) e];exact h.f 1 (by omega)⟩
theorem EFo.new{P R j:Nat}{v u:Value}{w w':World}(h:EFo P v w w')(hR:w.heap.size<=R):EFo P v w (w'.setCell ⟨R,j,none⟩ u):=
 ⟨h.os,h.tape,h.output,by have:=h.size;simp;omega,λk hk h1 h2=>by rw[Below.heap_setCell _ _ _ _ (show k≠R by omega)];exact h.block k hk h1 h2⟩
theorem below_drew1{B:Nat}{a w:World}(h:Below B a w):Below B a w.drew:=⟨h.os,h.tape,h.output,h.size,h.block⟩
theorem globalName_any{B w:World}{P W:Nat}{adr:Nat->Addr}{s:ByteArray}{p nest:Nat}{gv:Value}{G:Nms}(hs:s.size<=2000)(hG:G.length<=2000)(hB:PB B w P adr)(h:PS w P W s p gv nest)(hp:p<=s.size)(hr:NmsO w (P+1) gv G)(hWG:gv.ownBlock≠some W):
 Calls Tryz.prog 66 #[.pointer (some ⟨P,0,none⟩)] w λe w'=>GlobRes P W s adr w gv G nest (pNew s (G.map (·.1)) p) e w':=by
 have hPl:=h.lt;have hWl:=h.wlt;have HS:=hid h;obtain⟨gp,gc,rfl⟩:=hr.slice;have HN:=hid (λw1 (hb:Below w.heap.size w w1)=>newName_any' G hs (Nat.le_trans hG (by omega)) (hB.ef (EF.of_below hb)) (h.below hb) hp ((NmsO.nm hr).keep hb));have HR:=hid hr;have HWG:=hid hWG;have c1:=h.c1;obtain⟨ni,hni,hnj⟩:=Option.map_eq_some_iff.1 Tryz.nameI;simp only[Prod.mk.injEq]at hnj;obtain⟨hn0,hn1,hn2⟩:=hnj;have HB0:Hid (∀o,Below w.heap.size w (w.alloc o)):=λo=>(Below.refl _ _).alloc (Nat.le_refl _) _;have HV0:Hid (V2 (w.alloc (.cells #[.string ⟨#[]⟩,.int .i64 0] 91)) w.heap.size (.string ⟨#[]⟩) (.int .i64 0)):=⟨by simp,by simp,by simp,by simp⟩;have HRP:Hid (w.heap.size≠P):=Nat.ne_of_gt hPl;have c1a:=λo=>alloc_old w o _ _ _ c1;have HGP:Hid ((Value.slice gp G.length gc).ownBlock≠some P):=λe=>by
  have:=(hr.rg P (List.mem_append_left _ (mem_vB.2 e))).1;omega
 clear hB h hr hWG;match hx:pNew s (G.map (·.1)) p with
 |.error (c,a)=>
  have HX:=hid hx;clear hx;go_enter Tryz.func66,Tryz.ntmps66;go_upto_region 2 with(first
   |(go_at_call 32;refine(HN.out _ (HB0.out _)).mono ?_;rintro e w2 ⟨hr,hbl⟩;obtain⟨rfl,hE2⟩:=hr.isErr HX.out;have hS2:=(HS.out.below (HB0.out _)).below (hbl c a HX.out);have HE2:=hid ((EF.of_below (E:=P) (HB0.out _)).trans hE2);have HV2:=hid (HV0.out.ef hE2 HRP.out);have HS2:=hid hS2;have k1:=hS2.c1;have k1f:=hS2.f 1 (by omega);have k1a:=λo=>alloc_old w2 o _ _ _ k1;have k1b:=λo o'=>alloc_old (w2.alloc o) o' _ _ _ (k1a o);clear hr hE2 hS2 hbl HN))
  have HZ2:Hid (∀o o',Below w2.heap.size w2 ((w2.alloc o).alloc o')):=λo o'=>((Below.refl _ _).alloc (Nat.le_refl _) _).alloc (by simp) _;go_cut [] (λwx=>∃g c',Hid (GSt P W s (.slice gp G.length gc) G nest p (⟨#[]⟩,0) w wx w2.heap.size w.heap.size g c'))
  case first=>
   go_region_law
    (first
    |(refine step_append_lies _ rfl (.tmp 19) (.tmp 21) 59 rfl 0 91 ni _ 2 24 Tryz.underlying59 hni hn0 hn1 hn2 rfl (by omega) (.slice gp G.length gc) G.length (G.flatMap wC) (by simp[Act.eval];done) (((HR.out.ef okW HE2.out (Nat.lt_succ_self P)).own.alloc _).alloc _) ⟨w2.heap.size+1,0,none⟩ 1 1 [.string (⟨#[]⟩:ByteArray),.int .i64 (0:Int)] (by simp[Act.eval];done) rfl (by have h:=World.news_of_block (heap_alloc_new (w2.alloc (Obj.cells #[.string (⟨#[]⟩:ByteArray),.int .i64 (0:Int)] 91)) (Obj.cells #[.string (⟨#[]⟩:ByteArray),.int .i64 (0:Int)] 91));simpa using h) (by intro u hu;simp at hu;rcases hu with rfl|rfl<;>rfl) (by omega) (by unfold maxLen;omega) (by omega) (Nat.zero_le _) _ rfl ?_;intro g1 c1' w4 hown hgrow hat hlt1;have HM:=hid (GSt.make (x:=(⟨#[]⟩,0)) (N:=w2.heap.size) (R:=w.heap.size) hPl hWl HWG.out HR.out HE2.out HS2.out (V2.keep (w:=w2.alloc (Obj.cells #[.string (⟨#[]⟩:ByteArray),.int .i64 (0:Int)] 91)) ⟨by simp,by simp,by simp,by simp⟩ (by first|exact(Below.refl _ _).alloc (Nat.le_refl _) _|exact below_drew1 ((Below.refl _ _).alloc (Nat.le_refl _) _))) HE2.out.size (HV2.out.keep (by first|exact HZ2.out _ _|exact below_drew1 (HZ2.out _ _))) (Nat.le_refl _) (by first|exact HZ2.out _ _|exact below_drew1 (HZ2.out _ _)) hgrow hat hlt1 hown);obtain⟨u1,u2⟩:=HS2.out.grown1 (by first|exact HZ2.out _ _|exact below_drew1 (HZ2.out _ _)) hgrow HGP.out;clear hown hgrow hat hlt1))
   all_goals
    go_wp2_with fail
    go_meet
    exact⟨_,_,HM⟩
  case rest=>
   rename World=>wx
   obtain⟨g,c',HK⟩:=hcut;obtain⟨n0,n1,n2,n3⟩:=id HK.out.n;obtain⟨r0,r1,r2,r3⟩:=id HK.out.r;go_wp2;obtain⟨s0,s1,-,-⟩:=HK.out.r.put (.string (⟨#[]⟩:ByteArray)) (.int .i64 (0:Int));refine bodyPost_ret (v:=.tuple #[.agg #[.string (⟨#[]⟩:ByteArray),.int .i64 (0:Int)],.iface 66 (pEb adr (kIx c) a)]) (by simp[results,Tryz.results66,go_sem,s0,s1]) rfl ?_;refine⟨(HK.out.ef.new (Nat.le_refl _)).new (Nat.le_refl _),?_⟩;rw[HX.out];rfl
 |.ok (x,q)=>
  have HX:=hid hx;clear hx;go_enter Tryz.func66,Tryz.ntmps66;go_upto_region 2 with(first
   |(go_at_call 32;refine(HN.out _ (HB0.out _)).mono ?_;rintro e w2 ⟨hr,-⟩;obtain⟨v,rfl,hE2,rfl,hq2,hS2⟩:=hr.isOk HX.out;have HE2:=hid ((EF.of_below (E:=P) (HB0.out _)).trans hE2);have HV2:=hid (HV0.out.ef hE2 HRP.out);have HS2:=hid hS2;have k1:=hS2.c1;have k1f:=hS2.f 1 (by omega);have k1a:=λo=>alloc_old w2 o _ _ _ k1;have k1b:=λo o'=>alloc_old (w2.alloc o) o' _ _ _ (k1a o);clear hr hE2 hS2 HN))
  have HZ2:Hid (∀o o',Below w2.heap.size w2 ((w2.alloc o).alloc o')):=λo o'=>((Below.refl _ _).alloc (Nat.le_refl _) _).alloc (by simp) _;go_cut [] (λwx=>∃g c,Hid (GSt P W s (.slice gp G.length gc) G nest q x w wx w2.heap.size w.heap.size g c))
  case first=>
   go_region_law
    (first
    |(refine step_append_lies _ rfl (.tmp 19) (.tmp 21) 59 rfl 0 91 ni _ 2 24 Tryz.underlying59 hni hn0 hn1 hn2 rfl (by omega) (.slice gp G.length gc) G.length (G.flatMap wC) (by simp[Act.eval];done) (((HR.out.ef okW HE2.out (Nat.lt_succ_self P)).own.alloc _).alloc _) ⟨w2.heap.size+1,0,none⟩ 1 1 [.string x.1,.int .i64 (x.2:Int)] (by simp[Act.eval];done) rfl (by have h:=World.news_of_block (heap_alloc_new (w2.alloc (Obj.cells #[.string x.1,.int .i64 (x.2:Int)] 91)) (Obj.cells #[.string x.1,.int .i64 (x.2:Int)] 91));simpa using h) (by intro u hu;simp at hu;rcases hu with rfl|rfl<;>rfl) (by omega) (by unfold maxLen;omega) (by omega) (Nat.zero_le _) _ rfl ?_;intro g1 c1' w4 hown hgrow hat hlt1;have HM:=hid (GSt.make (x:=x) (N:=w2.heap.size) (R:=w.heap.size) hPl hWl HWG.out HR.out HE2.out HS2.out (V2.keep (w:=w2.alloc (Obj.cells #[.string x.1,.int .i64 (x.2:Int)] 91)) ⟨by simp,by simp,by simp,by simp⟩ (by first|exact(Below.refl _ _).alloc (Nat.le_refl _) _|exact below_drew1 ((Below.refl _ _).alloc (Nat.le_refl _) _))) HE2.out.size (HV2.out.keep (by first|exact HZ2.out _ _|exact below_drew1 (HZ2.out _ _))) (Nat.le_refl _) (by first|exact HZ2.out _ _|exact below_drew1 (HZ2.out _ _)) hgrow hat hlt1 hown);obtain⟨u1,u2⟩:=HS2.out.grown1 (by first|exact HZ2.out _ _|exact below_drew1 (HZ2.out _ _)) hgrow HGP.out;clear hown hgrow hat hlt1))
   all_goals
    go_wp2_with fail
    go_meet
    exact⟨_,_,HM⟩
  case rest=>
   rename World=>wx
   obtain⟨g,c,HK⟩:=hcut;obtain⟨n0,n1,n2,n3⟩:=id HK.out.n;obtain⟨r0,r1,r2,r3⟩:=id HK.out.r;go_wp2;obtain⟨s0,s1,-,-⟩:=HK.out.r.put (.string x.1) (.int .i64 (x.2:Int));refine bodyPost_ret (v:=.tuple #[.agg #[.string x.1,.int .i64 (x.2:Int)],.nilIface]) (by simp[results,Tryz.results66,go_sem,s0,s1]) rfl ?_;have hgg:∀b,(Value.slice (some ⟨g,0,none⟩) (G.length+1) c).ownBlock=some b->(Value.slice gp G.length gc).ownBlock=some b∨w.heap.size<=b:=λb e=>by
    have:g=b:=Option.some.inj e;subst this;exact HK.out.at_
   refine⟨(HK.out.ef.new (Nat.le_refl _)).new (Nat.le_refl _),?_⟩;rw[HX.out];refine⟨_,rfl,hq2,(HK.out.ps.far HRP.out (Nat.ne_of_gt hWl)).far HRP.out (Nat.ne_of_gt hWl),?_,hgg⟩;refine NmsO.fr HK.out.row (by simp) λb hb'=>?_;rw[vB_slice]at hb';have hbg:b=g:=by simpa using hb'
   have hne:=HK.out.ne;rw[Below.heap_setCell _ _ _ _ (show b≠w.heap.size by omega),Below.heap_setCell _ _ _ _ (show b≠w.heap.size by omega)]
end Go.Proofs.YtlanckgcjijefaaGreatDoor
