import Derived.Test.YtahmgjjgikgpoaaGreatDoorSsJ
import Derived.Lib.AppendIntMem
import Derived.Laws.BytesArg
namespace Go.Proofs.YtahmgjjgikgpoaaGreatDoor
open Go.RowKit Go.Sort
theorem row_nt{w:World}{b1 b2 e1 e2 s1 s2 n1 n2:Nat}{v1 v2:Value}{x1 x2:List Value}(h1:w.ownsRow b1 e1 s1 v1 n1 x1)(h2:w.ownsRow b2 e2 s2 v2 n2 x2)(he:e1≠e2)(g:Nat)(hg:g∈vB v1):g∉vB v2:=by
 intro hg2;rcases h1.2 with⟨rfl,-⟩|⟨g1,c1,cur1,rfl,-,k1,-⟩
 ·cases hg
 rcases h2.2 with⟨rfl,-⟩|⟨g2,c2,cur2,rfl,-,k2,-⟩
 ·cases hg2
 obtain rfl:=List.mem_singleton.1 hg;obtain rfl:=List.mem_singleton.1 hg2;rw[k1]at k2;simp only[Option.some.injEq,Obj.cells.injEq]at k2;exact he k2.2.1
theorem IntB.ne_row{w:World}{lo e size n b:Nat}{v:Value}{xs:List Value}(h:w.ownsRow lo e size v n xs)(he:e≠3)(hb:b∈vB v):¬IntB w b:=by
 rcases h.2 with⟨rfl,-⟩|⟨g,cap,cur,rfl,_,hg,_⟩
 ·cases hb
 ·obtain rfl:=List.mem_singleton.1 hb;rintro⟨C,f,hC⟩;rw[hg]at hC;simp only[Option.some.injEq,Obj.cells.injEq]at hC;exact he hC.2.1
theorem PtX.frI{X Y:Nat->Prop}{w w':World}{v:Value}{l:List Int}(h:PtX X w v l)(hX:∀b,X b->IntB w b->b<w.heap.size->Y b∧w'.heap[b]?=w.heap[b]?):PtX Y w' v l:=by
 obtain⟨p,cap,e,hc⟩:=h;refine⟨p,cap,e,λi hi=>?_⟩;obtain⟨b,o,hx,e2,h0⟩:=hc i hi;obtain⟨k1,k2⟩:=hX b hx.1 hx.2 (block_lt_of_cell h0);obtain⟨C,f,hC⟩:=hx.2;exact⟨b,o,⟨k1,C,f,k2.trans hC⟩,e2,cell_same k2 h0⟩
theorem RM.apart{lo:Nat}{w w':World}{M Ib:Nat}{st:ASt}{B X:List Nat}(h:RM lo w M Ib st B)(hA:AG X w w')(hX:∀b∈X,b∉B∧¬IntB w b):RM lo w' M Ib st B:=by
 have hl:=h.lts;obtain⟨cs,ds,cv,sv,dv,h,rfl⟩:=h;have hs:∀b∈rB M cv sv dv ds,w'.heap[b]?=w.heap[b]?:=λb hb=>hA.block b (hl b hb) λhm=>(hX b hm).1 hb;have hf:∀v,(∀b∈vB v,b∈vB cv++(vB sv++(vB dv++dB ds)))->Fr (vB v) w w':=λv hv b hb=>hs b (List.mem_cons_of_mem _ (hv b hb));exact⟨cs,ds,cv,sv,dv,⟨h.m.of_block (hs M (List.mem_cons_self ..)) hA.size,row_fr h.cl (hf cv λb hb=>List.mem_append_left _ hb),λx hx=>(h.fl x hx).frI λb hb hi hbl=>⟨hb,hA.block b hbl λhm=>(hX b hm).2 hi⟩,row_fr h.sk (hf sv λb hb=>List.mem_append_right _ (List.mem_append_left _ hb)),row_fr h.dp (hf dv λb hb=>List.mem_append_right _ (List.mem_append_right _ (List.mem_append_left _ hb))),λx hx=>row_fr (h.dk x hx) (hf x.2 λb hb=>List.mem_append_right _ (List.mem_append_right _ (List.mem_append_right _ (List.mem_flatMap.2 ⟨x,hx,hb⟩)))),h.hcs,h.hds,h.nd,h.ml⟩,rfl⟩
def OthB(w:World)(b:Nat):Prop:=∃C e,w.heap[b]?=some (.cells C e (0,0))∧e≠3
theorem OthB.not{w:World}{b:Nat}(h:OthB w b):¬IntB w b:=by
 obtain⟨C,e,h1,h2⟩:=h;rintro⟨C',f,h3⟩;rw[h1]at h3;simp only[Option.some.injEq,Obj.cells.injEq]at h3;exact h2 h3.2.1
theorem OthB.same{w w':World}{b:Nat}(h:OthB w b)(e:w'.heap[b]?=w.heap[b]?):OthB w' b:=by
 obtain⟨C,t,h1,h2⟩:=h;exact⟨C,t,e.trans h1,h2⟩
theorem OthB.set{w:World}{b c j:Nat}(h:OthB w b)(u:Value):OthB (w.setCell ⟨c,j,none⟩ u) b:=by
 by_cases e:b=c
 ·subst e;obtain⟨C,t,h1,h2⟩:=h;exact⟨_,t,heap_setCell_same w b j C t u h1,h2⟩
 ·exact h.same (Below.heap_setCell _ _ _ _ e)
def tdC(p:TD):List Value:=[.string ⟨p.1.toArray⟩,.int .i64 p.2]
def tdR(L:List TD):List Value:=L.reverse.flatMap tdC
structure TlI (lo M Ib:Nat) (B:List Nat) (w:World) (E:List Nat) (a:ASt) (t:List UInt8) (L:List TD) (ov tv:Value) (wr:World):Prop where
 ag:AG B w wr
 r:∃B',RM lo wr M Ib a B'∧(∀b∈B',b∈B∨w.heap.size<=b)∧(∀b∈vB ov,b∉B')∧(∀b∈vB tv,b∉B')∧(∀b∈E,b∉B')
 o:wr.ownsRow w.heap.size 5 1 ov t.length (btC t)
 d:wr.ownsRow w.heap.size 125 2 tv L.length (tdR L)
 ex:∀b∈E,(w.heap.size<=b∧b<wr.heap.size)∧(b∉vB ov∧b∉vB tv)∧OthB wr b
section
variable {lo M Ib:Nat} {B E:List Nat} {w wr X:World} {a:ASt} {t:List UInt8} {L:List TD} {ov tv:Value}
theorem TlI.keep(h:TlI lo M Ib B w E a t L ov tv wr)(hX:Below wr.heap.size wr X):TlI lo M Ib B w E a t L ov tv X:=by
 obtain⟨B',h1,h2,h3⟩:=h.r;exact⟨h.ag.then hX,⟨B',h1.keep hX,h2,h3⟩,row_kp h.o hX,row_kp h.d hX,λb hb=>by
  obtain⟨k1,k2,k3⟩:=h.ex b hb;exact⟨⟨k1.1,Nat.lt_of_lt_of_le k1.2 hX.size⟩,k2,k3.same (hX.block b k1.2)⟩⟩
theorem TlI.more(h:TlI lo M Ib B w E a t L ov tv wr){C:Array Value}{e:TypeId}(he:e≠3):TlI lo M Ib B w (wr.heap.size::E) a t L ov tv (wr.alloc (.cells C e)):=by
 have hb:Below wr.heap.size wr (wr.alloc (.cells C e)):=(Below.refl _ _).alloc (Nat.le_refl _) _;have h':=h.keep hb;obtain⟨B',h1,h2,h3,h4,h5⟩:=h.r;refine⟨h'.ag,⟨B',h1.keep hb,h2,h3,h4,λb hm=>?_⟩,h'.o,h'.d,λb hm=>?_⟩
 ·rcases List.mem_cons.1 hm with rfl|hm
  ·intro hx;have:=h1.lts _ hx;omega
  ·exact h5 b hm
 ·rcases List.mem_cons.1 hm with rfl|hm
  ·refine⟨⟨h.ag.size,by simp⟩,⟨λhx=>?_,λhx=>?_⟩,C,e,heap_alloc_new wr _,he⟩
   ·have:=(own_lo h.o hx).2;omega
   ·have:=(own_lo h.d hx).2;omega
  ·exact h'.ex b hm
theorem TlI.call(h:TlI lo M Ib B w E a t L ov tv wr):∃B',RM lo wr M Ib a B'∧∀a' e r X,RRes lo M Ib B' wr a' r e X->TlI lo M Ib B w E a' t L ov tv X∧∀b∈E,X.heap[b]?=wr.heap[b]?:=by
 obtain⟨B',h1,h2,h3,h4,h5⟩:=h.r;refine⟨B',h1,λa' e r X ⟨_,hA,B2,hM,hB⟩=>?_⟩;have hE:∀b∈E,X.heap[b]?=wr.heap[b]?:=λb hb=>hA.block b (h.ex b hb).1.2 (h5 b hb);have hn:∀b,b<wr.heap.size->b∉B'->b∉B2:=λb hb hx hm=>by
  rcases hB b hm with h6|h6
  ·exact hx h6
  ·omega
 refine⟨⟨h.ag.trans hA h2,⟨B2,hM,λb hb=>(hB b hb).elim (h2 b) λh6=>Or.inr (Nat.le_trans h.ag.size h6),λb hb=>hn b (own_lo h.o hb).2 (h3 b hb),λb hb=>hn b (own_lo h.d hb).2 (h4 b hb),λb hb=>hn b (h.ex b hb).1.2 (h5 b hb)⟩,row_fr h.o λb hb=>hA.block b (own_lo h.o hb).2 (h3 b hb),row_fr h.d λb hb=>hA.block b (own_lo h.d hb).2 (h4 b hb),λb hb=>?_⟩,hE⟩;obtain⟨k1,k2,k3⟩:=h.ex b hb;exact⟨⟨k1.1,Nat.lt_of_lt_of_le k1.2 hA.size⟩,k2,k3.same (hE b hb)⟩
theorem TlI.setE(h:TlI lo M Ib B w E a t L ov tv wr){b j:Nat}(hb:b∈E)(u:Value):TlI lo M Ib B w E a t L ov tv (wr.setCell ⟨b,j,none⟩ u):=by
 obtain⟨B',h1,h2,h3,h4,h5⟩:=h.r;obtain⟨k1,k2,k3⟩:=h.ex b hb;have hA:AG [b] wr (wr.setCell ⟨b,j,none⟩ u):=(AG.refl _ _).set (Or.inl (List.mem_singleton.2 rfl)) u;have hne:∀c,c≠b->(wr.setCell ⟨b,j,none⟩ u).heap[c]?=wr.heap[c]?:=λc hc=>Below.heap_setCell _ _ _ _ hc;refine⟨h.ag.set (Or.inr k1.1) u,⟨B',h1.apart hA λc hc=>?_,h2,h3,h4,h5⟩,row_fr h.o λc hc=>hne c λe=>k2.1 (e▸hc),row_fr h.d λc hc=>hne c λe=>k2.2 (e▸hc),λc hc=>?_⟩
 ·rw[List.mem_singleton.1 hc];exact⟨h5 b hb,k3.not⟩
 ·obtain⟨q1,q2,q3⟩:=h.ex c hc;exact⟨⟨q1.1,by simpa using q1.2⟩,q2,q3.set u⟩
theorem tdR_cons(p:TD)(L:List TD):tdR (p::L)=tdR L++tdC p:=by simp[tdR]
theorem tdR_len(L:List TD):(tdR L).length=L.length*2:=by
 induction L with
 |nil=>rfl
 |cons p L ih=>rw[tdR_cons,List.length_append,ih,List.length_cons];show _+2=_;omega
theorem TlI.top{p:TD}(h:TlI lo M Ib B w E a t (p::L) ov tv wr):∃g c,tv=.slice (some ⟨g,0,none⟩) (L.length+1) c∧L.length+1<=c∧wr.cell? ⟨g,L.length*2,none⟩=some (.string ⟨p.1.toArray⟩)∧wr.cell? ⟨g,L.length*2+1,none⟩=some (.int .i64 p.2)∧TlI lo M Ib B w E a t L ov (.slice (some ⟨g,0,none⟩) L.length c) wr:=by
 have hd:=h.d;rcases hd.2 with⟨-,h2⟩|⟨g,cap,cur,hv,-,-,h4,-⟩
 ·simp at h2
 ·subst hv;have h0:=hd.cellAt (L.length*2) (by rw[List.length_cons];omega);have h1:=hd.cellAt (L.length*2+1) (by rw[List.length_cons];omega);have hl:=tdR_len L;rw[tdR_cons,List.getElem?_append_right (by omega),hl]at h0 h1;refine⟨g,cap,rfl,h4,by rw[h0];simp[tdC],by rw[h1];simp[tdC],?_⟩;have ht:=owns_tk hd (m:=L.length) (by simp);rw[tdR_cons,List.take_left' hl]at ht;obtain⟨B',h1,h2,h3,h4,h5⟩:=h.r;exact⟨h.ag,⟨B',h1,h2,h3,h4,h5⟩,h.o,ht,h.ex⟩
theorem TlI.said(h:TlI lo M Ib B w E a t L ov tv wr){w2:World}{v':Value}{s:List UInt8}(hown:w2.ownsRow w.heap.size 5 1 v' (t++s).length (btC (t++s)))(hg:wr.grownBy w2 ov.ownBlock)(hat:∀b,v'.ownBlock=some b->ov.ownBlock=some b∨wr.heap.size<=b):TlI lo M Ib B w E a (t++s) L v' tv w2:=by
 obtain⟨B',h1,h2,h3,h4,h5⟩:=h.r;have hA:AG (vB ov) wr w2:=AG.append (Below.refl _ _) hg;have hod:∀b∈vB tv,b∉vB ov:=λb hb hm=>row_nt h.d h.o (by decide) b hb hm;refine⟨h.ag.trans hA λb hb=>Or.inr (own_lo h.o hb).1,⟨B',h1.apart hA λb hb=>⟨h3 b hb,IntB.ne_row h.o (by decide) hb⟩,h2,λb hb hm=>?_,h4,h5⟩,hown,row_fr h.d λb hb=>hA.block b (own_lo h.d hb).2 (hod b hb),λb hb=>?_⟩
 ·rcases hat b (mem_vB.1 hb) with e|e
  ·exact h3 b (mem_vB.2 e) hm
  ·have:=h1.lts b hm;omega
 ·obtain⟨k1,k2,k3⟩:=h.ex b hb;refine⟨⟨k1.1,Nat.lt_of_lt_of_le k1.2 hA.size⟩,⟨λhm=>?_,k2.2⟩,k3.same (hA.block b k1.2 k2.1)⟩;rcases hat b (mem_vB.1 hm) with e|e
  ·exact k2.1 (mem_vB.2 e)
  ·omega
theorem TlI.push(h:TlI lo M Ib B w E a t L ov tv wr){w2:World}{v':Value}{N:List TD}(hown:w2.ownsRow w.heap.size 125 2 v' (N++L).length (tdR (N++L)))(hg:wr.grownBy w2 tv.ownBlock)(hat:v'.ownBlock=tv.ownBlock∨v'.ownBlock=some wr.heap.size):TlI lo M Ib B w E a t (N++L) ov v' w2:=by
 obtain⟨B',h1,h2,h3,h4,h5⟩:=h.r;have hA:AG (vB tv) wr w2:=AG.append (Below.refl _ _) hg;have hat:∀b∈vB v',b∈vB tv∨wr.heap.size<=b:=λb hb=>by
  have hb':=mem_vB.1 hb;rcases hat with e|e
  ·rw[e]at hb';exact Or.inl (mem_vB.2 hb')
  ·rw[e]at hb';cases hb';exact Or.inr (Nat.le_refl _)
 have hod:∀b∈vB ov,b∉vB tv:=λb hb hm=>row_nt h.o h.d (by decide) b hb hm;refine⟨h.ag.trans hA λb hb=>Or.inr (own_lo h.d hb).1,⟨B',h1.apart hA λb hb=>⟨h4 b hb,IntB.ne_row h.d (by decide) hb⟩,h2,h3,λb hb hm=>?_,h5⟩,row_fr h.o λb hb=>hA.block b (own_lo h.o hb).2 (hod b hb),hown,λb hb=>?_⟩
 ·rcases hat b hb with e|e
  ·exact h4 b e hm
  ·have:=h1.lts b hm;omega
 ·obtain⟨k1,k2,k3⟩:=h.ex b hb;refine⟨⟨k1.1,Nat.lt_of_lt_of_le k1.2 hA.size⟩,⟨k2.1,λhm=>?_⟩,k3.same (hA.block b k1.2 k2.2)⟩;rcases hat b hm with e|e
  ·exact k2.2 e
  ·omega
theorem TlI.res(h:TlI lo M Ib B w E a t L ov tv wr)(r:Value):RRes lo M Ib B w a r (.returned r) wr:=by
 obtain⟨B',h1,h2,-⟩:=h.r;exact⟨rfl,h.ag,B',h1,h2⟩
theorem TlI.less(h:TlI lo M Ib B w E a t L ov tv wr){F:List Nat}(hF:∀b∈F,b∈E):TlI lo M Ib B w F a t L ov tv wr:=by
 obtain⟨B',h1,h2,h3,h4,h5⟩:=h.r;exact⟨h.ag,⟨B',h1,h2,h3,h4,λb hb=>h5 b (hF b hb)⟩,h.o,h.d,λb hb=>h.ex b (hF b hb)⟩
theorem TlI.start(h:RM lo w M Ib a B)(c:Int):TlI lo M Ib B w [] a [] [([],c)] (.slice none 0 0) (.slice (some ⟨w.heap.size,0,none⟩) 1 1) (w.alloc (.cells #[.string ⟨#[]⟩,.int .i64 c] 125)):=by
 have hb:Below w.heap.size w (w.alloc (.cells #[.string ⟨#[]⟩,.int .i64 c] 125)):=(Below.refl _ _).alloc (Nat.le_refl _) _;refine⟨AG.of_below hb,⟨B,h.keep hb,λb hb=>Or.inl hb,λb hb=>(by cases hb),λb hb hm=>?_,λb hb=>(by cases hb)⟩,⟨rfl,Or.inl ⟨rfl,rfl⟩⟩,World.ownsRow_lit w #[.string ⟨#[]⟩,.int .i64 c] 1 (Nat.le_refl _) (by decide) rfl,λb hb=>(by cases hb)⟩;rw[List.mem_singleton.1 hb]at hm;exact Nat.lt_irrefl _ (h.lts _ hm)
end
def slN:Value->Nat
 |.slice _ n _=>n
 |_=>0
theorem conv_row{w:World}{lo:Nat}{v:Value}{t:List UInt8}(h:w.ownsRow lo 5 1 v t.length (btC t)):(convert 121 9 v).run Tryz.prog w=.ok (.string ⟨t.toArray⟩) w:=by
 rcases h.2 with⟨rfl,h2⟩|⟨g,cap,cur,rfl,-,-,h4,-⟩
 ·obtain rfl:t=[]:=List.length_eq_zero_iff.1 h2;exact run_convert_bytes_nil (P:=Tryz.prog) w _ 5 Tryz.underlying121 Tryz.underlying5 0 0 _ Tryz.underlying9
 ·exact run_convert_bytes_back (P:=Tryz.prog) w 121 9 5 ⟨g,0,none⟩ cap t Tryz.underlying121 Tryz.underlying5 Tryz.underlying9 (λj hj=>by
   have:=h.cellAt j (by omega);rw[show(⟨g,0,none⟩:Addr).add j=⟨g,j,none⟩ from by unfold Addr.add;simp;intro h;exact h.symm,this];unfold btC;rw[List.getElem?_map,List.getElem?_eq_getElem hj];rfl)
theorem RM.cellR{lo:Nat}{w:World}{M Ib:Nat}{st:ASt}{B:List Nat}(h:RM lo w M Ib st B){r:Nat}(hr:r<st.cells.length):∃(cg cc:Nat) (pp:Option Addr) (pn pc:Nat),w.cell? ⟨M,1,none⟩=some (.slice (some ⟨cg,0,none⟩) st.cells.length cc)∧w.cell? ⟨cg,r*3,none⟩=some (.int .u8 (kByte st.cells[r].kind))∧w.cell? ⟨cg,r*3+1,none⟩=some (.int .i64 (cN st.cells[r]))∧w.cell? ⟨cg,r*3+2,none⟩=some (.slice pp pn pc)∧PtX (λ_=>True) w (.slice pp pn pc) (cP st.cells[r]):=by
 obtain⟨cs,ds,cv,sv,dv,h,rfl⟩:=h;obtain⟨cg,cc,pp,pn,pc,rfl,c0,c1,c2,hp⟩:=h.cellAt (r:=r) hr;exact⟨cg,cc,pp,pn,pc,h.m.at 1 rfl,c0,c1,c2,hp.fr λ_ _ _=>⟨trivial,rfl⟩⟩
theorem PtX.apart{w w':World}{v:Value}{l:List Int}{Y:List Nat}(h:PtX (λ_=>True) w v l)(hA:AG Y w w')(hY:∀b∈Y,¬IntB w b):PtX (λ_=>True) w' v l:=h.frI λb _ hi hb=>⟨trivial,hA.block b hb λhm=>hY b hm hi⟩
def TlK(lo M Ib:Nat)(B:List Nat)(w:World)(tb xb:Nat)(a:ASt)(t:List UInt8)(P:List Int)(L:List TD)(ov kv nv pv:Value)(s:List UInt8)(j:Nat)(v6:Value)(wx:World):Prop:=
 TlI lo M Ib B w [xb,tb] a t (tFl (P.drop j)++([41],-1)::L) ov v6 wx∧C3 wx xb kv nv pv∧PtX (λ_=>True) wx pv P∧wx.cell? ⟨tb,0,none⟩=some (.string ⟨s.toArray⟩)
theorem TlI.pushK{lo M Ib:Nat}{B:List Nat}{w wx:World}{tb xb:Nat}{a:ASt}{t:List UInt8}{P:List Int}{L N:List TD}{ov v6 kv nv pv:Value}{s:List UInt8}{w2:World}{v':Value}{o:Obj}(h:TlI lo M Ib B w [xb,tb] a t L ov v6 wx)(hC:C3 wx xb kv nv pv)(hP:PtX (λ_=>True) wx pv P)(hS:wx.cell? ⟨tb,0,none⟩=some (.string ⟨s.toArray⟩))(hown:w2.ownsRow w.heap.size 125 2 v' (N++L).length (tdR (N++L)))(hg:(wx.alloc o).grownBy w2 v6.ownBlock)(hat:v'.ownBlock=v6.ownBlock∨v'.ownBlock=some (wx.alloc o).heap.size):TlI lo M Ib B w [xb,tb] a t (N++L) ov v' w2∧C3 w2 xb kv nv pv∧PtX (λ_=>True) w2 pv P∧w2.cell? ⟨tb,0,none⟩=some (.string ⟨s.toArray⟩):=by
 have hb:Below wx.heap.size wx (wx.alloc o):=(Below.refl _ _).alloc (Nat.le_refl _) _;have h':=h.keep hb;have hA:AG (vB v6) wx w2:=AG.append hb hg;have hx:=(h.ex xb (by simp)).2.1.2;have ht:=h.ex tb (by simp);exact⟨h'.push hown hg hat,hC.ag hA hx,hP.apart hA λb hm=>IntB.ne_row h.d (by decide) hm,cell_same (hA.block tb ht.1.2 ht.2.1.2) hS⟩
theorem TlK.next{lo M Ib:Nat}{B:List Nat}{w wx:World}{tb xb:Nat}{a:ASt}{t:List UInt8}{P:List Int}{L:List TD}{ov kv nv pv v6:Value}{s:List UInt8}{j:Nat}(h:TlK lo M Ib B w tb xb a t P L ov kv nv pv s (j+1) v6 wx)(hj:j<P.length){w2:World}{v':Value}{o:Obj}{n:Nat}{xs:List Value}(hn:n=2*(P.length-(j+1))+1+L.length)(hx:xs=tdR (tFl (P.drop (j+1))++([41],-1)::L))(hown:w2.ownsRow w.heap.size 125 2 v' (n+2) (xs++[.string ⟨#[]⟩,.int .i64 P[j],.string ⟨#[32]⟩,.int .i64 (-1)]))(hg:(wx.alloc o).grownBy w2 v6.ownBlock)(hat:v'.ownBlock=v6.ownBlock∨v'.ownBlock=some (wx.alloc o).heap.size):TlK lo M Ib B w tb xb a t P L ov kv nv pv s j v' w2:=by
 obtain⟨h1,h2,h3,h4⟩:=h;have e:tFl (P.drop j)++([41],-1)::L=[([32],-1),([],P[j])]++(tFl (P.drop (j+1))++([41],-1)::L):=by
  rw[List.drop_eq_getElem_cons hj];rfl
 unfold TlK;rw[e];refine h1.pushK h2 h3 h4 ?_ hg hat;have e2:([([32],-1),([],P[j])]++(tFl (P.drop (j+1))++([41],-1)::L)).length=n+2:=by
  rw[hn];simp only[List.length_append,tFl_len,List.length_drop,List.length_cons,List.length_nil];omega
 rw[e2];have e3:tdR ([([32],-1),([],P[j])]++(tFl (P.drop (j+1))++([41],-1)::L))=xs++[.string ⟨#[]⟩,.int .i64 P[j],.string ⟨#[32]⟩,.int .i64 (-1)]:=by
  rw[hx];show tdR (_::_::_)=_;rw[tdR_cons,tdR_cons,List.append_assoc];rfl
 rw[e3];exact hown
end Go.Proofs.YtahmgjjgikgpoaaGreatDoor
