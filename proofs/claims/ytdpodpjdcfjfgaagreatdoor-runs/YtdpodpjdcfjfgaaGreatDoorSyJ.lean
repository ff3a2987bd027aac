import Derived.Laws.BytesArg
import Derived.Test.YtdpodpjdcfjfgaaGreatDoorStJ
set_option maxRecDepth 100000
set_option maxHeartbeats 8000000
namespace Go.Proofs.YtdpodpjdcfjfgaaGreatDoor
open Go.RowKit Go.Sort
theorem row_nt{w:World}{b1 b2 e1 e2 s1 s2 n1 n2:Nat}{v1 v2:Value}{x1 x2:List Value}(h1:w.ownsRow b1 e1 s1 v1 n1 x1)(h2:w.ownsRow b2 e2 s2 v2 n2 x2)(he:e1≠e2)(g:Nat)(hg:g∈vB v1):g∉vB v2:=by
 intro hg2;rcases h1.2 with⟨rfl,-⟩|⟨g1,c1,cur1,rfl,-,k1,-⟩
 ·cases hg
 rcases h2.2 with⟨rfl,-⟩|⟨g2,c2,cur2,rfl,-,k2,-⟩
 ·cases hg2
 obtain rfl:=List.mem_singleton.1 hg;obtain rfl:=List.mem_singleton.1 hg2;rw[k1]at k2;simp only[Option.some.injEq,Obj.cells.injEq]at k2;exact he k2.2.1
theorem IntB.ne_row{w:World}{lo e size n b:Nat}{v:Value}{xs:List Value}(h:w.ownsRow lo e size v n xs)(he:e≠3)(hb:b∈vB v):¬IntB w b:=by
 rcases h.2 with⟨rfl,-⟩|⟨g,cap,cur,rfl,_,hg,_⟩
 ·cases hb
 ·obtain rfl:=List.mem_singleton.1 hb;rintro⟨C,f,hC⟩;rw[hg]at hC;simp only[Option.some.injEq,Obj.cells.injEq]at hC;exact he hC.2.1
theorem PtX.frI{X Y:Nat->Prop}{w w':World}{v:Value}{l:List Int}(h:PtX X w v l)(hX:∀b,X b->IntB w b->b<w.heap.size->Y b∧w'.heap[b]?=w.heap[b]?):PtX Y w' v l:=by
 obtain⟨p,cap,e,hc⟩:=h;refine⟨p,cap,e,λi hi=>?_⟩;obtain⟨b,o,hx,e2,h0⟩:=hc i hi;obtain⟨k1,k2⟩:=hX b hx.1 hx.2 (block_lt_of_cell h0);obtain⟨C,f,hC⟩:=hx.2;exact⟨b,o,⟨k1,C,f,k2.trans hC⟩,e2,cell_same k2 h0⟩
theorem RM.apart{lo:Nat}{w w':World}{M Ib:Nat}{st:ASt}{B X:List Nat}(h:RM lo w M Ib st B)(hA:AG X w w')(hX:∀b∈X,b∉B∧¬IntB w b):RM lo w' M Ib st B:=by
 have hl:=h.lts;obtain⟨cs,ds,cv,sv,dv,h,rfl⟩:=h;have hs:∀b∈rB M cv sv dv ds,w'.heap[b]?=w.heap[b]?:=λb hb=>hA.block b (hl b hb) λhm=>(hX b hm).1 hb;have hf:∀v,(∀b∈vB v,b∈vB cv++(vB sv++(vB dv++dB ds)))->Fr (vB v) w w':=λv hv b hb=>hs b (List.mem_cons_of_mem _ (hv b hb));exact⟨cs,ds,cv,sv,dv,⟨h.m.of_block (hs M (List.mem_cons_self ..)) hA.size,row_fr h.cl (hf cv λb hb=>List.mem_append_left _ hb),λx hx=>(h.fl x hx).frI λb hb hi hbl=>⟨hb,hA.block b hbl λhm=>(hX b hm).2 hi⟩,row_fr h.sk (hf sv λb hb=>List.mem_append_right _ (List.mem_append_left _ hb)),row_fr h.dp (hf dv λb hb=>List.mem_append_right _ (List.mem_append_right _ (List.mem_append_left _ hb))),λx hx=>row_fr (h.dk x hx) (hf x.2 λb hb=>List.mem_append_right _ (List.mem_append_right _ (List.mem_append_right _ (List.mem_flatMap.2 ⟨x,hx,hb⟩)))),h.hcs,h.hds,h.nd,h.ml⟩,rfl⟩
def OthB(w:World)(b:Nat):Prop:=∃C e,w.heap[b]?=some (.cells C e (0,0))∧e≠3
theorem OthB.not{w:World}{b:Nat}(h:OthB w b):¬IntB w b:=by
 obtain⟨C,e,h1,h2⟩:=h;rintro⟨C',f,h3⟩;rw[h1]at h3;simp only[Option.some.injEq,Obj.cells.injEq]at h3;exact h2 h3.2.1
theorem OthB.same{w w':World}{b:Nat}(h:OthB w b)(e:w'.heap[b]?=w.heap[b]?):OthB w' b:=by
 obtain⟨C,t,h1,h2⟩:=h;exact⟨C,t,e.trans h1,h2⟩
theorem OthB.set{w:World}{b c j:Nat}(h:OthB w b)(u:Value):OthB (w.setCell ⟨c,j,none⟩ u) b:=by
 by_cases e:b=c
 ·subst e;obtain⟨C,t,h1,h2⟩:=h;exact⟨_,t,heap_setCell_same w b j C t u h1,h2⟩
 ·exact h.same (Below.heap_setCell _ _ _ _ e)
def tdC(p:TD):List Value:=[.string ⟨p.1.toArray⟩,.int .i64 p.2]
def tdR(L:List TD):List Value:=L.reverse.flatMap tdC
structure TlI (lo M Ib:Nat) (B:List Nat) (w:World) (E:List Nat) (a:ASt) (t:List UInt8) (L:List TD) (ov tv:Value) (wr:World):Prop where
 ag:AG B w wr
 r:∃B',RM lo wr M Ib a B'∧(∀b∈B',b∈B∨w.heap.size<=b)∧(∀b∈vB ov,b∉B')∧(∀b∈vB tv,b∉B')∧(∀b∈E,b∉B')
 o:wr.ownsRow w.heap.size 5 1 ov t.length (btC t)
 d:wr.ownsRow w.heap.size 254 2 tv L.length (tdR L)
 ex:∀b∈E,(w.heap.size<=b∧b<wr.heap.size)∧(b∉vB ov∧b∉vB tv)∧OthB wr b
section
variable {lo M Ib:Nat} {B E:List Nat} {w wr X:World} {a:ASt} {t:List UInt8} {L:List TD} {ov tv:Value}
theorem TlI.keep(h:TlI lo M Ib B w E a t L ov tv wr)(hX:Below wr.heap.size wr X):TlI lo M Ib B w E a t L ov tv X:=by
 obtain⟨B',h1,h2,h3⟩:=h.r;exact⟨h.ag.then hX,⟨B',h1.keep hX,h2,h3⟩,row_kp h.o hX,row_kp h.d hX,λb hb=>by
  obtain⟨k1,k2,k3⟩:=h.ex b hb;exact⟨⟨k1.1,Nat.lt_of_lt_of_le k1.2 hX.size⟩,k2,k3.same (hX.block b k1.2)⟩⟩
theorem TlI.more(h:TlI lo M Ib B w E a t L ov tv wr){C:Array Value}{e:TypeId}(he:e≠3):TlI lo M Ib B w (wr.heap.size::E) a t L ov tv (wr.alloc (.cells C e)):=by
 have hb:Below wr.heap.size wr (wr.alloc (.cells C e)):=(Below.refl _ _).alloc (Nat.le_refl _) _;have h':=h.keep hb;obtain⟨B',h1,h2,h3,h4,h5⟩:=h.r;refine⟨h'.ag,⟨B',h1.keep hb,h2,h3,h4,λb hm=>?_⟩,h'.o,h'.d,λb hm=>?_⟩
 ·rcases List.mem_cons.1 hm with rfl|hm
  ·intro hx;have:=h1.lts _ hx;omega
  ·exact h5 b hm
 ·rcases List.mem_cons.1 hm with rfl|hm
  ·refine⟨⟨h.ag.size,by simp⟩,⟨λhx=>?_,λhx=>?_⟩,C,e,heap_alloc_new wr _,he⟩
   ·have:=(own_lo h.o hx).2;omega
   ·have:=(own_lo h.d hx).2;omega
  ·exact h'.ex b hm
theorem TlI.call(h:TlI lo M Ib B w E a t L ov tv wr):∃B',RM lo wr M Ib a B'∧∀a' e r X,RRes lo M Ib B' wr a' r e X->TlI lo M Ib B w E a' t L ov tv X∧∀b∈E,X.heap[b]?=wr.heap[b]?:=by
 obtain⟨B',h1,h2,h3,h4,h5⟩:=h.r;refine⟨B',h1,λa' e r X ⟨_,hA,B2,hM,hB⟩=>?_⟩;have hE:∀b∈E,X.heap[b]?=wr.heap[b]?:=λb hb=>hA.block b (h.ex b hb).1.2 (h5 b hb);have hn:∀b,b<wr.heap.size->b∉B'->b∉B2:=λb hb hx hm=>by
  rcases hB b hm with h6|h6
  ·exact hx h6
  ·omega
 refine⟨⟨h.ag.trans hA h2,⟨B2,hM,λb hb=>(hB b hb).elim (h2 b) λh6=>Or.inr (Nat.le_trans h.ag.size h6),λb hb=>hn b (own_lo h.o hb).2 (h3 b hb),λb hb=>hn b (own_lo h.d hb).2 (h4 b hb),λb hb=>hn b (h.ex b hb).1.2 (h5 b hb)⟩,row_fr h.o λb hb=>hA.block b (own_lo h.o hb).2 (h3 b hb),row_fr h.d λb hb=>hA.block b (own_lo h.d hb).2 (h4 b hb),λb hb=>?_⟩,hE⟩;obtain⟨k1,k2,k3⟩:=h.ex b hb;exact⟨⟨k1.1,Nat.lt_of_lt_of_le k1.2 hA.size⟩,k2,k3.same (hE b hb)⟩
theorem TlI.setE(h:TlI lo M Ib B w E a t L ov tv wr){b j:Nat}(hb:b∈E)(u:Value):TlI lo M Ib B w E a t L ov tv (wr.setCell ⟨b,j,none⟩ u):=by
 obtain⟨B',h1,h2,h3,h4,h5⟩:=h.r;obtain⟨k1,k2,k3⟩:=h.ex b hb;have hA:AG [b] wr (wr.setCell ⟨b,j,none⟩ u):=(AG.refl _ _).set (Or.inl (List.mem_singleton.2 rfl)) u;have hne:∀c,c≠b->(wr.setCell ⟨b,j,none⟩ u).heap[c]?=wr.heap[c]?:=λc hc=>Below.heap_setCell _ _ _ _ hc;refine⟨h.ag.set (Or.inr k1.1) u,⟨B',h1.apart hA λc hc=>?_,h2,h3,h4,h5⟩,row_fr h.o λc hc=>hne c λe=>k2.1 (e▸hc),row_fr h.d λc hc=>hne c λe=>k2.2 (e▸hc),λc hc=>?_⟩
 ·rw[List.mem_singleton.1 hc];exact⟨h5 b hb,k3.not⟩
 ·obtain⟨q1,q2,q3⟩:=h.ex c hc;exact⟨⟨q1.1,by simpa using q1.2⟩,q2,q3.set u⟩
theorem tdR_cons(p:TD)(L:List TD):tdR (p::L)=tdR L++tdC p:=by simp[tdR]
theorem tdR_len(L:List TD):(tdR L).length=L.length*2:=by
 induction L with
 |nil=>rfl
 |cons p L ih=>rw[tdR_cons,List.length_append,ih,List.length_cons];show _+2=_;omega
theorem TlI.top{p:TD}(h:TlI lo M Ib B w E a t (p::L) ov tv wr):∃g c,tv=.slice (some ⟨g,0,none⟩) (L.length+1) c∧L.length+1<=c∧wr.cell? ⟨g,L.length*2,none⟩=some (.string ⟨p.1.toArray⟩)∧wr.cell? ⟨g,L.length*2+1,none⟩=some (.int .i64 p.2)∧TlI lo M Ib B w E a t L ov (.slice (some ⟨g,0,none⟩) L.length c) wr:=by
 have hd:=h.d;rcases hd.2 with⟨-,h2⟩|⟨g,cap,cur,hv,-,-,h4,-⟩
 ·simp at h2
 ·subst hv;have h0:=hd.cellAt (L.length*2) (by rw[List.length_cons];omega);have h1:=hd.cellAt (L.length*2+1) (by rw[List.length_cons];omega);have hl:=tdR_len L;rw[tdR_cons,List.getElem?_append_right (by omega),hl]at h0 h1;refine⟨g,cap,rfl,h4,by rw[h0];simp[tdC],by rw[h1];simp[tdC],?_⟩;have ht:=owns_tk hd (m:=L.length) (by simp);rw[tdR_cons,List.take_left' hl]at ht;obtain⟨B',h1,h2,h3,h4,h5⟩:=h.r;exact⟨h.ag,⟨B',h1,h2,h3,h4,h5⟩,h.o,ht,h.ex⟩
theorem TlI.said(h:TlI lo M Ib B w E a t L ov tv wr){w2:World}{v':Value}{s:List UInt8}(hown:w2.ownsRow w.heap.size 5 1 v' (t++s).length (btC (t++s)))(hg:wr.grownBy w2 ov.ownBlock)(hat:∀b,v'.ownBlock=some b->ov.ownBlock=some b∨wr.heap.size<=b):TlI lo M Ib B w E a (t++s) L v' tv w2:=by
 obtain⟨B',h1,h2,h3,h4,h5⟩:=h.r;have hA:AG (vB ov) wr w2:=AG.append (Below.refl _ _) hg;have hod:∀b∈vB tv,b∉vB ov:=λb hb hm=>row_nt h.d h.o (by decide) b hb hm;refine⟨h.ag.trans hA λb hb=>Or.inr (own_lo h.o hb).1,⟨B',h1.apart hA λb hb=>⟨h3 b hb,IntB.ne_row h.o (by decide) hb⟩,h2,λb hb hm=>?_,h4,h5⟩,hown,row_fr h.d λb hb=>hA.block b (own_lo h.d hb).2 (hod b hb),λb hb=>?_⟩
 ·rcases hat b (mem_vB.1 hb) with e|e
  ·exact h3 b (mem_vB.2 e) hm
  ·have:=h1.lts b hm;omega
 ·obtain⟨k1,k2,k3⟩:=h.ex b hb;refine⟨⟨k1.1,Nat.lt_of_lt_of_le k1.2 hA.size⟩,⟨λhm=>?_,k2.2⟩,k3.same (hA.block b k1.2 k2.1)⟩;rcases hat b (mem_vB.1 hm) with e|e
  ·exact k2.1 (mem_vB.2 e)
  ·omega
theorem TlI.push(h:TlI lo M Ib B w E a t L ov tv wr){w2:World}{v':Value}{N:List TD}(hown:w2.ownsRow w.heap.size 254 2 v' (N++L).length (tdR (N++L)))(hg:wr.grownBy w2 tv.ownBlock)(hat:v'.ownBlock=tv.ownBlock∨v'.ownBlock=some wr.heap.size):TlI lo M Ib B w E a t (N++L) ov v' w2:=by
 obtain⟨B',h1,h2,h3,h4,h5⟩:=h.r;have hA:AG (vB tv) wr w2:=AG.append (Below.refl _ _) hg;have hat:∀b∈vB v',b∈vB tv∨wr.heap.size<=b:=λb hb=>by
  have hb':=mem_vB.1 hb;rcases hat with e|e
  ·rw[e]at hb';exact Or.inl (mem_vB.2 hb')
  ·rw[e]at hb';cases hb';exact Or.inr (Nat.le_refl _)
 have hod:∀b∈vB ov,b∉vB tv:=λb hb hm=>row_nt h.o h.d (by decide) b hb hm;refine⟨h.ag.trans hA λb hb=>Or.inr (own_lo h.d hb).1,⟨B',h1.apart hA λb hb=>⟨h4 b hb,IntB.ne_row h.d (by decide) hb⟩,h2,h3,λb hb hm=>?_,h5⟩,row_fr h.o λb hb=>hA.block b (own_lo h.o hb).2 (hod b hb),hown,λb hb=>?_⟩
 ·rcases hat b hb with e|e
  ·exact h4 b e hm
  ·have:=h1.lts b hm;omega
 ·obtain⟨k1,k2,k3⟩:=h.ex b hb;refine⟨⟨k1.1,Nat.lt_of_lt_of_le k1.2 hA.size⟩,⟨k2.1,λhm=>?_⟩,k3.same (hA.block b k1.2 k2.2)⟩;rcases hat b hm with e|e
  ·exact k2.2 e
  ·omega
theorem TlI.res(h:TlI lo M Ib B w E a t L ov tv wr)(r:Value):RRes lo M Ib B w a r (.returned r) wr:=by
 obtain⟨B',h1,h2,-⟩:=h.r;exact⟨rfl,h.ag,B',h1,h2⟩
theorem TlI.less(h:TlI lo M Ib B w E a t L ov tv wr){F:List Nat}(hF:∀b∈F,b∈E):TlI lo M Ib B w F a t L ov tv wr:=by
 obtain⟨B',h1,h2,h3,h4,h5⟩:=h.r;exact⟨h.ag,⟨B',h1,h2,h3,h4,λb hb=>h5 b (hF b hb)⟩,h.o,h.d,λb hb=>h.ex b (hF b hb)⟩
theorem TlI.start(h:RM lo w M Ib a B)(c:Int):TlI lo M Ib B w [] a [] [([],c)] (.slice none 0 0) (.slice (some ⟨w.heap.size,0,none⟩) 1 1) (w.alloc (.cells #[.string ⟨#[]⟩,.int .i64 c] 254)):=by
 have hb:Below w.heap.size w (w.alloc (.cells #[.string ⟨#[]⟩,.int .i64 c] 254)):=(Below.refl _ _).alloc (Nat.le_refl _) _;refine⟨AG.of_below hb,⟨B,h.keep hb,λb hb=>Or.inl hb,λb hb=>(by cases hb),λb hb hm=>?_,λb hb=>(by cases hb)⟩,⟨rfl,Or.inl ⟨rfl,rfl⟩⟩,World.ownsRow_lit w #[.string ⟨#[]⟩,.int .i64 c] 1 (Nat.le_refl _) (by decide) rfl,λb hb=>(by cases hb)⟩;rw[List.mem_singleton.1 hb]at hm;exact Nat.lt_irrefl _ (h.lts _ hm)
end
def slN:Value->Nat
 |.slice _ n _=>n
 |_=>0
theorem conv_row{w:World}{lo:Nat}{v:Value}{t:List UInt8}(h:w.ownsRow lo 5 1 v t.length (btC t)):(convert 88 9 v).run Tryz.prog w=.ok (.string ⟨t.toArray⟩) w:=by
 rcases h.2 with⟨rfl,h2⟩|⟨g,cap,cur,rfl,-,-,h4,-⟩
 ·obtain rfl:t=[]:=List.length_eq_zero_iff.1 h2;exact run_convert_bytes_nil (P:=Tryz.prog) w _ 5 Tryz.underlying88 Tryz.underlying5 0 0 _ Tryz.underlying9
 ·exact run_convert_bytes_back (P:=Tryz.prog) w 88 9 5 ⟨g,0,none⟩ cap t Tryz.underlying88 Tryz.underlying5 Tryz.underlying9 (λj hj=>by
   have:=h.cellAt j (by omega);rw[show(⟨g,0,none⟩:Addr).add j=⟨g,j,none⟩ from by unfold Addr.add;simp;intro h;exact h.symm,this];unfold btC;rw[List.getElem?_map,List.getElem?_eq_getElem hj];rfl)
theorem RM.cellR{lo:Nat}{w:World}{M Ib:Nat}{st:ASt}{B:List Nat}(h:RM lo w M Ib st B){r:Nat}(hr:r<st.cells.length):∃(cg cc:Nat) (pp:Option Addr) (pn pc:Nat),w.cell? ⟨M,1,none⟩=some (.slice (some ⟨cg,0,none⟩) st.cells.length cc)∧w.cell? ⟨cg,r*3,none⟩=some (.int .u8 (kByte st.cells[r].kind))∧w.cell? ⟨cg,r*3+1,none⟩=some (.int .i64 (cN st.cells[r]))∧w.cell? ⟨cg,r*3+2,none⟩=some (.slice pp pn pc)∧PtX (λ_=>True) w (.slice pp pn pc) (cP st.cells[r]):=by
 obtain⟨cs,ds,cv,sv,dv,h,rfl⟩:=h;obtain⟨cg,cc,pp,pn,pc,rfl,c0,c1,c2,hp⟩:=h.cellAt (r:=r) hr;exact⟨cg,cc,pp,pn,pc,h.m.at 1 rfl,c0,c1,c2,hp.fr λ_ _ _=>⟨trivial,rfl⟩⟩
theorem PtX.apart{w w':World}{v:Value}{l:List Int}{Y:List Nat}(h:PtX (λ_=>True) w v l)(hA:AG Y w w')(hY:∀b∈Y,¬IntB w b):PtX (λ_=>True) w' v l:=h.frI λb _ hi hb=>⟨trivial,hA.block b hb λhm=>hY b hm hi⟩
def TlK(lo M Ib:Nat)(B:List Nat)(w:World)(tb xb:Nat)(a:ASt)(t:List UInt8)(P:List Int)(L:List TD)(ov kv nv pv:Value)(s:List UInt8)(j:Nat)(v6:Value)(wx:World):Prop:=
 TlI lo M Ib B w [xb,tb] a t (tFl (P.drop j)++([41],-1)::L) ov v6 wx∧C3 wx xb kv nv pv∧PtX (λ_=>True) wx pv P∧wx.cell? ⟨tb,0,none⟩=some (.string ⟨s.toArray⟩)
theorem TlI.pushK{lo M Ib:Nat}{B:List Nat}{w wx:World}{tb xb:Nat}{a:ASt}{t:List UInt8}{P:List Int}{L N:List TD}{ov v6 kv nv pv:Value}{s:List UInt8}{w2:World}{v':Value}{o:Obj}(h:TlI lo M Ib B w [xb,tb] a t L ov v6 wx)(hC:C3 wx xb kv nv pv)(hP:PtX (λ_=>True) wx pv P)(hS:wx.cell? ⟨tb,0,none⟩=some (.string ⟨s.toArray⟩))(hown:w2.ownsRow w.heap.size 254 2 v' (N++L).length (tdR (N++L)))(hg:(wx.alloc o).grownBy w2 v6.ownBlock)(hat:v'.ownBlock=v6.ownBlock∨v'.ownBlock=some (wx.alloc o).heap.size):TlI lo M Ib B w [xb,tb] a t (N++L) ov v' w2∧C3 w2 xb kv nv pv∧PtX (λ_=>True) w2 pv P∧w2.cell? ⟨tb,0,none⟩=some (.string ⟨s.toArray⟩):=by
 have hb:Below wx.heap.size wx (wx.alloc o):=(Below.refl _ _).alloc (Nat.le_refl _) _;have h':=h.keep hb;have hA:AG (vB v6) wx w2:=AG.append hb hg;have hx:=(h.ex xb (by simp)).2.1.2;have ht:=h.ex tb (by simp);exact⟨h'.push hown hg hat,hC.ag hA hx,hP.apart hA λb hm=>IntB.ne_row h.d (by decide) hm,cell_same (hA.block tb ht.1.2 ht.2.1.2) hS⟩
theorem TlK.next{lo M Ib:Nat}{B:List Nat}{w wx:World}{tb xb:Nat}{a:ASt}{t:List UInt8}{P:List Int}{L:List TD}{ov kv nv pv v6:Value}{s:List UInt8}{j:Nat}(h:TlK lo M Ib B w tb xb a t P L ov kv nv pv s (j+1) v6 wx)(hj:j<P.length){w2:World}{v':Value}{o:Obj}{n:Nat}{xs:List Value}(hn:n=2*(P.length-(j+1))+1+L.length)(hx:xs=tdR (tFl (P.drop (j+1))++([41],-1)::L))(hown:w2.ownsRow w.heap.size 254 2 v' (n+2) (xs++[.string ⟨#[]⟩,.int .i64 P[j],.string ⟨#[32]⟩,.int .i64 (-1)]))(hg:(wx.alloc o).grownBy w2 v6.ownBlock)(hat:v'.ownBlock=v6.ownBlock∨v'.ownBlock=some (wx.alloc o).heap.size):TlK lo M Ib B w tb xb a t P L ov kv nv pv s j v' w2:=by
 obtain⟨h1,h2,h3,h4⟩:=h;have e:tFl (P.drop j)++([41],-1)::L=[([32],-1),([],P[j])]++(tFl (P.drop (j+1))++([41],-1)::L):=by
  rw[List.drop_eq_getElem_cons hj];rfl
 unfold TlK;rw[e];refine h1.pushK h2 h3 h4 ?_ hg hat;have e2:([([32],-1),([],P[j])]++(tFl (P.drop (j+1))++([41],-1)::L)).length=n+2:=by
  rw[hn];simp only[List.length_append,tFl_len,List.length_drop,List.length_cons,List.length_nil];omega
 rw[e2];have e3:tdR ([([32],-1),([],P[j])]++(tFl (P.drop (j+1))++([41],-1)::L))=xs++[.string ⟨#[]⟩,.int .i64 P[j],.string ⟨#[32]⟩,.int .i64 (-1)]:=by
  rw[hx];show tdR (_::_::_)=_;rw[tdR_cons,tdR_cons,List.append_assoc];rfl
 rw[e3];exact hown
theorem btC_app'(t s:List UInt8):btC (t++s)=btC t++Lib.strCells ⟨s.toArray⟩:=by
 rw[btC_app];rfl
theorem cat40(l:List UInt8):(⟨#[40]⟩:ByteArray)++⟨l.toArray⟩=⟨(40::l).toArray⟩:=by
 apply ByteArray.ext;rw[ByteArray.data_append];simp
theorem Tryz.todoK:(Tryz.prog.info? 254).map (λi=>(i.zero,i.size,i.bytes))=some (some (.agg #[.string ⟨#[]⟩,.int .i64 0]),2,24):=by kernel_rfl
def TlJ(lo M Ib:Nat)(gs:List LGlob)(B:List Nat)(w:World)(R:TRes)(v5 v6:Value)(wr:World):Prop:=
 ∃a t L op oc tp tc,v5=.slice op t.length oc∧v6=.slice tp L.length tc∧Hid (TlI lo M Ib B w [] a t L v5 v6 wr)∧Hid (WfB gs a∧TdOk L a)∧Hid (R=tEnd gs L a t)∧t.length<=2000∧Hid (L.length+512*mu a<=1100000000∧∀p∈L,p.1.length<=1)
theorem rTell_any{lo:Nat}{w:World}{M Ib:Nat}{st:ASt}{B:List Nat}{gs:List LGlob}{D:Nat->Nat->Int}{v1:Value}(hG:ImgOk gs D)(hW:WfB gs st)(h:RM lo w M Ib st B)(hI:ImR lo w Ib gs v1)(htab:Lib.TabBelow Tryz.prog lo w "internal/strconv.uint64pow10" .u64 Lib.pow10Tab)(c:Int)(hc:0<=c∧c<(st.cells.length:Int)):
 Calls Tryz.prog 66 #[.pointer (some ⟨M,0,none⟩),.int .i64 c] w λe w'=>RRes lo M Ib B w (tEnd gs [([],c)] st []).1 (.string ⟨((tEnd gs [([],c)] st []).2.getD []).toArray⟩) e w':=by
 obtain⟨ii,hii,hij⟩:=Option.map_eq_some_iff.1 Tryz.byteJ;simp only[Prod.mk.injEq]at hij;obtain⟨hi0,hi1,hi2⟩:=hij;obtain⟨ti,hti,htj⟩:=Option.map_eq_some_iff.1 Tryz.todoK;simp only[Prod.mk.injEq]at htj;obtain⟨ht0,ht1,ht2⟩:=htj;obtain⟨R,hR⟩:∃R,tEnd gs [([],c)] st []=R:=⟨_,rfl⟩;rw[hR];have HG:=hid hG;have HIM:Hid (∀X,AG B w X->ImR lo X Ib gs v1):=λX hX=>hI.low (hX.low h.lows.2 h.lows.1);have HTB:Hid (∀X,AG B w X->Lib.TabIs Tryz.prog X "internal/strconv.uint64pow10" .u64 Lib.pow10Tab):=λX hX=>htab X (hX.low h.lows.2 h.lows.1);have HJ0:Hid (TlJ lo M Ib gs B w R (.slice none 0 0) (.slice (some ⟨w.heap.size,0,none⟩) 1 1) (w.alloc (.cells #[.string ⟨#[]⟩,.int .i64 c] 254))):=⟨st,[],[([],c)],_,_,_,_,rfl,rfl,TlI.start h c,⟨hW,λp hp=>by rw[List.mem_singleton.1 hp];exact hc.2⟩,hR.symm,by simp,by
  have h1:=hW.steps;have h2:=hW.fuel;show 1+512*mu st<=_;unfold mu;omega,λp hp=>by rw[List.mem_singleton.1 hp];exact Nat.zero_le _⟩
 clear h hW hG hI htab hR hc;go_enter Tryz.func66,Tryz.ntmps66;go_upto_region 3 with fail
 go_loopw [5,6] (λv5 v6 wr=>TlJ lo M Ib gs B w R v5 v6 wr) (λ_ v6 wr=>1000*rmu M wr+slN v6)
 case atStart=>exact HJ0.out
 case round=>
  rename World=>wr
  clear HJ0;obtain⟨a,t,L,op,oc,tp,tc,rfl,rfl,HT,HWF,HR,htl,HLB⟩:=hrel;cases L with
  |nil=>
   have hcv:=conv_row HT.out.o;have HX:=hid (HR.out.trans (tEnd_nil a t));have HRR:=hid (HT.out.res (.string ⟨t.toArray⟩));clear HR HWF HLB;go_wp2;go_ret;rw[HX.out];exact HRR.out
  |cons p L=>
   obtain⟨s,c⟩:=p;obtain⟨g,cap,e,hcap,hs0,hs1,hT2⟩:=HT.out.top;cases e;have hLl:L.length<=1100000000:=by have:=HLB.out.1;rw[List.length_cons]at this;omega
   have hsl:s.length<=1:=HLB.out.2 _ (List.mem_cons_self ..);have HPS:Hid (∀p∈L,p.1.length<=1):=λp hp=>HLB.out.2 p (List.mem_cons_of_mem _ hp);have HL':Hid (L.length+1+512*mu a<=1100000000):=HLB.out.1;obtain⟨N,hN⟩:∃N,L.length=N:=⟨_,rfl⟩;have HN:=hid hN;rw[hN]at hcap hs0 hs1 hT2 hLl;rw[show((s,c)::L).length=N+1 by rw[<-hN];rfl]at HT ⊢;have hmu:=HT.out.r;have HMU:Hid (rmu M wr=mu a):=by
    obtain⟨B',h1,-⟩:=hmu;exact h1.mu
   have HTM:=hid (hT2.more (C:=#[.string ⟨s.toArray⟩,.int .i64 c]) (e:=254) (by decide));obtain⟨W0,hW0⟩:∃W0,wr.alloc (.cells #[.string ⟨s.toArray⟩,.int .i64 c] 254)=W0:=⟨_,rfl⟩;have hC2:W0.cell? ⟨wr.heap.size,0,none⟩=some (.string ⟨s.toArray⟩)∧W0.cell? ⟨wr.heap.size,1,none⟩=some (.int .i64 c):=by
    rw[<-hW0];exact⟨alloc_cell wr #[.string ⟨s.toArray⟩,.int .i64 c] _ 0 _ rfl,alloc_cell wr #[.string ⟨s.toArray⟩,.int .i64 c] _ 1 _ rfl⟩
   obtain⟨q0,q1⟩:=hC2;have HQB:Hid (∀X:World,X.heap[wr.heap.size]?=W0.heap[wr.heap.size]?->X.cell? ⟨wr.heap.size,0,none⟩=some (.string ⟨s.toArray⟩)∧X.frozen? ⟨wr.heap.size,0,none⟩=false):=λX hX=>⟨cell_same hX q0,frozen_of_row X wr.heap.size 0 #[.string ⟨s.toArray⟩,.int .i64 c] 254 (by rw[hX,<-hW0];exact heap_alloc_new wr _)⟩;rw[hW0]at HTM;clear hN hmu hT2 HT HLB;go_upto_if 31 with fail
   go_cut [6] (λv6 wx=>∃a1 s1 L1 tp1 tc1,v6=.slice tp1 L1.length tc1∧Hid (TlI lo M Ib B w [wr.heap.size] a1 t L1 (.slice op t.length oc) v6 wx)∧wx.cell? ⟨wr.heap.size,0,none⟩=some (.string ⟨s1.toArray⟩)∧Hid (WfB gs a1∧TdOk L1 a1)∧Hid (R=tSay s1 a1 t λt'=>tEnd gs L1 a1 t')∧s1.length<=100∧Hid (L1.length+512*mu a1<=1100000000∧∀p∈L1,p.1.length<=1)∧Hid (1000*mu a1+L1.length<1000*mu a+(N+1)))
   case first=>
    by_cases h0:0<=c
    ·have hclt:=HWF.out.2 _ (List.mem_cons_self ..);have hLE:=aWork_le (gs:=gs) c (show LeF a from HWF.out.1.steps.2);obtain⟨-,hRO,-⟩:=aWork_end HG.out HWF.out.1 ⟨h0,hclt⟩;have HCE:=hid (HR.out.trans (tEnd_cell HG.out HWF.out.1 HWF.out.2 h0));have HWK:Hid (Calls Tryz.prog 114 #[.pointer (some ⟨M,0,none⟩),.int .i64 c] W0 λe w1=>e=.returned (.int .i64 (vZ (aWork gs c a).2))∧Hid (TlI lo M Ib B w [wr.heap.size] (aWork gs c a).1 t L (.slice op t.length oc) (.slice (some ⟨g,0,none⟩) N tc) w1)∧Hid (w1.heap[wr.heap.size]?=W0.heap[wr.heap.size]?)):=by
      obtain⟨B0,hM0,hcall⟩:=HTM.out.call;refine(rWork_any HG.out HWF.out.1 hM0 (HIM.out _ HTM.out.ag) c ⟨h0,hclt⟩).mono λe w1 hr=>?_;have he:=hr.1;exact⟨he,(hcall _ _ _ _ hr).1,(hcall _ _ _ _ hr).2 _ (List.mem_singleton.2 rfl)⟩
     have hsp:-1000000000000<=(aWork gs c a).1.steps∧(aWork gs c a).1.steps<=1000000000000:=by
      have h1:=HWF.out.1.steps;have h2:=HWF.out.1.fuel;have h3:=hRO.1;unfold LeF at hLE;omega
     have HST:Hid (∀X,TlI lo M Ib B w [wr.heap.size] (aWork gs c a).1 t L (.slice op t.length oc) (.slice (some ⟨g,0,none⟩) N tc) X->X.heap[wr.heap.size]?=W0.heap[wr.heap.size]?->Calls Tryz.prog 115 #[.pointer (some ⟨M,0,none⟩)] X λe w1=>e=.returned (.bool (rStepB (aWork gs c a).1))∧Hid (TlI lo M Ib B w [wr.heap.size] (rStepS (aWork gs c a).1) t L (.slice op t.length oc) (.slice (some ⟨g,0,none⟩) N tc) w1)∧Hid (w1.heap[wr.heap.size]?=W0.heap[wr.heap.size]?)):=λX hX hX2=>by
      obtain⟨B0,hM0,hcall⟩:=hX.call;refine(rStep_any hM0 hsp).mono λe w1 hr=>?_;have he:=hr.1;exact⟨he,(hcall _ _ _ _ hr).1,((hcall _ _ _ _ hr).2 _ (List.mem_singleton.2 rfl)).trans hX2⟩
     rcases tVal_ok HG.out HWF.out.1 ⟨h0,hclt⟩ with⟨x,v,ew,hsb,hv0,hv1,hx,etv,hW1,hcl,hmu,hck⟩|⟨etv,hsb,hee⟩
     ·have e2:rStepS (aWork gs c a).1=(tVal gs c a).1:=by
       rw[rStepS_yes hsb];unfold tVal;simp only[hsb,if_true]
      have ec:(tVal gs c a).1.cells=(aWork gs c a).1.cells:=by rw[<-e2,rStepS_cl]
      have ev:(aWork gs c a).2=some v:=by rw[ew]
      rw[hsb,e2]at HST;rw[ev]at HWK;rw[etv]at HCE;simp only[vZ]at HWK HCE;rw[<-ec]at hv1;have hTM:=HWF.out.2.more hck hcl;obtain⟨r,rfl⟩:∃r:Nat,v=(r:Int):=⟨v.toNat,by omega⟩;have hr:r<(tVal gs c a).1.cells.length:=by omega
      have hxr:x=(tVal gs c a).1.cells[r]:=by
       rw[hx];unfold cAt;rw[<-ec,Int.toNat_natCast,List.getElem?_eq_getElem hr];rfl
      have HXR:=hid hxr;clear hxr;generalize (aWork gs c a).1=aw at*;generalize (tVal gs c a).1=a2 at*;clear ew ev etv hLE hRO hsp hx HTM ec e2;go_upto_region 11 with(first
       |(go_at_call 114;refine HWK.out.mono ?_;rintro e w1 ⟨rfl,HT1,HE1⟩;have HS1:=hid (HST.out w1 HT1.out HE1.out);clear HWK HST)
       |(go_at_call 115;refine HS1.out.mono ?_;rintro e w2 ⟨rfl,HT2,HE2⟩;clear HS1 HT1 HE1))
      obtain⟨cg,cc,pp,pn,pc,m1,c0,c1,c2,hpt⟩:∃(cg cc:Nat) (pp:Option Addr) (pn pc:Nat),w2.cell? ⟨M,1,none⟩=some (.slice (some ⟨cg,0,none⟩) a2.cells.length cc)∧w2.cell? ⟨cg,r*3,none⟩=some (.int .u8 (kByte x.kind))∧w2.cell? ⟨cg,r*3+1,none⟩=some (.int .i64 (cN x))∧w2.cell? ⟨cg,r*3+2,none⟩=some (.slice pp pn pc)∧PtX (λ_=>True) w2 (.slice pp pn pc) (cP x):=by
       obtain⟨B2,hM2,-⟩:=HT2.out.r;obtain⟨cg,cc,pp,pn,pc,k1,k2,k3,k4,k5⟩:=hM2.cellR hr;rw[<-HXR.out]at k2 k3 k5;exact⟨cg,cc,pp,pn,pc,k1,k2,k3,k4,k5⟩
      obtain⟨W4,hW4⟩:∃W4,w2.alloc (.cells #[.int .u8 (kByte x.kind),.int .i64 (cN x),.slice pp pn pc] 170)=W4:=⟨_,rfl⟩;have hb4:Below w2.heap.size w2 W4:=by rw[<-hW4];exact(Below.refl _ _).alloc (Nat.le_refl _) _
      have HT4:Hid (TlI lo M Ib B w [w2.heap.size,wr.heap.size] a2 t L (.slice op t.length oc) (.slice (some ⟨g,0,none⟩) N tc) W4):=by show TlI _ _ _ _ _ _ _ _ _ _ _ _;rw[<-hW4];exact HT2.out.more (by decide)
      have HC4:Hid (C3 W4 w2.heap.size (.int .u8 (kByte x.kind)) (.int .i64 (cN x)) (.slice pp pn pc)):=by show C3 _ _ _ _ _;rw[<-hW4];exact C3.new w2 _ _ _ _
      have htb:wr.heap.size<w2.heap.size:=(HT2.out.ex _ (List.mem_singleton.2 rfl)).1.2;have HE4:Hid (W4.heap[wr.heap.size]?=W0.heap[wr.heap.size]?):=(hb4.block _ htb).trans HE2.out;have HP4:Hid (PtX (λ_=>True) W4 (.slice pp pn pc) (cP x)):=hpt.fr λb h1 h2=>⟨h1,hb4.block b h2⟩;have t4:(r:Int)<(a2.cells.length:Int):=by omega
      have kb1:=kB1 x.kind hck.k;have kb3:=kB3 x.kind hck.k;have hxn:=hck.n;have HIT:Hid (∀X,Below W4.heap.size W4 X->Calls Tryz.prog 41 #[.int .i64 x.n] X λe w'=>e=.returned (.string ⟨(Lib.itoa x.n).toArray⟩)∧Hid (Below W4.heap.size W4 w')):=λX hX=>(itoa_any x.n hxn.1 hxn.2 X (HTB.out X (HT4.out.ag.then hX))).mono λe w' ⟨he,k,os,hw⟩=>⟨he,by rw[hw];exact hX.trans (Lib.below_grow _ _ hX.size k os)⟩;have hil:=Lib.itoa_length_le x.n hxn.1 hxn.2;have HSTO:Hid (∀X s1,Below W4.heap.size W4 X->(X.cell? ⟨wr.heap.size,0,none⟩=some (.string ⟨s.toArray⟩)∧X.frozen? ⟨wr.heap.size,0,none⟩=false)∧Hid (TlI lo M Ib B w [w2.heap.size,wr.heap.size] a2 t L (.slice op t.length oc) (.slice (some ⟨g,0,none⟩) N tc) (X.setCell ⟨wr.heap.size,0,none⟩ (.string s1))∧C3 (X.setCell ⟨wr.heap.size,0,none⟩ (.string s1)) w2.heap.size (.int .u8 (kByte x.kind)) (.int .i64 (cN x)) (.slice pp pn pc)∧PtX (λ_=>True) (X.setCell ⟨wr.heap.size,0,none⟩ (.string s1)) (.slice pp pn pc) (cP x))∧(X.setCell ⟨wr.heap.size,0,none⟩ (.string s1)).cell? ⟨wr.heap.size,0,none⟩=some (.string s1)):=λX s1 hX=>by
       have hlt4:wr.heap.size<W4.heap.size:=Nat.lt_of_lt_of_le htb hb4.size;have hq:=HQB.out X ((hX.block _ hlt4).trans HE4.out);have hTX:=HT4.out.keep hX;have hA:AG [wr.heap.size] X (X.setCell ⟨wr.heap.size,0,none⟩ (.string s1)):=(AG.refl _ _).set (Or.inl (List.mem_singleton.2 rfl)) _;refine⟨hq,⟨hTX.setE (by simp) _,(HC4.out.keep hX).ag hA (by simp;omega),(HP4.out.fr λb h1 h2=>⟨h1,hX.block b h2⟩).apart hA λb hb=>?_⟩,World.cell?_setCell_same _ _ _ hq.1⟩;rw[List.mem_singleton.1 hb];exact(hTX.ex _ (by simp)).2.2.not
      clear hpt;go_upto_region 12 with fail
      clear c0 c1 c2 m1 hW4 hb4 t4 HXR hr hv0 hv1;obtain⟨x0,x1,x2,-⟩:=HC4.out;have HBB:Hid (∀n,n<=511->n+N+512*mu a2<=1100000000∧1000*mu a2+(n+N)<1000*mu a+(N+1)):=λn hn=>by
       have h1:=HL'.out;have h2:=HN.out;omega
      have HFI:Hid (WfB gs a2∧TdOk (tMore x++L) a2):=⟨hW1,hTM⟩;have HML:=hid (tMore_len hck);clear hW1 hTM hck hcl hmu HT2 HE2 HT4 HL';by_cases hk1:x.kind=1
      ·have hb:=kb1.2 hk1;have hcn:cN x=x.n:=by simp[cN,hk1]
       have HPI:Hid (tPiece x=Lib.itoa x.n):=by show _=_;unfold tPiece;rw[if_pos hk1]
       have HMO:Hid (tMore x=[]):=by show _=_;unfold tMore;rw[if_neg (by omega)]
       rw[hb]at x0 HSTO;rw[hcn]at x1;have HI4:=hid (HIT.out W4 (Below.refl _ _));clear kb1 kb3 hb hk1 HIT;go_wp2_with (first
        |(go_at_call 41;refine HI4.out.mono ?_;rintro e w5 ⟨rfl,HB5⟩;obtain⟨⟨z0,zf⟩,HTX,z1⟩:=HSTO.out w5 ⟨(Lib.itoa x.n).toArray⟩ HB5.out;clear HI4))
       go_meet
       refine⟨a2,Lib.itoa x.n,L,_,_,by rw[HN.out],HTX.out.1.less (λb hb=>List.mem_cons_of_mem _ hb),z1,⟨HFI.out.1,by have:=HFI.out.2;rw[HMO.out]at this;exact this⟩,by show _=_;rw[HCE.out,HPI.out,HMO.out];rfl,by omega,⟨by have:=(HBB.out 0 (by omega)).1;rw[HN.out];omega,HPS.out⟩,by have:=(HBB.out 0 (by omega)).2;show _<_;rw[HN.out];omega⟩
      ·by_cases hk3:x.kind=3
       ·have hb:=kb3.2 hk3;have hcn:cN x=x.n:=by simp[cN,hk3]
        rw[hb]at x0 HSTO;rw[hcn]at x1 HSTO;have HI4:=hid (HIT.out W4 (Below.refl _ _));clear kb1 kb3 hb HIT;go_upto_region 18 with(first
         |(go_at_call 41;refine HI4.out.mono ?_;rintro e w5 ⟨rfl,HB5⟩;obtain⟨⟨z0,zf⟩,HTX,z1⟩:=HSTO.out w5 ⟨(40::Lib.itoa x.n).toArray⟩ HB5.out;clear HI4))
        rw[cat40 (Lib.itoa x.n)];obtain⟨W6,hW6⟩:∃W6,w5.setCell ⟨wr.heap.size,0,none⟩ (.string ⟨(40::Lib.itoa x.n).toArray⟩)=W6:=⟨_,rfl⟩;rw[hW6]at HTX z1 ⊢;obtain⟨P,hP⟩:∃P,x.fields.reverse=P:=⟨_,rfl⟩;have ecp:cP x=P:=by rw[<-hP];simp[cP,hk3]
        have HPI:Hid (tPiece x=40::Lib.itoa x.n):=by show _=_;unfold tPiece;rw[if_neg hk1,if_pos hk3]
        have HMO:Hid (tMore x=tFl P++[([41],-1)]):=by show _=_;unfold tMore;rw[if_pos hk3,hP]
        rw[ecp]at HTX;have hpn:pn=P.length:=by
         obtain⟨-,-,p,cap,e,-⟩:=HTX.out;cases e;rfl
        subst hpn;have hPl:P.length<=255:=by
         have h1:=HML.out;rw[HMO.out,List.length_append,tFl_len]at h1;simp at h1;omega
        have HD6:Hid (W6.ownsRow w.heap.size 254 2 (.slice (some ⟨g,0,none⟩) N tc) N (tdR L)):=by
         have:=HTX.out.1.d;rw[HN.out]at this;exact this
        have hz6:w.heap.size<=W6.heap.size:=HTX.out.1.ag.size;have HNX:Hid (∀p c7 w7,w7.ownsRow w.heap.size 254 2 (.slice p (N+1) c7) (N+1) (tdR L++[.string ⟨#[41]⟩,.int .i64 (-1)])->(W6.alloc (.cells #[.string ⟨#[41]⟩,.int .i64 (-1)] 254)).grownBy w7 (Value.slice (some ⟨g,0,none⟩) N tc).ownBlock->((Value.slice p (N+1) c7).ownBlock=(Value.slice (some ⟨g,0,none⟩) N tc).ownBlock∨(Value.slice p (N+1) c7).ownBlock=some (W6.alloc (.cells #[.string ⟨#[41]⟩,.int .i64 (-1)] 254)).heap.size)->Hid (TlK lo M Ib B w wr.heap.size w2.heap.size a2 t P L (.slice op t.length oc) (.int .u8 114) (.int .i64 x.n) (.slice pp P.length pc) (40::Lib.itoa x.n) P.length (.slice p (N+1) c7) w7)):=λp c7 w7 hown hg hat=>by
         obtain⟨k1,k2,k3⟩:=HTX.out;show TlK _ _ _ _ _ _ _ _ _ _ _ _ _ _ _ _ _ _ _;unfold TlK;rw[List.drop_length];refine k1.pushK (N:=[([41],-1)]) k2 k3 z1 ?_ hg hat;rw[show([(([41]:List UInt8),(-1:Int))]++L).length=N+1 by rw[<-HN.out];rfl];show World.ownsRow _ _ _ _ _ _ (tdR (_::L));rw[tdR_cons];exact hown
        clear hW6 hk1 HSTO HB5 ecp hP;go_upto_region 20 with(first
         |(at_builtin;refine wpList_app rfl (.tmp 63) (.tmp 65) 255 rfl w.heap.size 254 ti _ 2 24 Tryz.underlying255 hti ht0 ht1 ht2 rfl (by omega) (.slice (some ⟨g,0,none⟩) N tc) N (tdR L) (by simp[Act.eval]) (HD6.out.alloc _) ⟨W6.heap.size,0,none⟩ 1 1 [.string ⟨#[41]⟩,.int .i64 (-1)] (by simp[Act.eval]) rfl (by have h:=World.news_of_block (heap_alloc_new W6 (Obj.cells #[.string ⟨#[41]⟩,.int .i64 (-1)] 254));simpa using h) (by intro u hu;simp at hu;rcases hu with rfl|rfl<;>rfl) (by unfold maxLen;omega) (by omega) (by rw[World.size_alloc];omega) ?_;intro p7 c7 w7 hown hgrow hat;have HK7:=hid ((HNX.out p7 c7 w7 hown hgrow hat).out);obtain⟨y0,y1,y2,-⟩:=HK7.out.2.1;clear hown hgrow hat HNX))
        clear HD6 hz6 HTX z1 z0 zf x0 x1 x2 y0 y1 y2 HC4 HP4;go_loopw [6,11] (λv6 v11 wx=>∃j p6 c6,j<=P.length∧v11=.int .i64 ((j:Int)-1)∧v6=.slice p6 (2*(P.length-j)+1+N) c6∧Hid (TlK lo M Ib B w wr.heap.size w2.heap.size a2 t P L (.slice op t.length oc) (.int .u8 114) (.int .i64 x.n) (.slice pp P.length pc) (40::Lib.itoa x.n) j v6 wx)) (λ_ v11 _=>(intOf v11+1).toNat)
        case atStart=>exact⟨P.length,p7,c7,Nat.le_refl _,rfl,by rw[Nat.sub_self];congr 1;omega,HK7.out⟩
        case round=>
         rename World=>wx
         clear HK7;obtain⟨j,p6,c6,hj,rfl,rfl,HK⟩:=hrel;obtain⟨y0,y1,y2,-⟩:=HK.out.2.1;cases j with
         |zero=>
          have i0:¬(0:Int)<=(((0:Nat):Int)-1):=by omega
          have y4:=HK.out.2.2.2;go_wp2;go_meet
          have hL1:(tMore x++L).length=2*(P.length-0)+1+N:=by
           rw[HMO.out,List.length_append,List.length_append,tFl_len,HN.out];simp
          have hT1:=HK.out.1;rw[List.drop_zero,show tFl P++([41],-1)::L=tMore x++L by rw[HMO.out];simp]at hT1;have hM:=HML.out;refine⟨a2,40::Lib.itoa x.n,tMore x++L,p6,c6,by rw[hL1];rfl,hT1.less (λb hb=>List.mem_cons_of_mem _ hb),y4,HFI.out,by show _=_;rw[HCE.out,HPI.out],by rw[List.length_cons];omega,⟨by have:=(HBB.out _ hM).1;rw[List.length_append,HN.out];omega,λp hp=>?_⟩,by have:=(HBB.out _ hM).2;show _<_;rw[List.length_append,HN.out];omega⟩;rcases List.mem_append.1 hp with hp|hp
          ·rw[HMO.out]at hp;rcases List.mem_append.1 hp with hp|hp
           ·obtain⟨f,-,hp⟩:=List.mem_flatMap.1 hp;simp only[List.mem_cons,List.not_mem_nil,or_false]at hp;rcases hp with rfl|rfl<;>simp
           ·rw[List.mem_singleton.1 hp];simp
          ·exact HPS.out p hp
         |succ j=>
          have hj2:j<P.length:=by omega
          have i0:(((j+1:Nat):Int)-1)=(j:Int):=by omega
          have i1:(0:Int)<=(j:Int):=by omega
          have i2:(j:Int)<(P.length:Int):=by omega
          obtain⟨fj,hfj⟩:∃fj,P[j]=fj:=⟨_,rfl⟩;obtain⟨pb,po,rfl,hpj⟩:∃pb po,pp=some ⟨pb,po,none⟩∧wx.cell? ⟨pb,po+j,none⟩=some (.int .i64 fj):=by
           obtain⟨p,cap,e,hp⟩:=HK.out.2.2.1;cases e;obtain⟨pb,po,-,e,hc⟩:=hp j hj2;exact⟨pb,po,e,by rw[hc,hfj]⟩
          obtain⟨n6,hn6⟩:∃n6,2*(P.length-(j+1))+1+N=n6:=⟨_,rfl⟩;have hn7:n6+2=2*(P.length-j)+1+N:=by omega
          have hn8:n6<=1200000000:=by omega
          rw[hn6]at HK ⊢;obtain⟨xs,hxs⟩:∃xs,tdR (tFl (P.drop (j+1))++([41],-1)::L)=xs:=⟨_,rfl⟩;have HD6:Hid (wx.ownsRow w.heap.size 254 2 (.slice p6 n6 c6) n6 xs):=by
           have:=HK.out.1.d;rw[hxs]at this;rw[show(tFl (P.drop (j+1))++([41],-1)::L).length=n6 by rw[List.length_append,tFl_len,List.length_drop,List.length_cons,HN.out];omega]at this;exact this
          have hz6:w.heap.size<=wx.heap.size:=HK.out.1.ag.size;have HNX:Hid (∀p c8 w8,w8.ownsRow w.heap.size 254 2 (.slice p (n6+2) c8) (n6+2) (xs++[.string ⟨#[]⟩,.int .i64 fj,.string ⟨#[32]⟩,.int .i64 (-1)])->(wx.alloc (.cells #[.string ⟨#[]⟩,.int .i64 fj,.string ⟨#[32]⟩,.int .i64 (-1)] 254)).grownBy w8 (Value.slice p6 n6 c6).ownBlock->((Value.slice p (n6+2) c8).ownBlock=(Value.slice p6 n6 c6).ownBlock∨(Value.slice p (n6+2) c8).ownBlock=some (wx.alloc (.cells #[.string ⟨#[]⟩,.int .i64 fj,.string ⟨#[32]⟩,.int .i64 (-1)] 254)).heap.size)->Hid (TlK lo M Ib B w wr.heap.size w2.heap.size a2 t P L (.slice op t.length oc) (.int .u8 114) (.int .i64 x.n) (.slice (some ⟨pb,po,none⟩) P.length pc) (40::Lib.itoa x.n) j (.slice p (n6+2) c8) w8)):=λp c8 w8 hown hg hat=>by
           rw[<-hfj]at hown;exact HK.out.next hj2 (by rw[HN.out];omega) hxs.symm hown hg hat
          clear hxs hn6 HK hfj;go_wp2_with (first
           |(at_builtin;refine wpList_app rfl (.tmp 75) (.tmp 83) 255 rfl w.heap.size 254 ti _ 2 24 Tryz.underlying255 hti ht0 ht1 ht2 rfl (by omega) (.slice p6 n6 c6) n6 xs (by simp[Act.eval]) (HD6.out.alloc _) ⟨wx.heap.size,0,none⟩ 2 2 [.string ⟨#[]⟩,.int .i64 fj,.string ⟨#[32]⟩,.int .i64 (-1)] (by simp[Act.eval]) rfl (by have h:=World.news_of_block (heap_alloc_new wx (Obj.cells #[.string ⟨#[]⟩,.int .i64 fj,.string ⟨#[32]⟩,.int .i64 (-1)] 254));simpa using h) (by intro u hu;simp at hu;rcases hu with rfl|rfl|rfl|rfl<;>rfl) (by unfold maxLen;omega) (by omega) (by rw[World.size_alloc];omega) ?_;intro p8 c8 w8 hown hgrow hat;have HK8:=hid ((HNX.out p8 c8 w8 hown hgrow hat).out);clear hown hgrow hat HNX))
          refine⟨⟨j,p8,c8,by omega,by go_num,rfl,?_⟩,by simp[intOf]⟩;rw[<-hn7];exact HK8
       ·have hb1:kByte x.kind≠105:=λe=>hk1 (kb1.1 e);have hb3:kByte x.kind≠114:=λe=>hk3 (kb3.1 e);have HPI:Hid (tPiece x=[102,117,110]):=by show _=_;unfold tPiece;rw[if_neg hk1,if_neg hk3]
        have HMO:Hid (tMore x=[]):=by show _=_;unfold tMore;rw[if_neg hk3]
        have eb1:(kByte x.kind==105)=false:=by rw[beq_eq_false_iff_ne];exact hb1
        have eb3:(kByte x.kind==114)=false:=by rw[beq_eq_false_iff_ne];exact hb3
        obtain⟨⟨z0,zf⟩,HTX,z1⟩:=HSTO.out W4 ⟨#[102,117,110]⟩ (Below.refl _ _);generalize kByte x.kind=kk at*;clear kb1 kb3 HIT;go_wp2;go_meet
        refine⟨a2,[102,117,110],L,_,_,by rw[HN.out],HTX.out.1.less (λb hb=>List.mem_cons_of_mem _ hb),z1,⟨HFI.out.1,by have:=HFI.out.2;rw[HMO.out]at this;exact this⟩,by show _=_;rw[HCE.out,HPI.out,HMO.out];rfl,by simp,⟨by have:=(HBB.out 0 (by omega)).1;rw[HN.out];omega,HPS.out⟩,by have:=(HBB.out 0 (by omega)).2;show _<_;rw[HN.out];omega⟩
     ·rw[hsb]at HST;rw[etv]at HCE;simp only at HCE;clear hLE hRO hsp etv hsb hee HTM;obtain⟨vv,hvv⟩:∃vv,vZ (aWork gs c a).2=vv:=⟨_,rfl⟩;rw[hvv]at HWK;clear hvv;generalize (aWork gs c a).1=aw at*;go_wp2_with (first
       |(go_at_call 114;refine HWK.out.mono ?_;rintro e w1 ⟨rfl,HT1,HE1⟩;have HS1:=hid (HST.out w1 HT1.out HE1.out);clear HWK HST)
       |(go_at_call 115;refine HS1.out.mono ?_;rintro e w2 ⟨rfl,HT2,HE2⟩;clear HS1 HT1 HE1))
      go_ret;rw[HCE.out];exact HT2.out.res _
    ·have HRP:=hid (HR.out.trans (tEnd_piece h0));go_wp2;go_meet
     exact⟨a,s,L,_,_,by rw[HN.out],HTM.out,q0,⟨HWF.out.1,HWF.out.2.tail⟩,HRP.out,by omega,⟨by have:=HL'.out;omega,HPS.out⟩,by have:=HN.out;show _<_;omega⟩
   case rest=>
    rename World=>wx
    obtain⟨a1,s1,L1,tp1,tc1,rfl,HT1,y0,HWF1,HR1,hs1l,HLB1,HM1⟩:=hcut;clear HTM HR HPS HL' HWF HN q0 q1 hs0 hs1 hW0;by_cases hle:t.length+s1.length<=2000
    ·have HX:Hid (R=tEnd gs L1 a1 (t++s1)):=by show _=_;rw[HR1.out,tSay,if_pos hle]
     have i0:¬(2000:Int)<(t.length:Int)+(s1.length:Int):=by omega
     have HNX:Hid (∀v' w2,w2.ownsRow w.heap.size 5 1 v' (t.length+(⟨s1.toArray⟩:ByteArray).size) (btC t++Lib.strCells ⟨s1.toArray⟩)->wx.grownBy w2 (Value.slice op t.length oc).ownBlock->(∀b,v'.ownBlock=some b->(Value.slice op t.length oc).ownBlock=some b∨wx.heap.size<=b)->∃p c,v'=.slice p (t++s1).length c∧Hid (TlI lo M Ib B w [] a1 (t++s1) L1 v' (.slice tp1 L1.length tc1) w2)):=by
      intro v' w2 hown hg hat;have e1:(⟨s1.toArray⟩:ByteArray).size=s1.length:=by show s1.toArray.size=_;simp
      have e3:btC t++Lib.strCells ⟨s1.toArray⟩=btC (t++s1):=by rw[btC_app']
      rw[e1,<-List.length_append,e3]at hown;obtain⟨p,c,e2⟩:=row_slice hown;exact⟨p,c,e2,((HT1.out.less (F:=[]) λb hb=>by cases hb).said hown hg hat)⟩
     have HOW:=hid HT1.out.o;have hlz:w.heap.size<=wx.heap.size:=HT1.out.ag.size;have hbs:(⟨s1.toArray⟩:ByteArray).size=s1.length:=by show s1.toArray.size=_;simp
     clear HT1;go_wp2_with (first
      |(at_builtin;refine wpApp_str rfl (.tmp 94) (.tmp 96) 88 9 rfl w.heap.size 5 ii Tryz.underlying88 Tryz.underlying9 hii hi0 hi1 hi2 (.slice op t.length oc) t.length (btC t) rfl HOW.out ⟨s1.toArray⟩ rfl (by unfold maxLen;omega) (by omega) hlz ?_;intro v' w7 hown hgrow hat;obtain⟨p2,c2,rfl,HT7⟩:=HNX.out _ _ hown hgrow hat;clear hown hgrow hat))
     refine⟨⟨a1,t++s1,L1,p2,c2,tp1,tc1,by rw[List.length_append],rfl,(by have h:=HT7.out;rw[List.length_append]at h;exact h),HWF1.out,HX.out,by rw[List.length_append];exact hle,HLB1.out⟩,?_⟩;have hm7:rmu M w7=mu a1:=by
      obtain⟨B',h1,-⟩:=HT7.out.r;exact h1.mu
     show 1000*rmu M w7+L1.length<1000*rmu M wr+(N+1);rw[hm7,HMU.out];exact HM1.out
    ·have HX:Hid (R=(rEnd 8 a1,none)):=by show _=_;rw[HR1.out,tSay,if_neg hle]
     have i0:(2000:Int)<(t.length:Int)+(s1.length:Int):=by omega
     have HEN:Hid (Calls Tryz.prog 116 #[.pointer (some ⟨M,0,none⟩),.int .i64 8] wx λe w'=>e=.returned (.tuple #[])∧Hid (RRes lo M Ib B w (rEnd 8 a1) (.string ⟨#[]⟩) (.returned (.string ⟨#[]⟩)) w')):=by
      obtain⟨B0,hM0,hcall⟩:=HT1.out.call;refine(rEnd_any 8 hM0).mono λe w1 hr=>?_;have he:=hr.1;exact⟨he,(hcall _ _ _ _ hr).1.res _⟩
     have hbs:(⟨s1.toArray⟩:ByteArray).size=s1.length:=by show s1.toArray.size=_;simp
     clear HT1;go_wp2_with (first
      |(go_at_call 116;refine HEN.out.mono ?_;rintro e w7 ⟨rfl,HRR⟩))
     go_ret;rw[HX.out];exact HRR.out
def aGlobs(k:Nat):List MCl:=(List.range k).map λi:Nat=>⟨4,(i:Int),0,0,[]⟩
def aInit(k:Nat)(fuel spare:Int):ASt:=⟨aGlobs k,⟨[],0,0⟩,[],clipN fuel 2000000,clipN spare 2000000,0,0,0,false⟩
def aTold(gs:List LGlob)(main fuel spare:Int):TRes:=tEnd gs [([],main)] (aInit gs.length fuel spare) []
def aOut(gs:List LGlob)(main fuel spare:Int):Value:=
 .agg #[.int .i64 (aTold gs main fuel spare).1.kind,.string ⟨((aTold gs main fuel spare).2.getD []).toArray⟩,.int .i64 (aTold gs main fuel spare).1.steps,.int .i64 (aTold gs main fuel spare).1.used]
theorem clip_le(n:Int):0<=clipN n 2000000∧clipN n 2000000<=2000000:=by
 unfold clipN;split
 ·omega
 ·split<;>omega
theorem init_wf{gs:List LGlob}(hf:gs.length<=200000)(fuel spare:Int):WfB gs (aInit gs.length fuel spare):=by
 have h1:=clip_le fuel;have h2:=clip_le spare;have hl:(aGlobs gs.length).length=gs.length:=by simp[aGlobs]
 refine⟨λx hx=>?_,?_,⟨Int.le_refl _,h1.1⟩,h1.2,⟨Int.le_refl _,h2.1⟩,h2.2,rfl⟩
 ·obtain⟨i,hi,rfl⟩:=List.mem_map.1 hx;have hi:=List.mem_range.1 hi;exact⟨⟨by simp,by simp⟩,λe=>(by simp at e),λe=>(by simp at e),λ_=>⟨by simp,by simp;omega⟩,λr hr=>(by cases hr),(by simp),⟨by show _<=(i:Int);omega,by show(i:Int)<=_;omega⟩⟩
 ·show(((aGlobs gs.length).length:Nat):Int)=(gs.length:Int)+0;rw[hl];omega
theorem RM.addG{lo:Nat}{w:World}{M Ib:Nat}{st:ASt}{B:List Nat}(h:RM lo w M Ib st B)(x:MCl)(hx:cP x=[]):∃cp cc xs,w.cell? ⟨M,1,none⟩=some (.slice cp st.cells.length cc)∧w.ownsRow lo 170 3 (.slice cp st.cells.length cc) st.cells.length xs∧∀o p c7 w7,w7.ownsRow lo 170 3 (.slice p (st.cells.length+1) c7) (st.cells.length+1) (xs++[.int .u8 (kByte x.kind),.int .i64 (cN x),.slice none 0 0])->(w.alloc o).grownBy w7 (Value.slice cp st.cells.length cc).ownBlock->((Value.slice p (st.cells.length+1) c7).ownBlock=(Value.slice cp st.cells.length cc).ownBlock∨(Value.slice p (st.cells.length+1) c7).ownBlock=some (w.alloc o).heap.size)->(w7.cell? ⟨M,1,none⟩=some (.slice cp st.cells.length cc)∧w7.frozen? ⟨M,1,none⟩=false)∧RRes lo M Ib B w (rAdd x st) (.tuple #[]) (.returned (.tuple #[])) (w7.setCell ⟨M,1,none⟩ (.slice p (st.cells.length+1) c7)):=by
 obtain⟨cs,ds,cv,sv,dv,h,hBe⟩:=h;obtain⟨cp,cc,rfl⟩:=row_slice h.cl;have hcs:cs.length=st.cells.length:=by rw[<-h.hcs,List.length_map]
 have e1:=h.m.at 1 rfl;rw[<-hcs];refine⟨cp,cc,cs.flatMap rcC,e1,h.cl,λo p c7 w7 hown hg hat=>?_⟩;have hbz:Below w.heap.size w (w.alloc o):=(Below.refl _ _).alloc (Nat.le_refl _) _;have hA:AG (vB (.slice cp cs.length cc)) w w7:=AG.append hbz hg;have hnM:M∉vB (.slice cp cs.length cc):=λhm=>(List.nodup_cons.1 h.nd).1 (List.mem_append_left _ hm);have hbM:=hA.block M h.m.lt hnM;obtain⟨t1,t2,t3⟩:=h.turnC hA (cv':=.slice p (cs.length+1) c7) (cs':=cs++[(x,.slice none 0 0)]) (by
  rw[List.length_append,List.flatMap_append];simp only[List.length_cons,List.length_nil,List.flatMap_cons,List.flatMap_nil,List.append_nil,rcC];exact hown) (λy hy=>by
  rcases List.mem_append.1 hy with hy|hy
  ·exact h.fl y hy
  ·obtain rfl:=List.mem_singleton.1 hy;exact⟨none,0,by rw[hx];rfl,λi hi=>by rw[hx]at hi;cases hi⟩) (λb hb'=>by
  have hb':=mem_vB.1 hb';rcases hat with e|e
  ·rw[e]at hb';exact Or.inl (mem_vB.2 hb')
  ·rw[e]at hb';cases hb';right;simp)
 rw[List.map_append,h.hcs]at t1;rw[<-hBe]at t2 t3;exact⟨⟨cell_same hbM e1,by rw[World.frozen?_of_block (a:=⟨M,1,none⟩) hbM];exact h.m.fz 1⟩,rfl,t2,_,⟨_,_,_,_,_,t1,rfl⟩,t3⟩
theorem FBL.newL(w:World)(L:List Value)(t:TypeId):FBL (w.alloc (.cells L.toArray t)) w.heap.size L:=by
 refine⟨λj hj=>?_,λj=>frozen_new _ _ _ _,by simp⟩;refine alloc_cell w L.toArray _ _ _ ?_;rw[List.getElem?_toArray,List.getElem?_eq_getElem hj];rfl
theorem RM.new{lo:Nat}{w:World}(hlo:lo<=w.heap.size)(Ib:Nat)(fuel spare:Int):RM lo (w.alloc (.cells (rL Ib (.slice none 0 0) (.slice none 0 0) (.slice none 0 0) (aInit 0 fuel spare)).toArray 168)) w.heap.size Ib (aInit 0 fuel spare) [w.heap.size]:=by
 have hnil:∀t n,(w.alloc (.cells (rL Ib (.slice none 0 0) (.slice none 0 0) (.slice none 0 0) (aInit 0 fuel spare)).toArray 168)).ownsRow lo t n (.slice none 0 0) 0 []:=λt n=>⟨by simp,Or.inl ⟨rfl,rfl⟩⟩;refine⟨[],[],.slice none 0 0,.slice none 0 0,.slice none 0 0,⟨?_,hnil _ _,λx hx=>(by cases hx),hnil _ _,hnil _ _,λx hx=>(by cases hx),rfl,rfl,(by simp[rB,vB_nil,dB]),hlo⟩,(by simp[rB,vB_nil,dB])⟩;exact FBL.newL w _ _
theorem aGlobs_succ(k:Nat):aGlobs (k+1)=aGlobs k++[⟨4,(k:Int),0,0,[]⟩]:=by
 unfold aGlobs;rw[List.range_succ,List.map_append];rfl
theorem aGlobs_len(k:Nat):(aGlobs k).length=k:=by simp[aGlobs]
def zOu:List Value:=[.int .i64 0,.string ⟨#[]⟩,.int .i64 0,.int .i64 0]
theorem out_any{w:World}{b:Nat}(h:FBL w b zOu)(x y z u:Value):FBL ((((w.setCell ⟨b,0,none⟩ x).setCell ⟨b,1,none⟩ y).setCell ⟨b,2,none⟩ z).setCell ⟨b,3,none⟩ u) b [x,y,z,u]:=
 FBL.set (FBL.set (FBL.set (FBL.set h (i:=0) (by simp[zOu]) _) (i:=1) (by simp[zOu]) _) (i:=2) (by simp[zOu]) _) (i:=3) (by simp[zOu]) _
theorem told_end{gs:List LGlob}{D:Nat->Nat->Int}{main:Int}(hG:ImgOk gs D)(hf:gs.length<=200000)(hm:0<=main∧main<(gs.length:Int))(fuel spare:Int):(∃a1 t1,aTold gs main fuel spare=(a1,some t1)∧a1.ended=false)∨(∃a1,aTold gs main fuel spare=(a1,none)∧a1.ended=true):=by
 have hT:TdOk [([],main)] (aInit gs.length fuel spare):=λp hp=>by
  rw[List.mem_singleton.1 hp];show main<((aGlobs gs.length).length:Int);rw[aGlobs_len];exact hm.2
 rcases tEnd_app hG (tM [([],main)] (aInit gs.length fuel spare)) (L:=[]) (t:=[]) (init_wf hf fuel spare) hT (λp hp=>by cases hp) (Nat.le_refl _) with⟨a1,t1,e,-,hW,-⟩|⟨a1,e,-,hen⟩
 ·exact Or.inl ⟨a1,t1,e,hW.live⟩
 ·exact Or.inr ⟨a1,e,hen⟩
def RuJ(lo M Ib:Nat)(W1:World)(fuel spare:Int)(k:Nat)(wr:World):Prop:=RRes lo M Ib [M] W1 (aInit k fuel spare) (.tuple #[]) (.returned (.tuple #[])) wr
theorem rRun_any{w:World}{Ib:Nat}{gs:List LGlob}{D:Nat->Nat->Int}{main:Int}{gv:Value}(fuel spare:Int)(hG:ImgOk gs D)(hm:0<=main∧main<(gs.length:Int))(h0:w.cell? ⟨Ib,0,none⟩=some gv)(h1:w.cell? ⟨Ib,1,none⟩=some (.int .i64 main))(hg:GlobsAt w gv gs)(htab:Lib.TabIs Tryz.prog w "internal/strconv.uint64pow10" .u64 Lib.pow10Tab):
 Calls Tryz.prog 31 #[.pointer (some ⟨Ib,0,none⟩),.int .i64 fuel,.int .i64 spare] w λe w'=>e=.returned (aOut gs main fuel spare)∧Below w.heap.size w w':=by
 obtain⟨ii,hii,hij⟩:=Option.map_eq_some_iff.1 Tryz.rcellK;simp only[Prod.mk.injEq]at hij;obtain⟨hi0,hi1,hi2⟩:=hij;obtain⟨gp,gc,rfl,-⟩:=id hg;obtain⟨W0,hW0⟩:∃W0,w.alloc (.cells #[.int .i64 0,.string ⟨#[]⟩,.int .i64 0,.int .i64 0] 71)=W0:=⟨_,rfl⟩;have hb0:Below w.heap.size w W0:=by rw[<-hW0];exact(Below.refl _ _).alloc (Nat.le_refl _) _
 have hz0:W0.heap.size=w.heap.size+1:=by rw[<-hW0];simp
 have hR:FBL W0 w.heap.size [.int .i64 0,.string ⟨#[]⟩,.int .i64 0,.int .i64 0]:=by rw[<-hW0];exact FBL.newL w [.int .i64 0,.string ⟨#[]⟩,.int .i64 0,.int .i64 0] _
 have HIM:Hid (ImR W0.heap.size W0 Ib gs (.int .i64 main)):=⟨W0,rfl,Below.refl _ _,_,cell_keep hb0 h0,cell_keep hb0 h1,hg.keep hb0⟩;have HTB:Hid (Lib.TabBelow Tryz.prog W0.heap.size W0 "internal/strconv.uint64pow10" .u64 Lib.pow10Tab):=Lib.tabBelow_of_tabIs (Lib.tabBelow_of_tabIs htab W0 hb0);obtain⟨W1,hW1⟩:∃W1,W0.alloc (.cells #[.pointer (some ⟨Ib,0,none⟩),.slice none 0 0,.slice none 0 0,.int .i64 0,.int .i64 0,.slice none 0 0,.int .i64 (clipN fuel 2000000),.int .i64 (clipN spare 2000000),.int .i64 0,.string ⟨#[]⟩,.int .i64 0,.int .i64 0,.bool false] 168)=W1:=⟨_,rfl⟩;have hb1:Below W0.heap.size W0 W1:=by rw[<-hW1];exact(Below.refl _ _).alloc (Nat.le_refl _) _
 have HJ0:Hid (RuJ W0.heap.size W0.heap.size Ib W1 fuel spare 0 W1):=⟨rfl,AG.refl _ _,[W0.heap.size],by rw[<-hW1];exact RM.new (Nat.le_refl W0.heap.size) Ib fuel spare,λb hb=>Or.inl hb⟩;have HKP:Hid (∀X,AG [W0.heap.size] W1 X->Below W0.heap.size W0 X):=λX hX=>hb1.trans (hX.low (λb hb=>by rw[List.mem_singleton.1 hb];exact Nat.le_refl _) hb1.size);have HCL:Hid (∀n X,Calls Tryz.prog 65 #[.int .i64 n,.int .i64 2000000] X λe w'=>e=.returned (.int .i64 (clipN n 2000000))∧w'=X):=λn X=>clip_any n 2000000 X;have HG:=hid hG;have hfew:=hG.few;have HB0:=hid hb0;have HRR:=hid hR;have k0:=cell_keep hb0 h0;have k1:=cell_keep hb0 h1;have HZ0:=hid hz0;clear h0 h1 hg htab hb0 hR hG hz0;go_enter Tryz.func31,Tryz.ntmps31;go_upto_region 3 with(first
  |(go_at_call 65;refine(HCL.out _ _).mono ?_;rintro e wc ⟨rfl,hwc⟩;rw[hwc];clear hwc wc))
 clear HCL;go_loopw [8] (λv8 wr=>∃k,k<=gs.length∧v8=.int .i64 (k:Int)∧Hid (RuJ W0.heap.size W0.heap.size Ib W1 fuel spare k wr)) (λv8 _=>gs.length-(intOf v8).toNat)
 case atStart=>exact⟨0,Nat.zero_le _,rfl,HJ0.out⟩
 case round=>
  rename World=>wr
  clear HJ0;obtain⟨k,hk,rfl,HJ⟩:=hrel;have hbr:=HKP.out wr HJ.out.2.1;have y0:=cell_keep hbr k0;have y1:=cell_keep hbr k1;clear hb1 hW1 hW0 k0 k1;by_cases hkl:k<gs.length
  ·have i0:(k:Int)<(gs.length:Int):=by omega
   obtain⟨-,hA,B',hM,hB⟩:=HJ.out;obtain⟨cp,cc,xs,m1,hown0,hnx⟩:=hM.addG ⟨4,(k:Int),0,0,[]⟩ rfl;rw[show(aInit k fuel spare).cells.length=k from aGlobs_len k]at m1 hown0 hnx;have HOW:=hid hown0;have hz:W0.heap.size<=wr.heap.size:=hbr.size;have HNX:Hid (∀p c7 w7,w7.ownsRow W0.heap.size 170 3 (.slice p (k+1) c7) (k+1) (xs++[.int .u8 103,.int .i64 (k:Int),.slice none 0 0])->(wr.alloc (.cells #[.int .u8 103,.int .i64 (k:Int),.slice none 0 0] 170)).grownBy w7 (Value.slice cp k cc).ownBlock->((Value.slice p (k+1) c7).ownBlock=(Value.slice cp k cc).ownBlock∨(Value.slice p (k+1) c7).ownBlock=some (wr.alloc (.cells #[.int .u8 103,.int .i64 (k:Int),.slice none 0 0] 170)).heap.size)->(w7.cell? ⟨W0.heap.size,1,none⟩=some (.slice cp k cc)∧w7.frozen? ⟨W0.heap.size,1,none⟩=false)∧Hid (RuJ W0.heap.size W0.heap.size Ib W1 fuel spare (k+1) (w7.setCell ⟨W0.heap.size,1,none⟩ (.slice p (k+1) c7)))):=λp c7 w7 a1 a2 a3=>by
    obtain⟨b1,b2⟩:=hnx _ p c7 w7 a1 a2 a3;refine⟨b1,?_⟩;have:=b2.of hA hB (r':=.tuple #[]) (e':=.returned (.tuple #[])) rfl;rw[show rAdd ⟨4,(k:Int),0,0,[]⟩ (aInit k fuel spare)=aInit (k+1) fuel spare by unfold aInit;rw[aGlobs_succ];rfl]at this;exact this
   clear hA hM hB hown0 hnx;go_wp2_with (first
    |(at_builtin;refine wpList_app rfl (.tmp 30) (.tmp 33) 163 rfl W0.heap.size 170 ii _ 3 40 Tryz.underlying163 hii hi0 hi1 hi2 rfl (by omega) (.slice cp k cc) k xs (by simp[Act.eval]) (HOW.out.alloc _) ⟨wr.heap.size,0,none⟩ 1 1 [.int .u8 103,.int .i64 (k:Int),.slice none 0 0] (by simp[Act.eval]) rfl (by have h:=World.news_of_block (heap_alloc_new wr (Obj.cells #[.int .u8 103,.int .i64 (k:Int),.slice none 0 0] 170));simpa using h) (by intro u hu;simp at hu;rcases hu with rfl|rfl|rfl<;>rfl) (by unfold maxLen;omega) (by omega) (by rw[World.size_alloc];omega) ?_;intro p7 c7 w7 hown hgrow hat;obtain⟨⟨z0,zf⟩,HJ7⟩:=HNX.out p7 c7 w7 hown hgrow hat;clear hown hgrow hat HNX))
   refine⟨⟨k+1,by omega,by go_num,HJ7.out⟩,by simp[intOf];omega⟩
  ·obtain rfl:k=gs.length:=by omega
   have i0:¬(gs.length:Int)<(gs.length:Int):=by omega
   have HTL:Hid (Calls Tryz.prog 66 #[.pointer (some ⟨W0.heap.size,0,none⟩),.int .i64 main] wr λe w'=>e=.returned (.string ⟨((aTold gs main fuel spare).2.getD []).toArray⟩)∧Hid (RRes W0.heap.size W0.heap.size Ib [W0.heap.size] W1 (aTold gs main fuel spare).1 (.tuple #[]) (.returned (.tuple #[])) w')):=by
    obtain⟨-,hA,B',hM,hB⟩:=HJ.out;refine(rTell_any HG.out (init_wf hfew fuel spare) hM (HIM.out.low hbr) (λX hX=>HTB.out X (hbr.trans hX)) main ⟨hm.1,by show main<((aGlobs gs.length).length:Int);rw[aGlobs_len];exact hm.2⟩).mono λe w' hr=>?_;have he:=hr.1;exact⟨he,hr.of hA hB rfl⟩
   go_upto_region 7 with(first
    |(go_at_call 66;refine HTL.out.mono ?_;rintro e w5 ⟨rfl,HR5⟩;clear HTL))
   obtain⟨-,hA5,B5,⟨cs,ds,cv,sv,dv,hm5,-⟩,-⟩:=HR5.out;have hb5:=HKP.out w5 hA5;have n8:=hm5.m.at 8 rfl;have n9:=hm5.m.at 9 rfl;have n10:=hm5.m.at 10 rfl;have n11:=hm5.m.at 11 rfl;have n12:=hm5.m.at 12 rfl;have f9:=hm5.m.fz 9;have hlt:w.heap.size<W0.heap.size:=by rw[HZ0.out];omega
   have hne:w.heap.size≠W0.heap.size:=by omega
   have hR6:FBL w5 w.heap.size zOu:=HRR.out.of_block (hb5.block _ hlt) hb5.size;have HB6:=hid (HB0.out.trans (hb5.mono HB0.out.size));have hto:=told_end HG.out hfew hm fuel spare;clear hm5 hA5 HR5 HJ y0 y1 hb5;rcases hto with⟨a1,t1,et,hen⟩|⟨a1,et,hen⟩
   ·rw[et]at n8 n10 n11 n12 ⊢;simp only[hen]at n8 n10 n11 n12;simp only[Option.getD_some];have HOUT:Hid (aOut gs main fuel spare=.agg #[.int .i64 a1.kind,.string ⟨t1.toArray⟩,.int .i64 a1.steps,.int .i64 a1.used]):=by show _=_;unfold aOut;rw[et];rfl
    clear et;have HR7:Hid (FBL (w5.setCell ⟨W0.heap.size,9,none⟩ (.string ⟨t1.toArray⟩)) w.heap.size zOu):=hR6.of_block (Below.heap_setCell _ _ _ _ hne) (by simp);have q0:=hR6.at 0 rfl;have q1:=hR6.at 1 rfl;have q2:=hR6.at 2 rfl;have q3:=hR6.at 3 rfl;have g0:=hR6.fz 0;have g1:=hR6.fz 1;have g2:=hR6.fz 2;have g3:=hR6.fz 3;clear hR6;go_wp2;have hF:=out_any HR7.out (.int .i64 a1.kind) (.string ⟨t1.toArray⟩) (.int .i64 a1.steps) (.int .i64 a1.used);have d0:=hF.at 0 rfl;have d1:=hF.at 1 rfl;have d2:=hF.at 2 rfl;have d3:=hF.at 3 rfl;refine bodyPost_ret (v:=.agg #[.int .i64 a1.kind,.string ⟨t1.toArray⟩,.int .i64 a1.steps,.int .i64 a1.used]) (by simp[results,Tryz.results31,go_sem,d0,d1,d2,d3]) rfl ⟨by rw[HOUT.out],?_⟩;exact((((HB6.out.setCell (Nat.le_of_lt hlt) _).setCell (Nat.le_refl _) _).setCell (Nat.le_refl _) _).setCell (Nat.le_refl _) _).setCell (Nat.le_refl _) _
   ·rw[et]at n8 n10 n11 n12 ⊢;simp only[hen]at n8 n10 n11 n12;simp only[Option.getD_none];have HOUT:Hid (aOut gs main fuel spare=.agg #[.int .i64 a1.kind,.string ⟨#[]⟩,.int .i64 a1.steps,.int .i64 a1.used]):=by show _=_;unfold aOut;rw[et];rfl
    clear et;have HR7:=hid hR6;have q0:=hR6.at 0 rfl;have q1:=hR6.at 1 rfl;have q2:=hR6.at 2 rfl;have q3:=hR6.at 3 rfl;have g0:=hR6.fz 0;have g1:=hR6.fz 1;have g2:=hR6.fz 2;have g3:=hR6.fz 3;clear hR6;go_wp2;have hF:=out_any HR7.out (.int .i64 a1.kind) (.string ⟨#[]⟩) (.int .i64 a1.steps) (.int .i64 a1.used);have d0:=hF.at 0 rfl;have d1:=hF.at 1 rfl;have d2:=hF.at 2 rfl;have d3:=hF.at 3 rfl;refine bodyPost_ret (v:=.agg #[.int .i64 a1.kind,.string ⟨#[]⟩,.int .i64 a1.steps,.int .i64 a1.used]) (by simp[results,Tryz.results31,go_sem,d0,d1,d2,d3]) rfl ⟨by rw[HOUT.out],?_⟩;exact(((HB6.out.setCell (Nat.le_refl _) _).setCell (Nat.le_refl _) _).setCell (Nat.le_refl _) _).setCell (Nat.le_refl _) _
end Go.Proofs.YtdpodpjdcfjfgaaGreatDoor
