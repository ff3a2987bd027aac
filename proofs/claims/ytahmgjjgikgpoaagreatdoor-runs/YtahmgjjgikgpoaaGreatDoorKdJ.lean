import Derived.Test.YtahmgjjgikgpoaaGreatDoorJeJ
set_option maxRecDepth 100000
set_option maxHeartbeats 4000000
namespace Go.Proofs.YtahmgjjgikgpoaaGreatDoor
open Go.RowKit Go.Sort
def ImpsQ(P:Nat->Prop)(w:World)(v:Value)(l:List LImp):Prop:=
 ∃g cap,v=.slice (some ⟨g,0,none⟩) l.length cap∧l.length<cap∧P g∧g<w.heap.size∧(∀j,w.frozen? ⟨g,j,none⟩=false)∧(∀i (h:i<l.length),w.cell? ⟨g,i*2,none⟩=some (.string l[i].name)∧w.cell? ⟨g,i*2+1,none⟩=some (.int .i64 l[i].arity))∧w.cell? ⟨g,l.length*2+1,none⟩=some (.int .i64 (-77))
def GlobsQ(P:Nat->Prop)(w:World)(v:Value)(l:List LGlob):Prop:=
 ∃g cap,v=.slice (some ⟨g,0,none⟩) l.length cap∧l.length<cap∧P g∧g<w.heap.size∧(∀j,w.frozen? ⟨g,j,none⟩=false)∧(∀i (h:i<l.length),∃cv,w.cell? ⟨g,i*4,none⟩=some (.string l[i].name)∧w.cell? ⟨g,i*4+1,none⟩=some (.int .i64 l[i].arity)∧w.cell? ⟨g,i*4+2,none⟩=some (.bool l[i].exp)∧w.cell? ⟨g,i*4+3,none⟩=some cv∧CodeR w P cv l[i].code)∧w.cell? ⟨g,l.length*4+1,none⟩=some (.int .i64 (-77))
theorem ImpsR.q{w:World}{lo:Nat}{v:Value}{l:List LImp}(h:ImpsR w lo v l):ImpsQ (λb=>lo<=b∧b<w.heap.size) w v l:=by
 obtain⟨g,cap,e,h1,h2,h3,h4⟩:=h;exact⟨g,cap,e,h1,⟨h2,h3⟩,h3,h4⟩
theorem ImpsQ.r{P:Nat->Prop}{w:World}{v:Value}{l:List LImp}(h:ImpsQ P w v l):ImpsR w 0 v l:=by
 obtain⟨g,cap,e,h1,h2,h3,h4⟩:=h;exact⟨g,cap,e,h1,Nat.zero_le _,h3,h4⟩
theorem ImpsQ.fr{P Q:Nat->Prop}{w w':World}{v:Value}{l:List LImp}(h:ImpsQ P w v l)(hs:w.heap.size<=w'.heap.size)(hk:∀b,P b->b<w.heap.size->Q b∧w'.heap[b]?=w.heap[b]?):ImpsQ Q w' v l:=by
 obtain⟨g,cap,e,h1,h2,h3,hz,h4,h5⟩:=h;obtain⟨k1,k2⟩:=hk g h2 h3;exact⟨g,cap,e,h1,k1,by omega,λj=>by rw[World.frozen?_of_block (a:=⟨g,j,none⟩) k2];exact hz j,λi hi=>⟨cell_same k2 (h4 i hi).1,cell_same k2 (h4 i hi).2⟩,cell_same k2 h5⟩
theorem GlobsP.q{w:World}{lo:Nat}{v:Value}{l:List LGlob}(h:GlobsP w lo v l):GlobsQ (λb=>lo<=b∧b<w.heap.size) w v l:=by
 obtain⟨g,cap,e,h1,h2,h3,hz,h4,h5⟩:=h;refine⟨g,cap,e,h1,⟨h2,h3⟩,h3,hz,λi hi=>?_,h5⟩;obtain⟨cv,a0,a1,a2,a3,a4⟩:=h4 i hi;exact⟨cv,a0,a1,a2,a3,a4.far (Nat.le_refl _) (λb h1 h2=>⟨h1,h2⟩) (λ_ _ _ _=>rfl) λ_ _ _ _=>rfl⟩
theorem GlobsQ.r{P:Nat->Prop}{w:World}{v:Value}{l:List LGlob}(h:GlobsQ P w v l):GlobsR w v l:=by
 obtain⟨g,cap,e,h1,-,h3,-,h4,h5⟩:=h;refine⟨g,cap,e,h1,h3,λi hi=>?_,h5⟩;obtain⟨cv,a0,a1,a2,a3,a4⟩:=h4 i hi;exact⟨cv,a0,a1,a2,a3,a4.weak λ_ _=>trivial⟩
theorem GlobsQ.fr{P Q:Nat->Prop}{w w':World}{v:Value}{l:List LGlob}(h:GlobsQ P w v l)(hs:w.heap.size<=w'.heap.size)(hk:∀b,P b->b<w.heap.size->Q b∧w'.heap[b]?=w.heap[b]?):GlobsQ Q w' v l:=by
 obtain⟨g,cap,e,h1,h2,h3,hz,h4,h5⟩:=h;obtain⟨k1,k2⟩:=hk g h2 h3;refine⟨g,cap,e,h1,k1,by omega,λj=>by rw[World.frozen?_of_block (a:=⟨g,j,none⟩) k2];exact hz j,λi hi=>?_,cell_same k2 h5⟩;obtain⟨cv,a0,a1,a2,a3,a4⟩:=h4 i hi;exact⟨cv,cell_same k2 a0,cell_same k2 a1,cell_same k2 a2,cell_same k2 a3,a4.far hs (λb h1 h2=>(hk b h1 h2).1) (λb j h1 h2=>World.cell?_of_block (a:=⟨b,j,none⟩) (hk b h2 h1).2) λb j h1 h2=>World.frozen?_of_block (a:=⟨b,j,none⟩) (hk b h2 h1).2⟩
def KpQ(P:Nat->Prop)(w:World)(O:LObj)(x y:Value×Value):Prop:=
 ((∃n c,x.1=.slice none n c∧y.1=x.1)∨(∃a n c,x.1=.slice (some a) n c∧ImpsQ P w y.1 O.imps))∧((∃n c,x.2=.slice none n c∧y.2=x.2)∨(∃a n c,x.2=.slice (some a) n c∧GlobsQ P w y.2 O.globs))
theorem KpQ.fr{P Q:Nat->Prop}{w w':World}{O:LObj}{x y:Value×Value}(h:KpQ P w O x y)(hs:w.heap.size<=w'.heap.size)(hk:∀b,P b->b<w.heap.size->Q b∧w'.heap[b]?=w.heap[b]?):KpQ Q w' O x y:=by
 refine⟨h.1.imp id λ⟨a,n,c,e,h1⟩=>⟨a,n,c,e,h1.fr hs hk⟩,h.2.imp id λ⟨a,n,c,e,h1⟩=>⟨a,n,c,e,h1.fr hs hk⟩⟩
theorem KpQ.kept{P:Nat->Prop}{w:World}{O:LObj}{x y:Value×Value}(h:KpQ P w O x y):KeptI x.1 y.1 w 0 O.imps∧KeptG x.2 y.2 w O.globs:=⟨h.1.imp id λ⟨a,n,c,e,h1⟩=>⟨a,n,c,e,h1.r⟩,h.2.imp id λ⟨a,n,c,e,h1⟩=>⟨a,n,c,e,h1.r⟩⟩
structure OV (w:World) (p:Option Addr) (Os:List LObj) (V:List (Value×Value)):Prop where
 len:V.length=Os.length
 c:∀i (h:i<Os.length) (h2:i<V.length),∃b o,p=some ⟨b,o,none⟩∧w.cell? ⟨b,o+i*3,none⟩=some (.string Os[i].name)∧w.cell? ⟨b,o+i*3+1,none⟩=some V[i].1∧w.cell? ⟨b,o+i*3+2,none⟩=some V[i].2∧ObjAt w (.agg #[.string Os[i].name,V[i].1,V[i].2]) Os[i]
theorem ObjsIn.v{w:World}{p:Option Addr}{Os:List LObj}(h:ObjsIn w p Os):∃V,OV w p Os V:=by
 have hx:∀i,i<Os.length->∃x:Value×Value,∀hi:i<Os.length,∃b o,p=some ⟨b,o,none⟩∧w.cell? ⟨b,o+i*3,none⟩=some (.string Os[i].name)∧w.cell? ⟨b,o+i*3+1,none⟩=some x.1∧w.cell? ⟨b,o+i*3+2,none⟩=some x.2∧ObjAt w (.agg #[.string Os[i].name,x.1,x.2]) Os[i]:=λi hi=>by
  obtain⟨b,o,ip,ic,gp,gc,e,c0,c1,c2,hO⟩:=h i hi;exact⟨(_,_),λ_=>⟨b,o,e,c0,c1,c2,hO⟩⟩
 have:Inhabited (Value×Value):=⟨(.nilIface,.nilIface)⟩;obtain⟨f,hf⟩:=Go.Deep.choose_lt hx;exact⟨(List.range Os.length).map f,by simp,λi hi h2=>by simpa using hf i hi hi⟩
theorem OV.keep{w w':World}{p:Option Addr}{Os:List LObj}{V:List (Value×Value)}(h:OV w p Os V)(hb:Below w.heap.size w w'):OV w' p Os V:=⟨h.len,λi h1 h2=>by
 obtain⟨b,o,e,c0,c1,c2,hO⟩:=h.c i h1 h2;exact⟨b,o,e,cell_keep hb c0,cell_keep hb c1,cell_keep hb c2,hO.keep hb⟩⟩
def rmC(x:LObj×Value×Value):List Value:=[.string x.1.name,x.2.1,x.2.2]
structure RmS (w wr:World) (Os:List LObj) (V:List (Value×Value)) (v:Value) (k:Nat):Prop where
 low:Below w.heap.size w wr
 l:∃R:List (Value×Value),R.length=k∧wr.ownsRow w.heap.size 50 3 v k ((Os.zip R).flatMap rmC)∧∀i (h:i<Os.length) (h1:i<V.length) (h2:i<R.length),KpQ (λb=>w.heap.size<=b∧b<wr.heap.size∧v.ownBlock≠some b) wr Os[i] V[i] R[i]
theorem Tryz.objJ:(Tryz.prog.info? 50).map (λi=>(i.zero,i.size,i.bytes))=some (some (.agg #[.string ⟨#[]⟩,.slice none 0 0,.slice none 0 0]),3,64):=by kernel_rfl
theorem RmS.grow{w wr Z w2:World}{Os:List LObj}{V R:List (Value×Value)}{vp:Option Addr}{n vc:Nat}(h1:Below w.heap.size w wr)(h2:wr.ownsRow w.heap.size 50 3 (.slice vp n vc) n ((Os.zip R).flatMap rmC))(h3:∀i (h:i<Os.length) (h1:i<V.length) (h2:i<R.length),KpQ (λb=>w.heap.size<=b∧b<wr.heap.size∧(Value.slice vp n vc).ownBlock≠some b) wr Os[i] V[i] R[i])(hb:Below wr.heap.size wr Z)(hg:Z.grownBy w2 (Value.slice vp n vc).ownBlock){G:Nat}(hat:(Value.slice vp n vc).ownBlock=some G∨G=Z.heap.size):
 Below w.heap.size w w2∧∀i (h:i<Os.length) (h1:i<V.length) (h2:i<R.length),KpQ (λb=>w.heap.size<=b∧b<w2.heap.size∧some G≠some b) w2 Os[i] V[i] R[i]:=by
 have hz:=hb.size;have hlz:=h1.size;have hgz:=hg.size;have hlow:=λb (e:(Value.slice vp n vc).ownBlock=some b)=>row_low h2 e;refine⟨(h1.trans (hb.mono hlz)).grown hg (by omega) hlow,λi q1 q2 q3=>(h3 i q1 q2 q3).fr (by omega) λb ⟨g1,g2,g3⟩ hbl=>⟨⟨g1,by omega,λe=>?_⟩,?_⟩⟩
 ·cases e;rcases hat with h|h
  ·exact g3 h
  ·omega
 ·rw[hg.block b (by omega) (λe=>g3 e.symm)];exact hb.block b hbl
theorem KpQ.push{w wr Z w2:World}{O:LObj}{x y:Value×Value}{vp:Option Addr}{n vc:Nat}{xs:List Value}(h1:Below w.heap.size w wr)(h2:wr.ownsRow w.heap.size 50 3 (.slice vp n vc) n xs)(hb:Below wr.heap.size wr Z)(hq:KpQ (λb=>wr.heap.size<=b∧b<Z.heap.size) Z O x y)(hg:Z.grownBy w2 (Value.slice vp n vc).ownBlock){G:Nat}(hat:(Value.slice vp n vc).ownBlock=some G∨G=Z.heap.size):KpQ (λb=>w.heap.size<=b∧b<w2.heap.size∧some G≠some b) w2 O x y:=by
 have hz:=hb.size;have hlz:=h1.size;have hgz:=hg.size;have hup:∀b,(Value.slice vp n vc).ownBlock=some b->b<wr.heap.size:=λb e=>by
  rcases h2.2 with⟨h1,-⟩|⟨g,cap,cur,hv',-,hg',-⟩
  ·rw[h1]at e;cases e
  ·rw[hv']at e;obtain rfl:g=b:=by simpa[Value.ownBlock]using e
   exact(Array.getElem?_eq_some_iff.1 hg').1
 refine hq.fr hgz λb ⟨g1,g2⟩ hbl=>⟨⟨by omega,by omega,λe=>?_⟩,hg.block b hbl (λe=>by have:=hup b e.symm;omega)⟩;cases e;rcases hat with h|h
 ·have:=hup _ h;omega
 ·omega
theorem zip_snoc{α β:Type}{l:List α}{r:List β}{k:Nat}(hr:r.length=k)(hk:k<l.length)(y:β):l.zip (r++[y])=l.zip r++[(l[k],y)]:=by
 subst hr;apply List.ext_getElem
 ·simp;omega
 ·intro i h1 h2;simp at h1;by_cases e:i=r.length
  ·subst e;rw[List.getElem_append_right (by simp;omega)];simp
  ·have:i<r.length:=by omega
   rw[List.getElem_append_left (by simp;omega)];simp[List.getElem_append_left this]
def RoomsR(P:Nat->Prop)(w':World)(v rv:Value)(Os:List LObj)(V:List (Value×Value)):Prop:=
 (∃n c,v=.slice none n c∧rv=.slice none 0 0)∨(∃a n c g cap,∃R:List (Value×Value),v=.slice (some a) n c∧rv=.slice (some ⟨g,0,none⟩) Os.length cap∧Os.length<cap∧R.length=Os.length∧(∀i (h:i<Os.length) (h1:i<V.length) (h2:i<R.length),w'.cell? ⟨g,i*3,none⟩=some (.string Os[i].name)∧w'.cell? ⟨g,i*3+1,none⟩=some R[i].1∧w'.cell? ⟨g,i*3+2,none⟩=some R[i].2∧KpQ P w' Os[i] V[i] R[i])∧w'.cell? ⟨g,Os.length*3,none⟩=some (.string ⟨#[109,105,110,101]⟩)∧P g∧∀j,w'.frozen? ⟨g,j,none⟩=false)
theorem rooms_any(Os:List LObj)(p:Option Addr)(cap:Nat)(V:List (Value×Value))(w:World)(hV:OV w p Os V)(hp:p=none->Os.length=0)(hz:∀O∈Os,SizedO O.imps O.globs)(hl:Os.length*64<=140737488351232):
 Calls Tryz.prog 5 #[.slice p Os.length cap] w λe w'=>Below w.heap.size w w'∧∃rp rc,e=.returned (.slice rp Os.length rc)∧RoomsR (λb=>w.heap.size<=b∧b<w'.heap.size) w' (.slice p Os.length cap) (.slice rp Os.length rc) Os V:=by
 obtain⟨ii,hii,hij⟩:=Option.map_eq_some_iff.1 Tryz.objJ;simp only[Prod.mk.injEq]at hij;obtain⟨hi0,hi1,hi2⟩:=hij;have hq:∀W a n c,(binOp .eql 22 (.slice a n c) (.slice none 0 0)).run Tryz.prog W=.ok (.bool a.isNone) W:=λW a n c=>eql_nil W _ _ a n c Tryz.underlying22;cases p with
 |none=>
  have h0:=hp rfl;rw[h0];go_enter Tryz.func5,Tryz.ntmps5;go_wp2;go_ret;exact⟨Below.refl _ _,none,0,rfl,Or.inl ⟨_,_,rfl,rfl⟩⟩
 |some a=>
  have HV:=hid (λX (hb:Below w.heap.size w X)=>hV.keep hb);have HVL:=hid hV.len;have HZ:=hid hz;clear hV hz;go_enter Tryz.func5,Tryz.ntmps5;go_wp2;go_loopw [3,4] (λcv kv wr=>∃(k:Nat) (vp:Option Addr) (vc:Nat),k<=Os.length∧cv=.slice vp k vc∧kv=.int .i64 (k:Int)∧Hid (RmS w wr Os V (.slice vp k vc) k)) (λ_ kv _=>Os.length-(intOf kv).toNat)
  case atStart=>exact⟨0,none,0,Nat.zero_le _,rfl,rfl,Below.refl _ _,[],rfl,by simpa using World.ownsRow_nil _ _ _ _,λi _ _ h=>absurd h (by simp)⟩
  case round=>
   obtain⟨k,vp,vc,hk,rfl,rfl,HS⟩:=hrel;rename World=>wr
   obtain⟨hlow,R,r1,r2,r3⟩:=HS.out;have HLW:=hid hlow;have HOW:=hid r2;have hzw:=hlow.size;by_cases hlt:k<Os.length
   ·have h0:(0:Int)<=(k:Int):=by omega
    have h1:(k:Int)<(Os.length:Int):=by omega
    have hlv:k<V.length:=by rw[HVL.out];exact hlt
    obtain⟨b,o,e,c0,c1,c2,hO⟩:=(HV.out _ hlow).c k hlt hlv;cases e;obtain⟨iv,gv,hx,-,hIA,hGA⟩:=id hO;obtain⟨rfl,rfl⟩:V[k].1=iv∧V[k].2=gv:=by simpa using hx
    obtain⟨ip,ic,e1,-⟩:=hIA.open;obtain⟨gp,gc,e2,-⟩:=hGA.open;have HRO:=hid (roomy_x Os[k].name V[k].1 V[k].2 Os[k].imps Os[k].globs wr hIA hGA (HZ.out _ (List.getElem_mem _)));have HOB:=hid hO;have HNX:Hid (∀Z w2 y G c,Below wr.heap.size wr Z->KpQ (λb=>wr.heap.size<=b∧b<Z.heap.size) Z Os[k] V[k] y->Z.grownBy w2 (Value.slice vp k vc).ownBlock->((Value.slice vp k vc).ownBlock=some G∨G=Z.heap.size)->w2.ownsRow w.heap.size 50 3 (.slice (some ⟨G,0,none⟩) (k+1) c) (k+1) ((Os.zip R).flatMap rmC++[.string Os[k].name,y.1,y.2])->RmS w w2 Os V (.slice (some ⟨G,0,none⟩) (k+1) c) (k+1)):=by
     intro Z w2 y G c hb hq hg hat hown;obtain⟨g1,g2⟩:=RmS.grow hlow r2 r3 hb hg hat;refine⟨g1,R++[y],by simp[r1],?_,λi q1 q2 q3=>?_⟩
     ·rw[zip_snoc r1 hlt,List.flatMap_append];exact hown
     ·by_cases e:i=k
      ·subst e;have e3:(R++[y])[i]=y:=by simp[<-r1]
       rw[e3];exact KpQ.push hlow r2 hb hq hg hat
      ·have q4:i<R.length:=by simp[r1]at q3;omega
       rw[List.getElem_append_left q4];exact g2 i q1 q2 q4
    clear hO hIA hGA hx HS r2 r3 hlow;generalize V[k]=x at*;obtain⟨x1,x2⟩:=x;simp only at e1 e2;subst e1 e2;dsimp only at c1 c2 HRO HOB;generalize (Os.zip R).flatMap rmC=XS at*;go_wp2_with (first
     |(go_at_call 13;refine HRO.out.mono ?_;rintro e w1 ⟨⟨iv',gv',rfl,hri,hrg⟩,hb1⟩;obtain⟨qp,qc,hp2,hc2,rfl,rfl⟩:=room_slices (room_obj (iv':=iv') (gv':=gv') HOB.out hb1 (by rcases hri with h|⟨a,n,c,h2,h4⟩;exact Or.inl h;exact Or.inr ⟨a,n,c,h2,h4.low (Nat.zero_le _)⟩) (by rcases hrg with h|⟨a,n,c,h2,h4⟩;exact Or.inl h;exact Or.inr ⟨a,n,c,h2,h4.R⟩));have HB1:=hid hb1;have hz1:=hb1.size;have HKP:Hid (KpQ (λb=>wr.heap.size<=b∧b<w1.heap.size) w1 Os[k] (.slice ip Os[k].imps.length ic,.slice gp Os[k].globs.length gc) (.slice qp Os[k].imps.length qc,.slice hp2 Os[k].globs.length hc2)):=(⟨hri.imp id λ⟨a,n,c,h2,h4⟩=>⟨a,n,c,h2,h4.q⟩,hrg.imp id λ⟨a,n,c,h2,h4⟩=>⟨a,n,c,h2,h4.q⟩⟩);clear hb1 hri hrg)
     |(at_builtin;refine wpList_append_lies _ rfl (.tmp 19) (.tmp 21) 22 rfl w.heap.size 50 ii _ 3 64 Tryz.underlying22 hii hi0 hi1 hi2 rfl (by omega) (.slice vp k vc) k XS rfl (((row_kp HOW.out HB1.out).alloc _).alloc _) ⟨w1.heap.size+1,0,none⟩ 1 1 [.string Os[k].name,.slice qp Os[k].imps.length qc,.slice hp2 Os[k].globs.length hc2] rfl rfl (by have h:=World.news_of_block (heap_alloc_new (w1.alloc (Obj.cells #[.string Os[k].name,.slice qp Os[k].imps.length qc,.slice hp2 Os[k].globs.length hc2] 50)) (Obj.cells #[.string Os[k].name,.slice qp Os[k].imps.length qc,.slice hp2 Os[k].globs.length hc2] 50));simpa using h) (by intro u hu;simp at hu;rcases hu with rfl|rfl|rfl<;>rfl) (by omega) (by unfold maxLen;omega) (by omega) (by simp;omega) _ rfl ?_;intro G1 c1' w7 hown hgrow hat hlt1;have HRS:=hid (HNX.out _ _ (.slice qp Os[k].imps.length qc,.slice hp2 Os[k].globs.length hc2) _ _ ((HB1.out.alloc hz1 _).alloc (by simp;omega) _) (HKP.out.fr (by simp;omega) (λb hb hbl=>⟨⟨hb.1,by simp;omega⟩,by rw[Below.heap_alloc _ _ _ (by simp;omega),Below.heap_alloc _ _ _ hbl]⟩)) hgrow hat hown);clear hown hgrow hat hlt1))
    exact⟨⟨k+1,_,_,by omega,rfl,by go_num,HRS.out⟩,by simp[intOf];omega⟩
   ·obtain rfl:k=Os.length:=by omega
    have hge:¬(Os.length:Int)<(Os.length:Int):=by omega
    have HR3:=hid r3;have hRl:R.length=Os.length:=r1;have hxl:((Os.zip R).flatMap rmC).length=Os.length*3:=by
     rw[show(Os.zip R).flatMap rmC=(Os.zip R).flatMap (λx=>[Value.string x.1.name,x.2.1,x.2.2]) from rfl,flat3_len];simp[hRl]
    clear HS r2 r3 hlow;go_wp2_with (first
     |(at_builtin;refine wpList_append_lies _ rfl (.tmp 23) (.tmp 25) 22 rfl w.heap.size 50 ii _ 3 64 Tryz.underlying22 hii hi0 hi1 hi2 rfl (by omega) (.slice vp Os.length vc) Os.length ((Os.zip R).flatMap rmC) rfl (HOW.out.alloc _) ⟨wr.heap.size,0,none⟩ 1 1 [.string ⟨#[109,105,110,101]⟩,.slice none 0 0,.slice none 0 0] rfl rfl (by have h:=World.news_of_block (heap_alloc_new wr (Obj.cells #[.string ⟨#[109,105,110,101]⟩,.slice none 0 0,.slice none 0 0] 50));simpa using h) (by intro u hu;simp at hu;rcases hu with rfl|rfl|rfl<;>rfl) (by omega) (by unfold maxLen;omega) (by omega) (by simp;omega) _ rfl ?_;intro G1 c1' w7 hown hgrow hat hlt1;have HGR:=hid (RmS.grow HLW.out HOW.out HR3.out ((Below.refl _ _).alloc (Nat.le_refl _) _) hgrow hat);have HON:=hid hown;obtain⟨lg2,lb2,lc2⟩:=row_lt hown;have lc3:(Os.length:Int)<=(c1':Int):=(by omega);clear hown hgrow hat hlt1))
    go_ret;refine⟨HGR.out.1,_,_,rfl,Or.inr ⟨a,_,_,G1,c1',R,rfl,rfl,by omega,hRl,λi q1 q2 q3=>?_,?_⟩⟩
    ·obtain⟨f0,f1,f2⟩:=flat3_at (λx:LObj×Value×Value=>Value.string x.1.name) (λx=>x.2.1) (λx=>x.2.2) (Os.zip R) i (by simp;omega);rw[HON.out.cellAt _ (by omega),HON.out.cellAt _ (by omega),HON.out.cellAt _ (by omega),List.getElem?_append_left (by omega),List.getElem?_append_left (by omega),List.getElem?_append_left (by omega)];rw[List.getElem_zip]at f0 f1 f2;exact⟨f0,f1,f2,(HGR.out.2 i q1 q2 q3).fr (Nat.le_refl _) λb hb _=>⟨⟨hb.1,hb.2.1⟩,rfl⟩⟩
    ·rw[HON.out.cellAt _ (by omega),List.getElem?_append_right (by omega),hxl,Nat.sub_self];exact⟨rfl,⟨(row_lt HON.out).2.1,(row_lt HON.out).1⟩,λ_=>HON.out.frozenAt _⟩
def code7:List LIns:=[⟨0,7,[]⟩,⟨5,0,[]⟩,⟨19,0,[]⟩]
def tMain:ByteArray:=⟨#[109,97,105,110]⟩
def G7:LGlob:=⟨tMain,0,true,code7⟩
def O7:LObj:=⟨⟨#[109]⟩,[],[G7]⟩
theorem o7_vals:valsG O7=true:=by kernel_rfl
theorem out70:outI ⟨0,7,[]⟩ 1=2:=by kernel_rfl
theorem out75:outI ⟨5,0,[]⟩ 2=1:=by kernel_rfl
theorem least7:Least code7 1 [1,2,1]:=by
 refine⟨⟨rfl,leI.refl _,λk hk s hs=>?_⟩,λg hg i hi=>?_⟩
 ·rcases(show k=0∨k=1∨k=2 by simp[code7]at hk;omega) with rfl|rfl|rfl
  ·obtain rfl:s=1:=by simpa[code7,succs]using hs
   show leI (outI ⟨0,7,[]⟩ 1) 2;rw[out70];exact leI.refl _
  ·obtain rfl:s=2:=by simpa[code7,succs]using hs
   show leI (outI ⟨5,0,[]⟩ 2) 1;rw[out75];exact leI.refl _
  ·simp[code7,succs]at hs
 ·have h0:leI 1 (g.getD 0 0):=hg.start;have h1:leI 2 (g.getD 1 0):=(out70▸outI_mono ⟨0,7,[]⟩ h0:leI 2 (outI ⟨0,7,[]⟩ (g.getD 0 0))).trans (hg.step 0 (by simp[code7]) 1 (by simp[code7,succs]));have h2:leI 1 (g.getD 2 0):=(out75▸outI_mono ⟨5,0,[]⟩ h1:leI 1 (outI ⟨5,0,[]⟩ (g.getD 1 0))).trans (hg.step 1 (by simp[code7]) 2 (by simp[code7,succs]));rcases(show i=0∨i=1∨i=2 by simp[code7]at hi;omega) with rfl|rfl|rfl
  ·exact h0
  ·exact h1
  ·exact h2
theorem o7_bad:sBad 1 [G7] 0=none:=by
 have h:gBad code7 1 1=none:=by
  rw[gBad_depth (d0:=1) (most:=1) (code:=code7) (by kernel_rfl) (by simp[code7]) (by kernel_rfl) least7];kernel_rfl
 show(match gBad code7 (0+1) 1 with|some (e,i)=>some (e,0,i)|none=>sBad 1 [] 1)=none;rw[show(0:Int)+1=1 from rfl,h];rfl
theorem o7_doc:docS O7=resS none:=by
 unfold docS;rw[o7_vals];show resS (sBad (((0:Nat):Int)+((1:Nat):Int)) [G7] 0)=_;rw[show(((0:Nat):Int)+((1:Nat):Int))=1 by rfl,o7_bad]
theorem o7_ok:okO O7=true:=by
 unfold okO;rw[o7_vals];show(sBad (((0:Nat):Int)+((1:Nat):Int)) [G7] 0).isNone=_;rw[show(((0:Nat):Int)+((1:Nat):Int))=1 by rfl,o7_bad];rfl
theorem o7_lnk:lnkE [O7] tMain=none:=by
 unfold lnkE;rw[if_neg (by simp)];have h0:fstF (λ_ O=>!okO O) [O7] 0=none:=by
  unfold fstF;rw[o7_ok];rfl
 rw[h0];have h1:fstF (twB [O7]) [O7] 0=none:=by kernel_rfl
 have h2:fstF (λ_=>miB [O7]) [O7] 0=none:=by kernel_rfl
 have h3:fstF (λ_=>arB2 [O7]) [O7] 0=none:=by kernel_rfl
 rw[h1,h2,h3];show lnkX [O7] tMain=none;kernel_rfl
theorem o7_img:img [O7]=[⟨tMain,0,true,code7⟩]:=by kernel_rfl
theorem o7_ent:imgE [O7] tMain=0:=by kernel_rfl
end Go.Proofs.YtahmgjjgikgpoaaGreatDoor
