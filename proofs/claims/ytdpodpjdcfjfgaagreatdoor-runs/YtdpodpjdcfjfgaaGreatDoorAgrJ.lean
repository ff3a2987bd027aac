import Derived.Test.YtdpodpjdcfjfgaaGreatDoorJjJ
import Derived.Deep.RegionHeld3
import Derived.StillTail
set_option maxRecDepth 100000
set_option maxHeartbeats 4000000
namespace Go.Proofs.YtdpodpjdcfjfgaaGreatDoor
open Go.RowKit Go.Sort
def ImpsQ(P:Nat->Prop)(w:World)(v:Value)(l:List LImp):Prop:=
 ∃g cap,v=.slice (some ⟨g,0,none⟩) l.length cap∧l.length<cap∧P g∧g<w.heap.size∧(∀j,w.frozen? ⟨g,j,none⟩=false)∧(∀i (h:i<l.length),w.cell? ⟨g,i*2,none⟩=some (.string l[i].name)∧w.cell? ⟨g,i*2+1,none⟩=some (.int .i64 l[i].arity))∧w.cell? ⟨g,l.length*2+1,none⟩=some (.int .i64 (-77))
def GlobsQ(P:Nat->Prop)(w:World)(v:Value)(l:List LGlob):Prop:=
 ∃g cap,v=.slice (some ⟨g,0,none⟩) l.length cap∧l.length<cap∧P g∧g<w.heap.size∧(∀j,w.frozen? ⟨g,j,none⟩=false)∧(∀i (h:i<l.length),∃cv,w.cell? ⟨g,i*4,none⟩=some (.string l[i].name)∧w.cell? ⟨g,i*4+1,none⟩=some (.int .i64 l[i].arity)∧w.cell? ⟨g,i*4+2,none⟩=some (.bool l[i].exp)∧w.cell? ⟨g,i*4+3,none⟩=some cv∧CodeR w P cv l[i].code)∧w.cell? ⟨g,l.length*4+1,none⟩=some (.int .i64 (-77))
theorem ImpsR.q{w:World}{lo:Nat}{v:Value}{l:List LImp}(h:ImpsR w lo v l):ImpsQ (λb=>lo<=b∧b<w.heap.size) w v l:=by
 obtain⟨g,cap,e,h1,h2,h3,h4⟩:=h;exact⟨g,cap,e,h1,⟨h2,h3⟩,h3,h4⟩
theorem ImpsQ.r{P:Nat->Prop}{w:World}{v:Value}{l:List LImp}(h:ImpsQ P w v l):ImpsR w 0 v l:=by
 obtain⟨g,cap,e,h1,h2,h3,h4⟩:=h;exact⟨g,cap,e,h1,Nat.zero_le _,h3,h4⟩
theorem ImpsQ.fr{P Q:Nat->Prop}{w w':World}{v:Value}{l:List LImp}(h:ImpsQ P w v l)(hs:w.heap.size<=w'.heap.size)(hk:∀b,P b->b<w.heap.size->Q b∧w'.heap[b]?=w.heap[b]?):ImpsQ Q w' v l:=by
 obtain⟨g,cap,e,h1,h2,h3,hz,h4,h5⟩:=h;obtain⟨k1,k2⟩:=hk g h2 h3;exact⟨g,cap,e,h1,k1,by omega,λj=>by rw[World.frozen?_of_block (a:=⟨g,j,none⟩) k2];exact hz j,λi hi=>⟨cell_same k2 (h4 i hi).1,cell_same k2 (h4 i hi).2⟩,cell_same k2 h5⟩
theorem GlobsP.q{w:World}{lo:Nat}{v:Value}{l:List LGlob}(h:GlobsP w lo v l):GlobsQ (λb=>lo<=b∧b<w.heap.size) w v l:=by
 obtain⟨g,cap,e,h1,h2,h3,hz,h4,h5⟩:=h;refine⟨g,cap,e,h1,⟨h2,h3⟩,h3,hz,λi hi=>?_,h5⟩;obtain⟨cv,a0,a1,a2,a3,a4⟩:=h4 i hi;exact⟨cv,a0,a1,a2,a3,a4.far (Nat.le_refl _) (λb h1 h2=>⟨h1,h2⟩) (λ_ _ _ _=>rfl) λ_ _ _ _=>rfl⟩
theorem GlobsQ.r{P:Nat->Prop}{w:World}{v:Value}{l:List LGlob}(h:GlobsQ P w v l):GlobsR w v l:=by
 obtain⟨g,cap,e,h1,-,h3,-,h4,h5⟩:=h;refine⟨g,cap,e,h1,h3,λi hi=>?_,h5⟩;obtain⟨cv,a0,a1,a2,a3,a4⟩:=h4 i hi;exact⟨cv,a0,a1,a2,a3,a4.weak λ_ _=>trivial⟩
theorem GlobsQ.fr{P Q:Nat->Prop}{w w':World}{v:Value}{l:List LGlob}(h:GlobsQ P w v l)(hs:w.heap.size<=w'.heap.size)(hk:∀b,P b->b<w.heap.size->Q b∧w'.heap[b]?=w.heap[b]?):GlobsQ Q w' v l:=by
 obtain⟨g,cap,e,h1,h2,h3,hz,h4,h5⟩:=h;obtain⟨k1,k2⟩:=hk g h2 h3;refine⟨g,cap,e,h1,k1,by omega,λj=>by rw[World.frozen?_of_block (a:=⟨g,j,none⟩) k2];exact hz j,λi hi=>?_,cell_same k2 h5⟩;obtain⟨cv,a0,a1,a2,a3,a4⟩:=h4 i hi;exact⟨cv,cell_same k2 a0,cell_same k2 a1,cell_same k2 a2,cell_same k2 a3,a4.far hs (λb h1 h2=>(hk b h1 h2).1) (λb j h1 h2=>World.cell?_of_block (a:=⟨b,j,none⟩) (hk b h2 h1).2) λb j h1 h2=>World.frozen?_of_block (a:=⟨b,j,none⟩) (hk b h2 h1).2⟩
def KpQ(P:Nat->Prop)(w:World)(O:LObj)(x y:Value×Value):Prop:=
 ((∃n c,x.1=.slice none n c∧y.1=x.1)∨(∃a n c,x.1=.slice (some a) n c∧ImpsQ P w y.1 O.imps))∧((∃n c,x.2=.slice none n c∧y.2=x.2)∨(∃a n c,x.2=.slice (some a) n c∧GlobsQ P w y.2 O.globs))
theorem KpQ.fr{P Q:Nat->Prop}{w w':World}{O:LObj}{x y:Value×Value}(h:KpQ P w O x y)(hs:w.heap.size<=w'.heap.size)(hk:∀b,P b->b<w.heap.size->Q b∧w'.heap[b]?=w.heap[b]?):KpQ Q w' O x y:=by
 refine⟨h.1.imp id λ⟨a,n,c,e,h1⟩=>⟨a,n,c,e,h1.fr hs hk⟩,h.2.imp id λ⟨a,n,c,e,h1⟩=>⟨a,n,c,e,h1.fr hs hk⟩⟩
theorem KpQ.kept{P:Nat->Prop}{w:World}{O:LObj}{x y:Value×Value}(h:KpQ P w O x y):KeptI x.1 y.1 w 0 O.imps∧KeptG x.2 y.2 w O.globs:=⟨h.1.imp id λ⟨a,n,c,e,h1⟩=>⟨a,n,c,e,h1.r⟩,h.2.imp id λ⟨a,n,c,e,h1⟩=>⟨a,n,c,e,h1.r⟩⟩
structure OV (w:World) (p:Option Addr) (Os:List LObj) (V:List (Value×Value)):Prop where
 len:V.length=Os.length
 c:∀i (h:i<Os.length) (h2:i<V.length),∃b o,p=some ⟨b,o,none⟩∧w.cell? ⟨b,o+i*3,none⟩=some (.string Os[i].name)∧w.cell? ⟨b,o+i*3+1,none⟩=some V[i].1∧w.cell? ⟨b,o+i*3+2,none⟩=some V[i].2∧ObjAt w (.agg #[.string Os[i].name,V[i].1,V[i].2]) Os[i]
theorem ObjsIn.v{w:World}{p:Option Addr}{Os:List LObj}(h:ObjsIn w p Os):∃V,OV w p Os V:=by
 have hx:∀i,i<Os.length->∃x:Value×Value,∀hi:i<Os.length,∃b o,p=some ⟨b,o,none⟩∧w.cell? ⟨b,o+i*3,none⟩=some (.string Os[i].name)∧w.cell? ⟨b,o+i*3+1,none⟩=some x.1∧w.cell? ⟨b,o+i*3+2,none⟩=some x.2∧ObjAt w (.agg #[.string Os[i].name,x.1,x.2]) Os[i]:=λi hi=>by
  obtain⟨b,o,ip,ic,gp,gc,e,c0,c1,c2,hO⟩:=h i hi;exact⟨(_,_),λ_=>⟨b,o,e,c0,c1,c2,hO⟩⟩
 have:Inhabited (Value×Value):=⟨(.nilIface,.nilIface)⟩;obtain⟨f,hf⟩:=Go.Deep.choose_lt hx;exact⟨(List.range Os.length).map f,by simp,λi hi h2=>by simpa using hf i hi hi⟩
theorem OV.keep{w w':World}{p:Option Addr}{Os:List LObj}{V:List (Value×Value)}(h:OV w p Os V)(hb:Below w.heap.size w w'):OV w' p Os V:=⟨h.len,λi h1 h2=>by
 obtain⟨b,o,e,c0,c1,c2,hO⟩:=h.c i h1 h2;exact⟨b,o,e,cell_keep hb c0,cell_keep hb c1,cell_keep hb c2,hO.keep hb⟩⟩
def rmC(x:LObj×Value×Value):List Value:=[.string x.1.name,x.2.1,x.2.2]
structure RmS (w wr:World) (Os:List LObj) (V:List (Value×Value)) (v:Value) (k:Nat):Prop where
 low:Below w.heap.size w wr
 l:∃R:List (Value×Value),R.length=k∧wr.ownsRow w.heap.size 33 3 v k ((Os.zip R).flatMap rmC)∧∀i (h:i<Os.length) (h1:i<V.length) (h2:i<R.length),KpQ (λb=>w.heap.size<=b∧b<wr.heap.size∧v.ownBlock≠some b) wr Os[i] V[i] R[i]
theorem Tryz.objJ:(Tryz.prog.info? 33).map (λi=>(i.zero,i.size,i.bytes))=some (some (.agg #[.string ⟨#[]⟩,.slice none 0 0,.slice none 0 0]),3,64):=by kernel_rfl
theorem RmS.grow{w wr Z w2:World}{Os:List LObj}{V R:List (Value×Value)}{vp:Option Addr}{n vc:Nat}(h1:Below w.heap.size w wr)(h2:wr.ownsRow w.heap.size 33 3 (.slice vp n vc) n ((Os.zip R).flatMap rmC))(h3:∀i (h:i<Os.length) (h1:i<V.length) (h2:i<R.length),KpQ (λb=>w.heap.size<=b∧b<wr.heap.size∧(Value.slice vp n vc).ownBlock≠some b) wr Os[i] V[i] R[i])(hb:Below wr.heap.size wr Z)(hg:Z.grownBy w2 (Value.slice vp n vc).ownBlock){G:Nat}(hat:(Value.slice vp n vc).ownBlock=some G∨G=Z.heap.size):
 Below w.heap.size w w2∧∀i (h:i<Os.length) (h1:i<V.length) (h2:i<R.length),KpQ (λb=>w.heap.size<=b∧b<w2.heap.size∧some G≠some b) w2 Os[i] V[i] R[i]:=by
 have hz:=hb.size;have hlz:=h1.size;have hgz:=hg.size;have hlow:=λb (e:(Value.slice vp n vc).ownBlock=some b)=>row_low h2 e;refine⟨(h1.trans (hb.mono hlz)).grown hg (by omega) hlow,λi q1 q2 q3=>(h3 i q1 q2 q3).fr (by omega) λb ⟨g1,g2,g3⟩ hbl=>⟨⟨g1,by omega,λe=>?_⟩,?_⟩⟩
 ·cases e;rcases hat with h|h
  ·exact g3 h
  ·omega
 ·rw[hg.block b (by omega) (λe=>g3 e.symm)];exact hb.block b hbl
theorem KpQ.push{w wr Z w2:World}{O:LObj}{x y:Value×Value}{vp:Option Addr}{n vc:Nat}{xs:List Value}(h1:Below w.heap.size w wr)(h2:wr.ownsRow w.heap.size 33 3 (.slice vp n vc) n xs)(hb:Below wr.heap.size wr Z)(hq:KpQ (λb=>wr.heap.size<=b∧b<Z.heap.size) Z O x y)(hg:Z.grownBy w2 (Value.slice vp n vc).ownBlock){G:Nat}(hat:(Value.slice vp n vc).ownBlock=some G∨G=Z.heap.size):KpQ (λb=>w.heap.size<=b∧b<w2.heap.size∧some G≠some b) w2 O x y:=by
 have hz:=hb.size;have hlz:=h1.size;have hgz:=hg.size;have hup:∀b,(Value.slice vp n vc).ownBlock=some b->b<wr.heap.size:=λb e=>by
  rcases h2.2 with⟨h1,-⟩|⟨g,cap,cur,hv',-,hg',-⟩
  ·rw[h1]at e;cases e
  ·rw[hv']at e;obtain rfl:g=b:=by simpa[Value.ownBlock]using e
   exact(Array.getElem?_eq_some_iff.1 hg').1
 refine hq.fr hgz λb ⟨g1,g2⟩ hbl=>⟨⟨by omega,by omega,λe=>?_⟩,hg.block b hbl (λe=>by have:=hup b e.symm;omega)⟩;cases e;rcases hat with h|h
 ·have:=hup _ h;omega
 ·omega
theorem zip_snoc{α β:Type}{l:List α}{r:List β}{k:Nat}(hr:r.length=k)(hk:k<l.length)(y:β):l.zip (r++[y])=l.zip r++[(l[k],y)]:=by
 subst hr;apply List.ext_getElem
 ·simp;omega
 ·intro i h1 h2;simp at h1;by_cases e:i=r.length
  ·subst e;rw[List.getElem_append_right (by simp;omega)];simp
  ·have:i<r.length:=by omega
   rw[List.getElem_append_left (by simp;omega)];simp[List.getElem_append_left this]
def RoomsR(P:Nat->Prop)(w':World)(v rv:Value)(Os:List LObj)(V:List (Value×Value)):Prop:=
 (∃n c,v=.slice none n c∧rv=.slice none 0 0)∨(∃a n c g cap,∃R:List (Value×Value),v=.slice (some a) n c∧rv=.slice (some ⟨g,0,none⟩) Os.length cap∧Os.length<cap∧R.length=Os.length∧(∀i (h:i<Os.length) (h1:i<V.length) (h2:i<R.length),w'.cell? ⟨g,i*3,none⟩=some (.string Os[i].name)∧w'.cell? ⟨g,i*3+1,none⟩=some R[i].1∧w'.cell? ⟨g,i*3+2,none⟩=some R[i].2∧KpQ P w' Os[i] V[i] R[i])∧w'.cell? ⟨g,Os.length*3,none⟩=some (.string ⟨#[109,105,110,101]⟩)∧P g∧∀j,w'.frozen? ⟨g,j,none⟩=false)
theorem rooms_any(Os:List LObj)(p:Option Addr)(cap:Nat)(V:List (Value×Value))(w:World)(hV:OV w p Os V)(hp:p=none->Os.length=0)(hz:∀O∈Os,SizedO O.imps O.globs)(hl:Os.length*64<=140737488351232):
 Calls Tryz.prog 25 #[.slice p Os.length cap] w λe w'=>Below w.heap.size w w'∧∃rp rc,e=.returned (.slice rp Os.length rc)∧RoomsR (λb=>w.heap.size<=b∧b<w'.heap.size) w' (.slice p Os.length cap) (.slice rp Os.length rc) Os V:=by
 obtain⟨ii,hii,hij⟩:=Option.map_eq_some_iff.1 Tryz.objJ;simp only[Prod.mk.injEq]at hij;obtain⟨hi0,hi1,hi2⟩:=hij;have hq:∀W a n c,(binOp .eql 54 (.slice a n c) (.slice none 0 0)).run Tryz.prog W=.ok (.bool a.isNone) W:=λW a n c=>eql_nil W _ _ a n c Tryz.underlying54;cases p with
 |none=>
  have h0:=hp rfl;rw[h0];go_enter Tryz.func25,Tryz.ntmps25;go_wp2;go_ret;exact⟨Below.refl _ _,none,0,rfl,Or.inl ⟨_,_,rfl,rfl⟩⟩
 |some a=>
  have HV:=hid (λX (hb:Below w.heap.size w X)=>hV.keep hb);have HVL:=hid hV.len;have HZ:=hid hz;clear hV hz;go_enter Tryz.func25,Tryz.ntmps25;go_wp2;go_loopw [3,4] (λcv kv wr=>∃(k:Nat) (vp:Option Addr) (vc:Nat),k<=Os.length∧cv=.slice vp k vc∧kv=.int .i64 (k:Int)∧Hid (RmS w wr Os V (.slice vp k vc) k)) (λ_ kv _=>Os.length-(intOf kv).toNat)
  case atStart=>exact⟨0,none,0,Nat.zero_le _,rfl,rfl,Below.refl _ _,[],rfl,by simpa using World.ownsRow_nil _ _ _ _,λi _ _ h=>absurd h (by simp)⟩
  case round=>
   obtain⟨k,vp,vc,hk,rfl,rfl,HS⟩:=hrel;rename World=>wr
   obtain⟨hlow,R,r1,r2,r3⟩:=HS.out;have HLW:=hid hlow;have HOW:=hid r2;have hzw:=hlow.size;by_cases hlt:k<Os.length
   ·have h0:(0:Int)<=(k:Int):=by omega
    have h1:(k:Int)<(Os.length:Int):=by omega
    have hlv:k<V.length:=by rw[HVL.out];exact hlt
    obtain⟨b,o,e,c0,c1,c2,hO⟩:=(HV.out _ hlow).c k hlt hlv;cases e;obtain⟨iv,gv,hx,-,hIA,hGA⟩:=id hO;obtain⟨rfl,rfl⟩:V[k].1=iv∧V[k].2=gv:=by simpa using hx
    obtain⟨ip,ic,e1,-⟩:=hIA.open;obtain⟨gp,gc,e2,-⟩:=hGA.open;have HRO:=hid (roomy_x Os[k].name V[k].1 V[k].2 Os[k].imps Os[k].globs wr hIA hGA (HZ.out _ (List.getElem_mem _)));have HOB:=hid hO;have HNX:Hid (∀Z w2 y G c,Below wr.heap.size wr Z->KpQ (λb=>wr.heap.size<=b∧b<Z.heap.size) Z Os[k] V[k] y->Z.grownBy w2 (Value.slice vp k vc).ownBlock->((Value.slice vp k vc).ownBlock=some G∨G=Z.heap.size)->w2.ownsRow w.heap.size 33 3 (.slice (some ⟨G,0,none⟩) (k+1) c) (k+1) ((Os.zip R).flatMap rmC++[.string Os[k].name,y.1,y.2])->RmS w w2 Os V (.slice (some ⟨G,0,none⟩) (k+1) c) (k+1)):=by
     intro Z w2 y G c hb hq hg hat hown;obtain⟨g1,g2⟩:=RmS.grow hlow r2 r3 hb hg hat;refine⟨g1,R++[y],by simp[r1],?_,λi q1 q2 q3=>?_⟩
     ·rw[zip_snoc r1 hlt,List.flatMap_append];exact hown
     ·by_cases e:i=k
      ·subst e;have e3:(R++[y])[i]=y:=by simp[<-r1]
       rw[e3];exact KpQ.push hlow r2 hb hq hg hat
      ·have q4:i<R.length:=by simp[r1]at q3;omega
       rw[List.getElem_append_left q4];exact g2 i q1 q2 q4
    clear hO hIA hGA hx HS r2 r3 hlow;generalize V[k]=x at*;obtain⟨x1,x2⟩:=x;simp only at e1 e2;subst e1 e2;dsimp only at c1 c2 HRO HOB;generalize (Os.zip R).flatMap rmC=XS at*;go_wp2_with (first
     |(go_at_call 58;refine HRO.out.mono ?_;rintro e w1 ⟨⟨iv',gv',rfl,hri,hrg⟩,hb1⟩;obtain⟨qp,qc,hp2,hc2,rfl,rfl⟩:=room_slices (room_obj (iv':=iv') (gv':=gv') HOB.out hb1 (by rcases hri with h|⟨a,n,c,h2,h4⟩;exact Or.inl h;exact Or.inr ⟨a,n,c,h2,h4.low (Nat.zero_le _)⟩) (by rcases hrg with h|⟨a,n,c,h2,h4⟩;exact Or.inl h;exact Or.inr ⟨a,n,c,h2,h4.R⟩));have HB1:=hid hb1;have hz1:=hb1.size;have HKP:Hid (KpQ (λb=>wr.heap.size<=b∧b<w1.heap.size) w1 Os[k] (.slice ip Os[k].imps.length ic,.slice gp Os[k].globs.length gc) (.slice qp Os[k].imps.length qc,.slice hp2 Os[k].globs.length hc2)):=(⟨hri.imp id λ⟨a,n,c,h2,h4⟩=>⟨a,n,c,h2,h4.q⟩,hrg.imp id λ⟨a,n,c,h2,h4⟩=>⟨a,n,c,h2,h4.q⟩⟩);clear hb1 hri hrg)
     |(at_builtin;refine wpList_append_lies _ rfl (.tmp 19) (.tmp 21) 54 rfl w.heap.size 33 ii _ 3 64 Tryz.underlying54 hii hi0 hi1 hi2 rfl (by omega) (.slice vp k vc) k XS rfl (((row_kp HOW.out HB1.out).alloc _).alloc _) ⟨w1.heap.size+1,0,none⟩ 1 1 [.string Os[k].name,.slice qp Os[k].imps.length qc,.slice hp2 Os[k].globs.length hc2] rfl rfl (by have h:=World.news_of_block (heap_alloc_new (w1.alloc (Obj.cells #[.string Os[k].name,.slice qp Os[k].imps.length qc,.slice hp2 Os[k].globs.length hc2] 33)) (Obj.cells #[.string Os[k].name,.slice qp Os[k].imps.length qc,.slice hp2 Os[k].globs.length hc2] 33));simpa using h) (by intro u hu;simp at hu;rcases hu with rfl|rfl|rfl<;>rfl) (by omega) (by unfold maxLen;omega) (by omega) (by simp;omega) _ rfl ?_;intro G1 c1' w7 hown hgrow hat hlt1;have HRS:=hid (HNX.out _ _ (.slice qp Os[k].imps.length qc,.slice hp2 Os[k].globs.length hc2) _ _ ((HB1.out.alloc hz1 _).alloc (by simp;omega) _) (HKP.out.fr (by simp;omega) (λb hb hbl=>⟨⟨hb.1,by simp;omega⟩,by rw[Below.heap_alloc _ _ _ (by simp;omega),Below.heap_alloc _ _ _ hbl]⟩)) hgrow hat hown);clear hown hgrow hat hlt1))
    exact⟨⟨k+1,_,_,by omega,rfl,by go_num,HRS.out⟩,by simp[intOf];omega⟩
   ·obtain rfl:k=Os.length:=by omega
    have hge:¬(Os.length:Int)<(Os.length:Int):=by omega
    have HR3:=hid r3;have hRl:R.length=Os.length:=r1;have hxl:((Os.zip R).flatMap rmC).length=Os.length*3:=by
     rw[show(Os.zip R).flatMap rmC=(Os.zip R).flatMap (λx=>[Value.string x.1.name,x.2.1,x.2.2]) from rfl,flat3_len];simp[hRl]
    clear HS r2 r3 hlow;go_wp2_with (first
     |(at_builtin;refine wpList_append_lies _ rfl (.tmp 23) (.tmp 25) 54 rfl w.heap.size 33 ii _ 3 64 Tryz.underlying54 hii hi0 hi1 hi2 rfl (by omega) (.slice vp Os.length vc) Os.length ((Os.zip R).flatMap rmC) rfl (HOW.out.alloc _) ⟨wr.heap.size,0,none⟩ 1 1 [.string ⟨#[109,105,110,101]⟩,.slice none 0 0,.slice none 0 0] rfl rfl (by have h:=World.news_of_block (heap_alloc_new wr (Obj.cells #[.string ⟨#[109,105,110,101]⟩,.slice none 0 0,.slice none 0 0] 33));simpa using h) (by intro u hu;simp at hu;rcases hu with rfl|rfl|rfl<;>rfl) (by omega) (by unfold maxLen;omega) (by omega) (by simp;omega) _ rfl ?_;intro G1 c1' w7 hown hgrow hat hlt1;have HGR:=hid (RmS.grow HLW.out HOW.out HR3.out ((Below.refl _ _).alloc (Nat.le_refl _) _) hgrow hat);have HON:=hid hown;obtain⟨lg2,lb2,lc2⟩:=row_lt hown;have lc3:(Os.length:Int)<=(c1':Int):=(by omega);clear hown hgrow hat hlt1))
    go_ret;refine⟨HGR.out.1,_,_,rfl,Or.inr ⟨a,_,_,G1,c1',R,rfl,rfl,by omega,hRl,λi q1 q2 q3=>?_,?_⟩⟩
    ·obtain⟨f0,f1,f2⟩:=flat3_at (λx:LObj×Value×Value=>Value.string x.1.name) (λx=>x.2.1) (λx=>x.2.2) (Os.zip R) i (by simp;omega);rw[HON.out.cellAt _ (by omega),HON.out.cellAt _ (by omega),HON.out.cellAt _ (by omega),List.getElem?_append_left (by omega),List.getElem?_append_left (by omega),List.getElem?_append_left (by omega)];rw[List.getElem_zip]at f0 f1 f2;exact⟨f0,f1,f2,(HGR.out.2 i q1 q2 q3).fr (Nat.le_refl _) λb hb _=>⟨⟨hb.1,hb.2.1⟩,rfl⟩⟩
    ·rw[HON.out.cellAt _ (by omega),List.getElem?_append_right (by omega),hxl,Nat.sub_self];exact⟨rfl,⟨(row_lt HON.out).2.1,(row_lt HON.out).1⟩,λ_=>HON.out.frozenAt _⟩
theorem RoomsR.keep{P:Nat->Prop}{w w':World}{v rv:Value}{Os:List LObj}{V:List (Value×Value)}(h:RoomsR P w v rv Os V)(hb:Below w.heap.size w w'):RoomsR P w' v rv Os V:=by
 rcases h with h|⟨a,n,c,g,cap,R,e1,e2,h1,h2,h3,h4⟩
 ·exact Or.inl h
 ·have hg:g<w.heap.size:=block_lt_of_cell h4.1;refine Or.inr ⟨a,n,c,g,cap,R,e1,e2,h1,h2,λi k1 k2 k3=>?_,cell_keep hb h4.1,h4.2.1,λj=>by rw[World.frozen?_of_block (a:=⟨g,j,none⟩) (hb.block g hg)];exact h4.2.2 j⟩;obtain⟨c0,c1,c2,hq⟩:=h3 i k1 k2 k3;exact⟨cell_keep hb c0,cell_keep hb c1,cell_keep hb c2,hq.fr hb.size λb hp hl=>⟨hp,hb.block b hl⟩⟩
theorem RoomsR.objs{P:Nat->Prop}{w:World}{p rp:Option Addr}{cap rc:Nat}{Os:List LObj}{V:List (Value×Value)}(h:RoomsR P w (.slice p Os.length cap) (.slice rp Os.length rc) Os V)(hV:OV w p Os V)(hs:short Os.length)(hp:p=none->Os.length=0):ObjsAt w (.slice rp Os.length rc) Os:=by
 rcases h with⟨n,c,e1,e2⟩|⟨a,n,c,g,cap',R,e1,e2,h1,h2,h3,h4⟩
 ·cases e1;have h0:=hp rfl;exact⟨rp,rc,rfl,hs,λi hi=>absurd hi (by omega)⟩
 ·cases e2;refine⟨_,_,rfl,hs,λi hi=>?_⟩;have hv:i<V.length:=by rw[hV.len];exact hi
  have hr:i<R.length:=by rw[h2];exact hi
  obtain⟨c0,c1,c2,hq⟩:=h3 i hi hv hr;obtain⟨b,o,-,-,-,-,hO⟩:=hV.c i hi hv;have hO2:=room_obj hO (Below.refl _ _) hq.kept.1 hq.kept.2;obtain⟨ip,ic,gp,gc,e3,e4⟩:=room_slices hO2;rw[e3]at c1 hO2;rw[e4]at c2 hO2;exact⟨g,0,ip,ic,gp,gc,rfl,by rw[Nat.zero_add];exact c0,by rw[Nat.zero_add];exact c1,by rw[Nat.zero_add];exact c2,hO2⟩
def Lk(v u:Value):Prop:=u=v∨(∃s s',v=.string s∧u=.string s')∨(∃x y,v=.int .i64 x∧u=.int .i64 y)∨(∃x y,v=.bool x∧u=.bool y)∨(∃p n c,v=.slice p n c∧u=.slice none 0 0)
theorem Lk.trans{v u x:Value}(h:Lk v u)(k:Lk u x):Lk v x:=by
 rcases k with rfl|⟨s,s',rfl,rfl⟩|⟨y,z,rfl,rfl⟩|⟨y,z,rfl,rfl⟩|⟨p,n,c,rfl,rfl⟩
 ·exact h
 ·rcases h with e|⟨a,b,e1,e2⟩|⟨a,b,e1,e2⟩|⟨a,b,e1,e2⟩|⟨a,b,c,e1,e2⟩
  ·exact Or.inr (Or.inl ⟨_,_,e.symm,rfl⟩)
  ·exact Or.inr (Or.inl ⟨_,_,e1,rfl⟩)
  all_goals cases e2
 ·rcases h with e|⟨a,b,e1,e2⟩|⟨a,b,e1,e2⟩|⟨a,b,e1,e2⟩|⟨a,b,c,e1,e2⟩
  ·exact Or.inr (Or.inr (Or.inl ⟨_,_,e.symm,rfl⟩))
  ·cases e2
  ·exact Or.inr (Or.inr (Or.inl ⟨_,_,e1,rfl⟩))
  all_goals cases e2
 ·rcases h with e|⟨a,b,e1,e2⟩|⟨a,b,e1,e2⟩|⟨a,b,e1,e2⟩|⟨a,b,c,e1,e2⟩
  ·exact Or.inr (Or.inr (Or.inr (Or.inl ⟨_,_,e.symm,rfl⟩)))
  ·cases e2
  ·cases e2
  ·exact Or.inr (Or.inr (Or.inr (Or.inl ⟨_,_,e1,rfl⟩)))
  ·cases e2
 ·rcases h with e|⟨a,b,e1,e2⟩|⟨a,b,e1,e2⟩|⟨a,b,e1,e2⟩|⟨a,b,d,e1,e2⟩
  ·exact Or.inr (Or.inr (Or.inr (Or.inr ⟨_,_,_,e.symm,rfl⟩)))
  ·cases e2
  ·cases e2
  ·cases e2
  ·exact Or.inr (Or.inr (Or.inr (Or.inr ⟨_,_,_,e1,rfl⟩)))
theorem Lk.str(s s':ByteArray):Lk (.string s) (.string s'):=Or.inr (Or.inl ⟨_,_,rfl,rfl⟩)
theorem Lk.i(x y:Int):Lk (.int .i64 x) (.int .i64 y):=Or.inr (Or.inr (Or.inl ⟨_,_,rfl,rfl⟩))
theorem Lk.b(x y:Bool):Lk (.bool x) (.bool y):=Or.inr (Or.inr (Or.inr (Or.inl ⟨_,_,rfl,rfl⟩)))
theorem Lk.nil(p:Option Addr)(n c:Nat):Lk (.slice p n c) (.slice none 0 0):=Or.inr (Or.inr (Or.inr (Or.inr ⟨_,_,_,rfl,rfl⟩)))
structure SpI (P:Nat->Prop) (w X:World):Prop where
 os:X.os=w.os
 tape:X.tape=w.tape
 output:X.output=w.output
 size:w.heap.size<=X.heap.size
 fr:∀b,b<w.heap.size->¬P b->X.heap[b]?=w.heap[b]?
 cl:∀b j v,P b->w.cell? ⟨b,j,none⟩=some v->∃u,X.cell? ⟨b,j,none⟩=some u∧Lk v u
 fz:∀b j,P b->w.frozen? ⟨b,j,none⟩=false->X.frozen? ⟨b,j,none⟩=false
section
variable {P:Nat->Prop} {w X:World}
theorem SpI.refl(P:Nat->Prop)(w:World):SpI P w w:=⟨rfl,rfl,rfl,Nat.le_refl _,λ_ _ _=>rfl,λ_ _ v _ h=>⟨v,h,Or.inl rfl⟩,λ_ _ _ h=>h⟩
theorem SpI.set(h:SpI P w X){b j:Nat}{v u:Value}(hb:P b)(hc:w.cell? ⟨b,j,none⟩=some v)(hk:Lk v u):SpI P w (X.setCell ⟨b,j,none⟩ u):=by
 refine⟨h.os,h.tape,h.output,by simpa using h.size,λq hq hp=>?_,λq i x hp hx=>?_,λq i hp hx=>by rw[World.frozen?_setCell];exact h.fz q i hp hx⟩
 ·rw[Below.heap_setCell _ _ _ _ (show q≠b from λe=>hp (e▸hb))];exact h.fr q hq hp
 ·by_cases e:q=b
  ·subst e;by_cases e2:i=j
   ·subst e2;rw[hx]at hc;cases hc;obtain⟨y,hy,-⟩:=h.cl q i _ hp hx;exact⟨u,World.cell?_setCell_same _ _ _ hy,hk⟩
   ·rw[setc (Ne.symm e2)];exact h.cl q i x hp hx
  ·rw[World.cell?_of_block (a:=⟨q,i,none⟩) (Below.heap_setCell _ _ _ _ e)];exact h.cl q i x hp hx
theorem SpI.alloc(h:SpI P w X)(hP:∀b,P b->b<w.heap.size)(o:Obj):SpI P w (X.alloc o):=by
 have hb:Below X.heap.size X (X.alloc o):=(Below.refl _ _).alloc (Nat.le_refl _) _;have hs:=h.size;exact⟨h.os,h.tape,h.output,by simp;omega,λq hq hp=>(hb.block q (by omega)).trans (h.fr q hq hp),λq i x hp hx=>by
  obtain⟨y,hy,k⟩:=h.cl q i x hp hx;exact⟨y,cell_keep hb hy,k⟩,λq i hp hx=>by
  rw[World.frozen?_of_block (a:=⟨q,i,none⟩) (hb.block q (by have:=hP q hp;omega))];exact h.fz q i hp hx⟩
def AlL(P:Nat->Prop)(w:World)(v:Value):Prop:=∃p n c,v=.slice p n c∧n<140737488355328∧(n=0∨∃g,p=some ⟨g,0,none⟩∧P g∧(∀j,w.frozen? ⟨g,j,none⟩=false)∧∀i,i<n->∃x y,w.cell? ⟨g,i*2,none⟩=some (.int .i64 x)∧w.cell? ⟨g,i*2+1,none⟩=some (.int .i64 y))
def ImL(P:Nat->Prop)(w:World)(v:Value):Prop:=∃p n c,v=.slice p n c∧n<140737488355328∧(n=0∨∃g,p=some ⟨g,0,none⟩∧P g∧(∀j,w.frozen? ⟨g,j,none⟩=false)∧∀i,i<n->∃x y,w.cell? ⟨g,i*2,none⟩=some (.string x)∧w.cell? ⟨g,i*2+1,none⟩=some (.int .i64 y))
def CoL(P:Nat->Prop)(w:World)(v:Value):Prop:=∃p n c,v=.slice p n c∧n<140737488355328∧(n=0∨∃g,p=some ⟨g,0,none⟩∧P g∧(∀j,w.frozen? ⟨g,j,none⟩=false)∧∀i,i<n->∃x y av,w.cell? ⟨g,i*3,none⟩=some (.int .i64 x)∧w.cell? ⟨g,i*3+1,none⟩=some (.int .i64 y)∧w.cell? ⟨g,i*3+2,none⟩=some av∧AlL P w av)
def GlL(P:Nat->Prop)(w:World)(v:Value):Prop:=∃p n c,v=.slice p n c∧n<140737488355328∧(n=0∨∃g,p=some ⟨g,0,none⟩∧P g∧(∀j,w.frozen? ⟨g,j,none⟩=false)∧∀i,i<n->∃x y z cv,w.cell? ⟨g,i*4,none⟩=some (.string x)∧w.cell? ⟨g,i*4+1,none⟩=some (.int .i64 y)∧w.cell? ⟨g,i*4+2,none⟩=some (.bool z)∧w.cell? ⟨g,i*4+3,none⟩=some cv∧CoL P w cv)
theorem lk_slice{v u:Value}{p:Option Addr}{n c:Nat}(h:Lk v u)(e:v=.slice p n c):u=.slice p n c∨u=.slice none 0 0:=by
 rcases h with rfl|⟨s,s',e1,-⟩|⟨x,y,e1,-⟩|⟨x,y,e1,-⟩|⟨p',n',c',-,e2⟩
 ·exact Or.inl e
 ·rw[e]at e1;cases e1
 ·rw[e]at e1;cases e1
 ·rw[e]at e1;cases e1
 ·exact Or.inr e2
theorem AlL.lk{v u:Value}(h:AlL P w v)(k:Lk v u):AlL P w u:=by
 obtain⟨p,n,c,e,hn,h⟩:=h;rcases lk_slice k e with rfl|rfl
 ·exact⟨p,n,c,rfl,hn,h⟩
 ·exact⟨none,0,0,rfl,by omega,Or.inl rfl⟩
theorem CoL.lk{v u:Value}(h:CoL P w v)(k:Lk v u):CoL P w u:=by
 obtain⟨p,n,c,e,hn,h⟩:=h;rcases lk_slice k e with rfl|rfl
 ·exact⟨p,n,c,rfl,hn,h⟩
 ·exact⟨none,0,0,rfl,by omega,Or.inl rfl⟩
theorem ImL.lk{v u:Value}(h:ImL P w v)(k:Lk v u):ImL P w u:=by
 obtain⟨p,n,c,e,hn,h⟩:=h;rcases lk_slice k e with rfl|rfl
 ·exact⟨p,n,c,rfl,hn,h⟩
 ·exact⟨none,0,0,rfl,by omega,Or.inl rfl⟩
theorem GlL.lk{v u:Value}(h:GlL P w v)(k:Lk v u):GlL P w u:=by
 obtain⟨p,n,c,e,hn,h⟩:=h;rcases lk_slice k e with rfl|rfl
 ·exact⟨p,n,c,rfl,hn,h⟩
 ·exact⟨none,0,0,rfl,by omega,Or.inl rfl⟩
theorem lk_str{s:ByteArray}{u:Value}(h:Lk (.string s) u):∃s',u=.string s':=by
 rcases h with rfl|⟨s,s',-,rfl⟩|⟨x,y,e1,-⟩|⟨x,y,e1,-⟩|⟨p',n',c',e1,-⟩
 ·exact⟨_,rfl⟩
 ·exact⟨_,rfl⟩
 all_goals cases e1
theorem c3_off{b g j:Nat}{x0 x1 x2 u:Value}(hc:C3 X b x0 x1 x2)(hg:g≠b):C3 (X.setCell ⟨g,j,none⟩ u) b x0 x1 x2:=by
 have hb:(X.setCell ⟨g,j,none⟩ u).heap[b]?=X.heap[b]?:=Below.heap_setCell _ _ _ _ (Ne.symm hg);obtain⟨c0,c1,c2,hl⟩:=hc;exact⟨cell_same hb c0,cell_same hb c1,cell_same hb c2,by simpa using hl⟩
def SpC(P:Nat->Prop)(w:World)(b:Nat)(x0 x1 x2:Value)(X:World):Prop:=SpI P w X∧C3 X b x0 x1 x2∧w.heap.size<=b
theorem SpC.set(hP:∀b,P b->b<w.heap.size){b g j:Nat}{x0 x1 x2 v u:Value}(h:SpC P w b x0 x1 x2 X)(hg:P g)(hc:w.cell? ⟨g,j,none⟩=some v)(hk:Lk v u):SpC P w b x0 x1 x2 (X.setCell ⟨g,j,none⟩ u):=
 ⟨h.1.set hg hc hk,c3_off h.2.1 (by have:=hP g hg;have:=h.2.2;omega),h.2.2⟩
theorem spoil_any(hP:∀b,P b->b<w.heap.size)(n rc:Nat)(rp:Option Addr)(hn:n<140737488355328)(hrow:n=0∨∃g,rp=some ⟨g,0,none⟩∧P g∧(∀j,w.frozen? ⟨g,j,none⟩=false)∧∀i,i<n->∃s iv gv,w.cell? ⟨g,i*3,none⟩=some (.string s)∧w.cell? ⟨g,i*3+1,none⟩=some iv∧w.cell? ⟨g,i*3+2,none⟩=some gv∧ImL P w iv∧GlL P w gv):
 Calls Tryz.prog 29 #[.slice rp n rc] w λe w'=>e=.returned (.tuple #[])∧SpI P w w':=by
 have HP:=hid hP;have HROW:=hid hrow;clear hrow hP;go_enter Tryz.func29,Tryz.ntmps29;go_wp2;go_loopw [2] (λkv wr=>∃k:Nat,k<=n∧kv=.int .i64 (k:Int)∧Hid (SpI P w wr)) (λkv _=>n-(intOf kv).toNat)
 case atStart=>exact⟨0,Nat.zero_le _,rfl,SpI.refl _ _⟩
 case round=>
  rename World=>wr
  obtain⟨k,hk,rfl,HS⟩:=hrel;by_cases hlt:k<n
  ·obtain⟨g,rfl,hPg,hfz,hcs⟩:∃g,rp=some ⟨g,0,none⟩∧P g∧(∀j,w.frozen? ⟨g,j,none⟩=false)∧∀i,i<n->∃s iv gv,w.cell? ⟨g,i*3,none⟩=some (.string s)∧w.cell? ⟨g,i*3+1,none⟩=some iv∧w.cell? ⟨g,i*3+2,none⟩=some gv∧ImL P w iv∧GlL P w gv:=by
    rcases HROW.out with h|h
    ·omega
    ·exact h
   have h0:(0:Int)<=(k:Int):=by omega
   have h1:(k:Int)<(n:Int):=by omega
   obtain⟨s,iv,gv,a0,a1,a2,hIm,hGl⟩:=hcs k hlt;obtain⟨u0,q0,l0⟩:=HS.out.cl g _ _ hPg a0;obtain⟨u1,q1,l1⟩:=HS.out.cl g _ _ hPg a1;obtain⟨u2,q2,l2⟩:=HS.out.cl g _ _ hPg a2;obtain⟨s',rfl⟩:=lk_str l0;obtain⟨p1,n1,c1,rfl,hn1,hI1⟩:=hIm.lk l1;obtain⟨p2,n2,c2,rfl,hn2,hG2⟩:=hGl.lk l2;have HROWK:=hid (And.intro a0 (And.intro a1 (And.intro a2 (And.intro l1 (And.intro l2 (And.intro hPg hfz))))));have HI1:=hid hI1;have HG2:=hid hG2;have HN:=hid (C3.new wr (.string s') (.slice p1 n1 c1) (.slice p2 n2 c2) 33);have HSA:=hid (HS.out.alloc HP.out (.cells #[.string s',.slice p1 n1 c1,.slice p2 n2 c2] 33));have HSZ:=hid HS.out.size;clear hcs hIm hGl a0 a1 a2 l0 l1 l2 hI1 hG2 hfz hPg;go_upto_region 3 with fail
   go_cut [3] (λv3 wx=>∃b3:Nat,v3=.pointer (some ⟨b3,0,none⟩)∧Hid (SpC P w b3 (.string s') (.slice p1 n1 c1) (.slice p2 n2 c2) wx))
   case first=>
    go_wp2;go_meet
    exact⟨_,rfl,HSA.out,HN.out,HSZ.out⟩
   case rest=>
    clear HN HSA HSZ HS q0 q1 q2;rename World=>wx
    obtain⟨b3,rfl,HC⟩:=hcut;go_wp2;go_loopw [4] (λjv wi=>∃j:Nat,j<=n1∧jv=.int .i64 (j:Int)∧Hid (SpC P w b3 (.string s') (.slice p1 n1 c1) (.slice p2 n2 c2) wi)) (λjv _=>n1-(intOf jv).toNat)
    case atStart=>exact⟨0,Nat.zero_le _,rfl,HC.out⟩
    case round=>
     clear HC;rename World=>wi
     obtain⟨j,hj,rfl,HC⟩:=hrel;obtain⟨x0,x1,x2,-⟩:=id HC.out.2.1;by_cases hjl:j<n1
     ·obtain⟨g1,rfl,hPg,hfz,hcs⟩:∃g,p1=some ⟨g,0,none⟩∧P g∧(∀j,w.frozen? ⟨g,j,none⟩=false)∧∀i,i<n1->∃x y,w.cell? ⟨g,i*2,none⟩=some (.string x)∧w.cell? ⟨g,i*2+1,none⟩=some (.int .i64 y):=by
       rcases HI1.out with h|h
       ·omega
       ·exact h
      obtain⟨y0,y1,d0,d1⟩:=hcs j hjl;obtain⟨t0,r0,-⟩:=HC.out.1.cl g1 _ _ hPg d0;obtain⟨t1,r1,-⟩:=HC.out.1.cl g1 _ _ hPg d1;have f0:=HC.out.1.fz g1 (j*2) hPg (hfz _);have f1:=HC.out.1.fz g1 (j*2+1) hPg (hfz _);have h2:(0:Int)<=(j:Int):=by omega
      have h3:(j:Int)<(n1:Int):=by omega
      have HC2:=hid ((HC.out.set HP.out hPg d0 (Lk.str _ ⟨#[]⟩)).set HP.out hPg d1 (Lk.i _ 0));clear hcs hfz hPg d0 d1 HC;go_wp2;exact⟨⟨j+1,by omega,by go_num,HC2.out⟩,by simp[intOf];omega⟩
     ·obtain rfl:n1=j:=by omega
      have h2:¬(n1:Int)<(n1:Int):=by omega
      go_wp2;clear h2 hjl hj x0 x1 x2;go_loopw [5] (λjv wi=>∃j:Nat,j<=n2∧jv=.int .i64 (j:Int)∧Hid (SpC P w b3 (.string s') (.slice p1 n1 c1) (.slice p2 n2 c2) wi)) (λjv _=>n2-(intOf jv).toNat)
      case atStart=>exact⟨0,Nat.zero_le _,rfl,HC.out⟩
      case round=>
       clear HC;rename World=>wj
       obtain⟨m,hm,rfl,HC⟩:=hrel;obtain⟨x0,x1,x2,-⟩:=id HC.out.2.1;by_cases hml:m<n2
       ·obtain⟨g2,rfl,hPg2,hfz2,hcs2⟩:∃g,p2=some ⟨g,0,none⟩∧P g∧(∀j,w.frozen? ⟨g,j,none⟩=false)∧∀i,i<n2->∃x y z cv,w.cell? ⟨g,i*4,none⟩=some (.string x)∧w.cell? ⟨g,i*4+1,none⟩=some (.int .i64 y)∧w.cell? ⟨g,i*4+2,none⟩=some (.bool z)∧w.cell? ⟨g,i*4+3,none⟩=some cv∧CoL P w cv:=by
         rcases HG2.out with h|h
         ·omega
         ·exact h
        obtain⟨y0,y1,y2,cv,d0,d1,d2,d3,hCo⟩:=hcs2 m hml;obtain⟨t3,r3,k3⟩:=HC.out.1.cl g2 _ _ hPg2 d3;obtain⟨p3,n3,c3,rfl,hn3,hC3⟩:=hCo.lk k3;have h2:(0:Int)<=(m:Int):=by omega
        have h3:(m:Int)<(n2:Int):=by omega
        have HFG:Hid (∀X,SpC P w b3 (.string s') (.slice p1 n1 c1) (.slice (some ⟨g2,0,none⟩) n2 c2) X->(∃e0 e1 e2 e3,X.cell? ⟨g2,m*4,none⟩=some e0∧X.cell? ⟨g2,m*4+1,none⟩=some e1∧X.cell? ⟨g2,m*4+2,none⟩=some e2∧X.cell? ⟨g2,m*4+3,none⟩=some e3)∧(X.frozen? ⟨g2,m*4,none⟩=false∧X.frozen? ⟨g2,m*4+1,none⟩=false∧X.frozen? ⟨g2,m*4+2,none⟩=false∧X.frozen? ⟨g2,m*4+3,none⟩=false)∧Hid (SpC P w b3 (.string s') (.slice p1 n1 c1) (.slice (some ⟨g2,0,none⟩) n2 c2) ((((X.setCell ⟨g2,m*4,none⟩ (.string ⟨#[]⟩)).setCell ⟨g2,m*4+1,none⟩ (.int .i64 0)).setCell ⟨g2,m*4+2,none⟩ (.bool false)).setCell ⟨g2,m*4+3,none⟩ (.slice none 0 0)))):=λX hX=>by
         obtain⟨e0,q0,-⟩:=hX.1.cl g2 _ _ hPg2 d0;obtain⟨e1,q1,-⟩:=hX.1.cl g2 _ _ hPg2 d1;obtain⟨e2,q2,-⟩:=hX.1.cl g2 _ _ hPg2 d2;obtain⟨e3,q3,-⟩:=hX.1.cl g2 _ _ hPg2 d3;have hnil:Lk cv (.slice none 0 0):=by
          obtain⟨p,n,c,rfl,-⟩:=hCo;exact Lk.nil _ _ _
         exact⟨⟨e0,e1,e2,e3,q0,q1,q2,q3⟩,⟨hX.1.fz g2 _ hPg2 (hfz2 _),hX.1.fz g2 _ hPg2 (hfz2 _),hX.1.fz g2 _ hPg2 (hfz2 _),hX.1.fz g2 _ hPg2 (hfz2 _)⟩,(((hX.set HP.out hPg2 d0 (Lk.str _ _)).set HP.out hPg2 d1 (Lk.i _ _)).set HP.out hPg2 d2 (Lk.b _ _)).set HP.out hPg2 d3 hnil⟩
        have HC3:=hid hC3;clear hcs2 hfz2 hPg2 d0 d1 d2 d3 hCo k3 hC3;go_wp2;go_loopw [7] (λiv wi=>∃i:Nat,i<=n3∧iv=.int .i64 (i:Int)∧Hid (SpC P w b3 (.string s') (.slice p1 n1 c1) (.slice (some ⟨g2,0,none⟩) n2 c2) wi)) (λiv _=>n3-(intOf iv).toNat)
        case atStart=>exact⟨0,Nat.zero_le _,rfl,HC.out⟩
        case round=>
         clear HC r3 x0 x1 x2;rename World=>wk
         obtain⟨i,hi,rfl,HC⟩:=hrel;by_cases hil:i<n3
         ·obtain⟨g3,rfl,hPg3,hfz3,hcs3⟩:∃g,p3=some ⟨g,0,none⟩∧P g∧(∀j,w.frozen? ⟨g,j,none⟩=false)∧∀i,i<n3->∃x y av,w.cell? ⟨g,i*3,none⟩=some (.int .i64 x)∧w.cell? ⟨g,i*3+1,none⟩=some (.int .i64 y)∧w.cell? ⟨g,i*3+2,none⟩=some av∧AlL P w av:=by
           rcases HC3.out with h|h
           ·omega
           ·exact h
          obtain⟨y3,y4,av,d0,d1,d2,p4,n4,c4,rfl,hn4,hA4⟩:=hcs3 i hil;have h4:(0:Int)<=(i:Int):=by omega
          have h5:(i:Int)<(n3:Int):=by omega
          have HFI:Hid (∀X,SpC P w b3 (.string s') (.slice p1 n1 c1) (.slice (some ⟨g2,0,none⟩) n2 c2) X->(∃e0 e1,X.cell? ⟨g3,i*3,none⟩=some e0∧X.cell? ⟨g3,i*3+1,none⟩=some e1)∧(X.cell? ⟨g3,i*3+2,none⟩=some (.slice p4 n4 c4)∨X.cell? ⟨g3,i*3+2,none⟩=some (.slice none 0 0))∧(X.frozen? ⟨g3,i*3,none⟩=false∧X.frozen? ⟨g3,i*3+1,none⟩=false∧X.frozen? ⟨g3,i*3+2,none⟩=false)∧Hid (SpC P w b3 (.string s') (.slice p1 n1 c1) (.slice (some ⟨g2,0,none⟩) n2 c2) (((X.setCell ⟨g3,i*3,none⟩ (.int .i64 20)).setCell ⟨g3,i*3+1,none⟩ (.int .i64 0)).setCell ⟨g3,i*3+2,none⟩ (.slice none 0 0)))):=λX hX=>by
           obtain⟨e0,q0,-⟩:=hX.1.cl g3 _ _ hPg3 d0;obtain⟨e1,q1,-⟩:=hX.1.cl g3 _ _ hPg3 d1;obtain⟨e2,q2,k2⟩:=hX.1.cl g3 _ _ hPg3 d2;refine⟨⟨e0,e1,q0,q1⟩,?_,⟨hX.1.fz g3 _ hPg3 (hfz3 _),hX.1.fz g3 _ hPg3 (hfz3 _),hX.1.fz g3 _ hPg3 (hfz3 _)⟩,((hX.set HP.out hPg3 d0 (Lk.i _ _)).set HP.out hPg3 d1 (Lk.i _ _)).set HP.out hPg3 d2 (Lk.nil _ _ _)⟩;rcases lk_slice k2 rfl with rfl|rfl
           ·exact Or.inl q2
           ·exact Or.inr q2
          have HA4:=hid hA4;clear hcs3 hfz3 hPg3 d0 d1 d2 hA4;go_wp2;go_loopw [8] (λav wi=>∃a:Nat,a<=n4∧av=.int .i64 (a:Int)∧Hid (SpC P w b3 (.string s') (.slice p1 n1 c1) (.slice (some ⟨g2,0,none⟩) n2 c2) wi)) (λav _=>n4-(intOf av).toNat)
          case atStart=>exact⟨0,Nat.zero_le _,rfl,HC.out⟩
          case round=>
           clear HC;rename World=>wl
           obtain⟨a,ha,rfl,HC⟩:=hrel;obtain⟨⟨e0,e1,q0,q1⟩,hq2,⟨f0,f1,f2⟩,HC2⟩:=HFI.out _ HC.out;rcases hq2 with q2|q2
           ·by_cases hal:a<n4
            ·obtain⟨g4,rfl,hPg4,hfz4,hcs4⟩:∃g,p4=some ⟨g,0,none⟩∧P g∧(∀j,w.frozen? ⟨g,j,none⟩=false)∧∀i,i<n4->∃x y,w.cell? ⟨g,i*2,none⟩=some (.int .i64 x)∧w.cell? ⟨g,i*2+1,none⟩=some (.int .i64 y):=by
              rcases HA4.out with h|h
              ·omega
              ·exact h
             obtain⟨y5,y6,d0,d1⟩:=hcs4 a hal;obtain⟨t0,o0,-⟩:=HC.out.1.cl g4 _ _ hPg4 d0;obtain⟨t1,o1,-⟩:=HC.out.1.cl g4 _ _ hPg4 d1;have z0:=HC.out.1.fz g4 (a*2) hPg4 (hfz4 _);have z1:=HC.out.1.fz g4 (a*2+1) hPg4 (hfz4 _);have h6:(0:Int)<=(a:Int):=by omega
             have h7:(a:Int)<(n4:Int):=by omega
             have HC4:=hid ((HC.out.set HP.out hPg4 d0 (Lk.i _ (-1))).set HP.out hPg4 d1 (Lk.i _ 1099511627776));clear hcs4 hfz4 hPg4 d0 d1 HC HC2;go_wp2;exact⟨⟨a+1,by omega,by go_num,HC4.out⟩,by simp[intOf];omega⟩
            ·obtain rfl:a=n4:=by omega
             have h6:¬(a:Int)<(a:Int):=by omega
             clear HC;go_wp2;exact⟨⟨i+1,by omega,by go_num,HC2.out⟩,by simp[intOf];omega⟩
           ·have h6:¬(a:Int)<0:=by omega
            clear HC;go_wp2;exact⟨⟨i+1,by omega,by go_num,HC2.out⟩,by simp[intOf];omega⟩
         ·obtain rfl:i=n3:=by omega
          have h4:¬(i:Int)<(i:Int):=by omega
          obtain⟨⟨e0,e1,e2,e3,q0,q1,q2,q3⟩,⟨f0,f1,f2,f3⟩,HC2⟩:=HFG.out _ HC.out;obtain⟨x0,x1,x2,-⟩:=id HC.out.2.1;clear HFG HC;go_wp2;exact⟨⟨m+1,by omega,by go_num,HC2.out⟩,by simp[intOf];omega⟩
       ·obtain rfl:m=n2:=by omega
        have h2:¬(m:Int)<(m:Int):=by omega
        obtain⟨a0,a1,a2,l1,l2,hPg,hfz⟩:=HROWK.out;obtain⟨e0,q0,-⟩:=HC.out.1.cl g _ _ hPg a0;obtain⟨e1,q1,-⟩:=HC.out.1.cl g _ _ hPg a1;obtain⟨e2,q2,-⟩:=HC.out.1.cl g _ _ hPg a2;have f0:=HC.out.1.fz g (k*3) hPg (hfz _);have f1:=HC.out.1.fz g (k*3+1) hPg (hfz _);have f2:=HC.out.1.fz g (k*3+2) hPg (hfz _);have HC2:=hid (((HC.out.1.set hPg a0 (Lk.str _ ⟨#[]⟩)).set hPg a1 (l1.trans (Lk.nil _ _ _))).set hPg a2 (l2.trans (Lk.nil _ _ _)));clear a0 a1 a2 l1 l2 hPg hfz HC;go_wp2;exact⟨⟨k+1,by omega,by go_num,HC2.out⟩,by simp[intOf];omega⟩
  ·obtain rfl:k=n:=by omega
   have hki:¬((k:Int)<(k:Int)):=by omega
   go_wp2;refine bE ?_;exact⟨rfl,HS.out⟩
end
end Go.Proofs.YtdpodpjdcfjfgaaGreatDoor
namespace Go.Proofs.YtdpodpjdcfjfgaaGreatDoor
section
variable {P:Program} {ops:Array Oper} {Q:Exit->Act->World->Prop} {md:Region.Mode} {S:World->Prop}
def downB(md:Region.Mode)(ops:Array Oper):Bool:=(List.range ops.size).all λi=>match ops[i]? with|some o=>o.after.all λe=>!Region.binds md e||decide (e.on<i)|none=>false
theorem downB_spec(h:downB md ops=true){i:Nat}{o:Oper}(ho:ops[i]?=some o):∀e∈o.after,Region.binds md e=true->e.on<i:=by
 intro e he hb;have h1:=List.all_eq_true.1 h i (List.mem_range.2 (Array.getElem?_eq_some_iff.1 ho).1);rw[ho]at h1;simp only at h1;have h2:=Array.all_eq_true'.1 h1 e he;simpa[hb]using h2
theorem least_ready(hd:downB md ops=true){listed:Array Bool}(hs:listed.size=ops.size):∀i,i<ops.size->listed.getD i true=false->Region.ready md ops listed≠[]:=by
 intro i;induction i using Nat.strongRecOn with
 |_ i ih=>
  intro hi hun;have ho:ops[i]?=some ops[i]:=Array.getElem?_eq_getElem hi;by_cases hall:∀e∈ops[i].after,Region.binds md e=true->listed.getD e.on false=true
  ·have hm:i∈Region.ready md ops listed:=mem_ready.2 ⟨hun,_,ho,hall⟩;intro h0;rw[h0]at hm;cases hm
  ·have hne:∃e,e∈ops[i].after∧Region.binds md e=true∧listed.getD e.on false=false:=by
    apply Classical.byContradiction;intro hc;apply hall;intro e he hb;cases hx:listed.getD e.on false with
    |true=>rfl
    |false=>exact absurd ⟨e,he,hb,hx⟩ hc
   obtain⟨e,he,hb,hx⟩:=hne;have hlt:=downB_spec hd ho e he hb;exact ih e.on hlt (by omega) (getD_in (by omega) hx)
theorem all_listed(hd:downB md ops=true){listed:Array Bool}(hs:listed.size=ops.size)(h0:Region.ready md ops listed=[]):∀i,i<ops.size->listed.getD i false=true:=by
 intro i hi;cases hx:listed.getD i false with
 |true=>rfl
 |false=>exact absurd h0 (least_ready hd hs i hi (getD_in (by omega) hx))
def tailQ(P:Program)(ops:Array Oper)(Q:Exit->Act->World->Prop)(n k:Nat):Exit->Act->World->Prop
 |.normal,a,w=>wpOps P ops Q (List.range' n k) a w
 |e,a,w=>Q e a w
theorem wpOp_tailQ{n k i:Nat}{K:Act->World->Prop}{a:Act}{w:World}(h:wpOp P ops (tailQ P ops Q n k) i K a w):wpOp P ops Q i K a w:=by
 unfold wpOp at*;split
 ·rename_i h0;simpa only[h0]using h
 ·rename_i o h0
  simp only[h0]at h;split
  ·rename_i hw
   simp only[hw,if_true]at h;rcases h with h|h
   ·refine .inl ?_;unfold Oper.wp at*;generalize (execOp a.eval o).run P w=r at*;cases r with
    |ok nx w'=>
     cases nx<;>simp only[Oper.upon]at h ⊢<;>first|exact h|exact Calls.mono h (λe w'' he=>by cases e<;>exact he)
    |halt x w'=>cases x<;>simp only[Oper.upon]at h ⊢<;>exact h
   ·exact .inr h
  ·rename_i hw
   simp only[hw]at h;exact h
def setTail:Array Bool->Nat->Nat->Array Bool
 |l,_,0=>l
 |l,n,k+1=>(setTail l (n+1) k).setIfInBounds n true
theorem setTail_size:∀(k n:Nat) (l:Array Bool),(setTail l n k).size=l.size
 |0,_,_=>rfl
 |k+1,n,l=>by rw[setTail,Array.size_setIfInBounds,setTail_size k]
theorem setTail_lt:∀(k n:Nat) (l:Array Bool) (i:Nat) (d:Bool),i<n->(setTail l n k).getD i d=l.getD i d
 |0,_,_,_,_,_=>rfl
 |k+1,n,l,i,d,h=>by rw[setTail,getD_set_ne d (by omega),setTail_lt k (n+1) l i d (by omega)]
theorem setTail_ge:∀(k n:Nat) (l:Array Bool) (i:Nat) (d:Bool),n<=i->i<n+k->i<l.size->(setTail l n k).getD i d=true
 |0,_,_,_,_,h1,h2,_=>by omega
 |k+1,n,l,i,d,h1,h2,h3=>by
  rw[setTail];by_cases h:n=i
  ·subst h;rw[Array.getD_eq_getD_getElem?,Array.getElem?_setIfInBounds_self_of_lt (by rw[setTail_size];exact h3)];rfl
  ·rw[getD_set_ne d h,setTail_ge k (n+1) l i d (by omega) (by omega) h3]
theorem setTail_true{k n:Nat}{l:Array Bool}{i:Nat}(h:l.getD i false=true):(setTail l n k).getD i false=true:=by
 induction k generalizing n with
 |zero=>exact h
 |succ k ih=>rw[setTail];exact getD_set_true ih
theorem setTail_comm:∀(k n:Nat) (l:Array Bool) (i:Nat),i<n->(setTail l n k).setIfInBounds i true=setTail (l.setIfInBounds i true) n k
 |0,_,_,_,_=>rfl
 |k+1,n,l,i,h=>by rw[setTail,setTail,Array.setIfInBounds_comm _ _ (by omega),setTail_comm k (n+1) l i (by omega)]
theorem ready_setTail{n k i:Nat}{listed:Array Bool}(hi:i<n)(h:i∈Region.ready md ops listed):i∈Region.ready md ops (setTail listed n k):=by
 obtain⟨h0,o,ho,hall⟩:=mem_ready.1 h;exact mem_ready.2 ⟨by rw[setTail_lt _ _ _ _ _ hi];exact h0,o,ho,λe he hb=>setTail_true (hall e he hb)⟩
theorem tail_run(hd:downB md ops=true):∀(k n:Nat) (listed:Array Bool) (a:Act) (w:World),n+k=ops.size->Region.chainB md ops n=true->listed.size=ops.size->(∀i,i<n->listed.getD i true=true)->(∀t,n<=t->t<ops.size->listed.getD t true=false)->
 wpOps P ops Q (List.range' n k) a w->∀fuel,k<=fuel->wpAny P md ops Q fuel listed a w:=by
 intro k;induction k with
 |zero=>
  intro n listed a w hn _ hs hall _ h fuel _;refine wpAny_done ?_ h fuel;cases hr:Region.ready md ops listed with
  |nil=>rfl
  |cons j l=>
   have hj:j∈Region.ready md ops listed:=by rw[hr];simp
   obtain⟨hun,o,ho,-⟩:=mem_ready.1 hj;rw[hall j (by have:=(Array.getElem?_eq_some_iff.1 ho).1;omega)]at hun;cases hun
 |succ k ih=>
  intro n listed a w hn hc hs hall htl h fuel hf;obtain⟨f,rfl⟩:∃f,fuel=f+1:=⟨fuel-1,by omega⟩;rw[List.range'_succ,wpOps_cons]at h;refine⟨λh0=>absurd h0 (least_ready hd hs n (by omega) (htl n (Nat.le_refl _) (by omega))),λi hi=>?_⟩;obtain⟨hun,o,ho,hw⟩:=mem_ready.1 hi;have hil:i<ops.size:=(Array.getElem?_eq_some_iff.1 ho).1;have hge:n<=i:=by
   rcases Nat.lt_or_ge i n with h1|h1
   ·rw[hall i h1]at hun;cases hun
   ·exact h1
  obtain rfl:i=n:=by
   rcases Nat.lt_or_ge n i with h1|h1
   ·exfalso;have h2:=List.all_eq_true.1 hc i (List.mem_range.2 hil);simp only[Bool.or_eq_true,decide_eq_true_eq]at h2;rcases h2 with h2|h2
    ·omega
    ·obtain⟨o',ho',e,he,hb,hon⟩:=Region.waitsFor_spec h2;obtain rfl:o'=o:=Option.some.inj (ho'.symm.trans ho);have h3:=hw e he hb;rw[hon,getD_both (htl (i-1) (by omega) (by omega))]at h3;cases h3
   ·omega
  refine wpOp_mono (λa' w' h'=>ih (i+1) _ a' w' (by omega) ?_ (by simpa using hs) (λj hj=>?_) (λt ht ht'=>?_) h' f (by omega)) h
  ·unfold Region.chainB at hc ⊢;rw[List.all_eq_true]at hc ⊢;intro t ht;have h2:=hc t ht;simp only[Bool.or_eq_true,decide_eq_true_eq]at h2 ⊢;rcases h2 with h2|h2
   ·exact .inl (by omega)
   ·exact .inr h2
  ·by_cases hij:i=j
   ·subst hij;rw[Array.getD_eq_getD_getElem?,Array.getElem?_setIfInBounds_self_of_lt (by omega)];rfl
   ·rw[getD_set_ne true hij];exact hall j (by omega)
  ·rw[getD_set_ne true (by omega)];exact htl t (by omega) ht'
theorem wpAny_tail{n k:Nat}(hn:n+(k+1)=ops.size)(hd:downB md ops=true)(hsk:Region.sinkB md ops n=true)(hch:Region.chainB md ops n=true):∀(f:Nat) (listed:Array Bool) (a:Act) (w:World),HeadInv md ops n listed->
 wpAnyH P md ops (tailQ P ops Q n (k+1)) S f (setTail listed n (k+1)) a w->wpAny P md ops Q (f+(k+1)) listed a w:=by
 have hrun:∀(f:Nat) (listed:Array Bool) (a:Act) (w:World),HeadInv md ops n listed->(∀i,i<n->listed.getD i true=true)->tailQ P ops Q n (k+1) .normal a w->wpAny P md ops Q (f+(k+1)) listed a w:=
  λf listed a w inv hall h=>tail_run hd (k+1) n listed a w hn hch inv.size hall inv.tail h _ (by omega)
 have hnil:∀(listed:Array Bool),HeadInv md ops n listed->(∀i,i<n->listed.getD i true=true)->Region.ready md ops (setTail listed n (k+1))=[]:=by
  intro listed inv hall;cases hr:Region.ready md ops (setTail listed n (k+1)) with
  |nil=>rfl
  |cons j l=>
   have hj:j∈Region.ready md ops (setTail listed n (k+1)):=by rw[hr];simp
   obtain⟨hun,o,ho,-⟩:=mem_ready.1 hj;have hjl:j<ops.size:=(Array.getElem?_eq_some_iff.1 ho).1;by_cases hjn:j<n
   ·rw[setTail_lt _ _ _ _ _ hjn,hall j hjn]at hun;cases hun
   ·rw[setTail_ge _ _ _ _ _ (by omega) (by omega) (by rw[inv.size];exact hjl)]at hun;cases hun
 have hsome:∀(listed:Array Bool),HeadInv md ops n listed->Region.ready md ops listed≠[]:=λlisted inv=>least_ready hd inv.size n (by omega) (inv.tail n (Nat.le_refl _) (by omega));intro f;induction f with
 |zero=>
  intro listed a w inv H;refine hrun 0 listed a w inv (λi hi=>?_) H.2;cases hx:listed.getD i true with
  |true=>rfl
  |false=>exact absurd H.1 (least_ready hd (by rw[setTail_size];exact inv.size) i (by omega) (by rw[setTail_lt _ _ _ _ _ hi];exact hx))
 |succ f ih=>
  intro listed a w inv H;by_cases hall:∀i,i<n->listed.getD i true=true
  ·exact hrun (f+1) listed a w inv hall (H.1 (hnil listed inv hall))
  ·have hne:∃i,i<n∧listed.getD i true=false:=by
    apply Classical.byContradiction;intro hc;apply hall;intro i hi;cases hx:listed.getD i true with
    |true=>rfl
    |false=>exact absurd ⟨i,hi,hx⟩ hc
   obtain⟨i0,hi0,hx0⟩:=hne;rw[show f+1+(k+1)=(f+(k+1))+1 by omega];refine⟨λh0=>absurd h0 (hsome listed inv),λi hi=>?_⟩;have hin:i<n:=by
    rcases Nat.lt_or_ge i n with h1|h1
    ·exact h1
    ·exact absurd hi (tail_waits hsk hch (by omega) inv _ i0 rfl hi0 hx0 i h1)
   refine wpOp_tailQ (wpOp_mono (λa' w' h'=>?_) (H.2 i (ready_setTail hin hi)));refine ih _ a' w' (inv.set hi hin) ?_;rw[<-setTail_comm _ _ _ _ hin];exact h'.2
theorem headInv0(n:Nat):HeadInv md ops n (Array.replicate ops.size false):=by
 refine⟨by simp,λj oj hj hl=>?_,λt ht ht'=>by simp[ht']⟩;rw[getD_replicate_false]at hl;cases hl
theorem region_tail{id:Nat}{a:Act}{w:World}(n k:Nat)(hm:P.follows .mixedOrders=true)(hn:n+(k+1)=ops.size)(hd:downB .any ops=true)(hsk:Region.sinkB .any ops n=true)(hch:Region.chainB .any ops n=true)(hS:S w.drew)
 (h:S w.drew->wpAnyH P .any ops (tailQ P ops Q n (k+1)) S n (setTail (Array.replicate ops.size false) n (k+1)) a w.drew):(Code.region id ops true).wp P Q a w:=by
 refine wp_region_any hm ?_;have h1:=wpAny_tail (P:=P) (Q:=Q) (S:=S) hn hd hsk hch n (Array.replicate ops.size false) a w.drew (headInv0 n) (h hS);rw[hn]at h1;exact h1
theorem count_set:∀(l:List Bool) (i:Nat),l[i]?=some false->(l.set i true).count false+1=l.count false
 |[],i,h=>by simp at h
 |b::l,0,h=>by simp at h;subst h;simp
 |b::l,i+1,h=>by
  have h1:=count_set l i (by simpa using h);simp only[List.set_cons_succ,List.count_cons];omega
theorem wpAnyH_inv(hd:downB md ops=true)(I:Array Bool->Act->World->Prop)
 (hstep:∀listed a w i o,I listed a w->ops[i]?=some o->listed.getD i true=false->(∀e∈o.after,Region.binds md e=true->listed.getD e.on false=true)->wpOp P ops Q i (λa' w'=>S w'∧I (listed.setIfInBounds i true) a' w') a w)
 (hend:∀listed a w,I listed a w->(∀i,i<ops.size->listed.getD i false=true)->Q .normal a w):
 ∀(fuel:Nat) (listed:Array Bool) (a:Act) (w:World),listed.size=ops.size->listed.toList.count false<=fuel->I listed a w->wpAnyH P md ops Q S fuel listed a w:=by
 intro fuel;induction fuel with
 |zero=>
  intro listed a w hs hc hI;have hall:∀i,i<ops.size->listed.getD i false=true:=by
   intro i hi;cases hx:listed.getD i false with
   |true=>rfl
   |false=>
    have hm:false∈listed.toList:=by
     have hil:i<listed.size:=by omega
     have:listed[i]=false:=by simpa[hil]using hx
     rw[<-this];exact Array.getElem_mem_toList hil
    have:=List.count_pos_iff.2 hm;omega
  refine⟨?_,hend _ _ _ hI hall⟩;cases hr:Region.ready md ops listed with
  |nil=>rfl
  |cons j l=>
   have hj:j∈Region.ready md ops listed:=by rw[hr];simp
   obtain⟨hun,o,ho,-⟩:=mem_ready.1 hj;have h1:=hall j (Array.getElem?_eq_some_iff.1 ho).1;rw[getD_both hun]at h1;cases h1
 |succ fuel ih=>
  intro listed a w hs hc hI;refine⟨λh0=>hend _ _ _ hI (all_listed hd hs h0),λi hi=>?_⟩;obtain⟨hun,o,ho,hall⟩:=mem_ready.1 hi;refine wpOp_mono (λa' w' h'=>⟨h'.1,ih _ a' w' (by simpa using hs) ?_ h'.2⟩) (hstep listed a w i o hI ho hun hall);have hil:i<listed.size:=by have:=(Array.getElem?_eq_some_iff.1 ho).1;omega
  have h2:=count_set listed.toList i (by
   rw[Array.getElem?_toList,Array.getElem?_eq_getElem hil];simpa[hil]using hun)
  rw[Array.toList_setIfInBounds];omega
end
structure Agree (D:List Nat) (a0 a:Act):Prop where
 defers:a.defers=a0.defers
 size:a.tmps.size=a0.tmps.size
 it:∀k,k∉D->a.tmps[k]?=a0.tmps[k]?
theorem Agree.refl(D:List Nat)(a:Act):Agree D a a:=⟨rfl,rfl,λ_ _=>rfl⟩
theorem Agree.put{D:List Nat}{a0 a:Act}(h:Agree D a0 a){d:Nat}(hd:d∈D)(v:Value):Agree D a0 (a.put (some d) v):=
 ⟨h.defers,by rw[<-h.size];exact Array.size_setIfInBounds,λk hk=>by
  rw[<-h.it k hk];exact Array.getElem?_setIfInBounds_ne (λe=>hk (by rw[<-e];exact hd))⟩
theorem eval_put_self{a:Act}{d:Nat}(hd:d<a.tmps.size)(v:Value):(a.put (some d) v).eval (.tmp d)=v:=by
 show(a.tmps.setIfInBounds d v).getD d undef=v;rw[Array.getD_eq_getD_getElem?,Array.getElem?_setIfInBounds_self_of_lt hd];rfl
theorem eval_put_ne{a:Act}{d k:Nat}(hd:d≠k)(v:Value):(a.put (some d) v).eval (.tmp k)=a.eval (.tmp k):=by
 show(a.tmps.setIfInBounds d v).getD k undef=a.tmps.getD k undef;rw[Array.getD_eq_getD_getElem?,Array.getD_eq_getD_getElem?,Array.getElem?_setIfInBounds_ne hd]
theorem Agree.first{d:Nat}{D:List Nat}{a0 a:Act}(h:Agree (d::D) a0 a):Agree D (a0.put (some d) (a.eval (.tmp d))) a:=by
 refine⟨h.defers,by rw[h.size];exact Array.size_setIfInBounds.symm,λk hk=>?_⟩;show _=(a0.tmps.setIfInBounds d (a.eval (.tmp d)))[k]?;by_cases hkd:d=k
 ·subst hkd;by_cases hlt:d<a0.tmps.size
  ·rw[Array.getElem?_setIfInBounds_self_of_lt hlt];show _=some (a.tmps.getD d undef);have h2:d<a.tmps.size:=by rw[h.size];exact hlt
   rw[Array.getD_eq_getD_getElem?,Array.getElem?_eq_getElem h2];rfl
  ·rw[Array.getElem?_eq_none (by rw[h.size];omega),Array.getElem?_eq_none (by rw[Array.size_setIfInBounds];omega)]
 ·rw[Array.getElem?_setIfInBounds_ne hkd];exact h.it k (λhm=>by rcases List.mem_cons.1 hm with e|e;exact hkd e.symm;exact hk e)
theorem agree_lit:∀{D:List Nat} {a0 a:Act},Agree D a0 a->a=D.foldl (λb d=>b.put (some d) (a.eval (.tmp d))) a0
 |[],a0,a,h=>by
  obtain⟨t0,d0⟩:=a0;obtain⟨t,d⟩:=a;obtain rfl:d=d0:=h.defers;obtain rfl:t=t0:=Array.ext_getElem? λk=>h.it k (by simp);rfl
 |d::D,a0,a,h=>agree_lit (D:=D) (a0:=a0.put (some d) (a.eval (.tmp d))) (a:=a) h.first
theorem inj_nodup{α β:Type}{f:α->β}:∀{l:List α},(l.map f).Nodup->∀{a b:α},a∈l->b∈l->f a=f b->a=b
 |[],_,_,_,h,_,_=>by cases h
 |x::l,hn,a,b,ha,hb,he=>by
  rw[List.map_cons,List.nodup_cons]at hn;rcases List.mem_cons.1 ha with e1|ha1
  ·rcases List.mem_cons.1 hb with e2|hb1
   ·rw[e1,e2]
   ·exact absurd (List.mem_map.2 ⟨b,hb1,by rw[<-he,e1]⟩) hn.1
  ·rcases List.mem_cons.1 hb with e2|hb1
   ·exact absurd (List.mem_map.2 ⟨a,ha1,by rw[he,e2]⟩) hn.1
   ·exact inj_nodup hn.2 ha1 hb1 he
section
variable {P:Program} {ops:Array Oper} {Q:Exit->Act->World->Prop} {md:Region.Mode} {S:World->Prop}
theorem wpAnyH_takeD{i d:Nat}{oi:Oper}{v:Value}{fuel:Nat}{listed:Array Bool}{a:Act}{w:World}(hi:ops[i]?=some oi)(hdst:oi.dst=some d)
 (hs:Region.noSelect ops=true) (hf:Region.free md ops listed i=true) (hr:(Region.ready md ops listed).contains i=true)
 (hQ:∀c a w,Q (.panic c) (a.put (some d) v) w->Q (.panic c) a w) (hy:YieldsIf P ops S oi v a) (hS:S w)
 (h:wpAnyH P md ops Q S fuel (listed.setIfInBounds i true) (a.put (some d) v) w):wpAnyH P md ops Q S (fuel+1) listed a w:=by
 rw[<-hdst]at hQ h;exact wpAnyH_take hi hs hf hr hQ hy hS h
end
end Go.Proofs.YtdpodpjdcfjfgaaGreatDoor
