import Derived.Test.YtahmgjjgikgpoaaGreatDoorJeJ
set_option maxRecDepth 100000
set_option maxHeartbeats 8000000
namespace Go.Proofs.YtahmgjjgikgpoaaGreatDoor
open Go.RowKit Go.Sort
theorem docS_ok{O:LObj}(h:okO O=true):docS O=.tuple #[.int .i64 0,.agg #[.int .i64 0,.int .i64 0]]:=by
 unfold okO at h;rw[Bool.and_eq_true]at h;unfold docS;rw[if_pos h.1];cases hs:sBad (O.imps.length+O.globs.length) O.globs 0 with
 |none=>rfl
 |some r=>rw[hs]at h;simp at h
theorem docS_bad{O:LObj}(h:okO O=false):∃c x y:Int,c≠0∧docS O=.tuple #[.int .i64 c,.agg #[.int .i64 x,.int .i64 y]]:=by
 unfold okO at h;unfold docS;cases hv:valsG O with
 |false=>exact⟨15,0,0,by omega,rfl⟩
 |true=>
  rw[hv]at h;cases hs:sBad (O.imps.length+O.globs.length) O.globs 0 with
  |none=>rw[hs]at h;simp at h
  |some r=>obtain⟨e,k,i⟩:=r;exact⟨12+(e:Int),k,i,by omega,rfl⟩
def GlobsY(X:Nat->Prop)(w:World)(v:Value)(l:List LGlob):Prop:=∃p cap,v=.slice p l.length cap∧short l.length∧∀i (h:i<l.length),∃b o cv,X b∧p=some ⟨b,o,none⟩∧w.cell? ⟨b,o+i*4,none⟩=some (.string l[i].name)∧w.cell? ⟨b,o+i*4+1,none⟩=some (.int .i64 l[i].arity)∧w.cell? ⟨b,o+i*4+2,none⟩=some (.bool l[i].exp)∧w.cell? ⟨b,o+i*4+3,none⟩=some cv∧CodeX X w cv l[i].code∧l[i].name.size<=maxLen
theorem GlobsY.at{X:Nat->Prop}{w:World}{v:Value}{l:List LGlob}(h:GlobsY X w v l):GlobsAt w v l:=by
 obtain⟨p,cap,e,hs,h⟩:=h;refine⟨p,cap,e,hs,λi hi=>?_⟩;obtain⟨b,o,cv,-,e2,c0,c1,c2,c3,hc,hn⟩:=h i hi;exact⟨b,o,cv,e2,c0,c1,c2,c3,hc.at,hn⟩
theorem GlobsY.fr{X Y:Nat->Prop}{w w':World}{v:Value}{l:List LGlob}(h:GlobsY X w v l)(hX:∀b,X b->b<w.heap.size->Y b∧w'.heap[b]?=w.heap[b]?):GlobsY Y w' v l:=by
 obtain⟨p,cap,e,hs,h⟩:=h;refine⟨p,cap,e,hs,λi hi=>?_⟩;obtain⟨b,o,cv,hx,e2,c0,c1,c2,c3,hc,hn⟩:=h i hi;obtain⟨k1,k2⟩:=hX b hx (block_lt_of_cell c0);exact⟨b,o,cv,k1,e2,cell_same k2 c0,cell_same k2 c1,cell_same k2 c2,cell_same k2 c3,hc.fr hX,hn⟩
def RefLk(z:Nat)(Os:List LObj)(entry:ByteArray)(w:World)(e:Ending)(w':World):Prop:=Below w.heap.size w w'∧match lnkE Os entry with
 |some x=>e=.returned (.tuple #[.pointer none,.int .i64 (kCode x.1),.int .i64 (x.2:Int)])
 |none=>∃I gv,e=.returned (.tuple #[.pointer (some ⟨I,0,none⟩),.int .i64 0,.int .i64 0])∧w.heap.size<=I∧w'.cell? ⟨I,0,none⟩=some gv∧w'.cell? ⟨I,1,none⟩=some (.int .i64 (imgE Os entry))∧GlobsY (λb=>b<z∨w.heap.size<=b) w' gv (img Os)
def rgC(x:LGlob×Value):List Value:=[.string x.1.name,.int .i64 x.1.arity,.bool x.1.exp,x.2]
structure RiS (z:Nat) (w wr:World) (I:Nat) (en:Int) (v:Value) (gs:List LGlob):Prop where
 zl:z<=w.heap.size
 low:Below w.heap.size w wr
 lt:w.heap.size<=I∧I<wr.heap.size
 c0:wr.cell? ⟨I,0,none⟩=some v
 c1:wr.cell? ⟨I,1,none⟩=some (.int .i64 en)
 f:∀j,wr.frozen? ⟨I,j,none⟩=false
 l:∃L:List (LGlob×Value),L.map (·.1)=gs∧wr.ownsRow (I+1) 46 4 v L.length (L.flatMap rgC)∧∀x∈L,CodeX (λb=>b<z∨(I<b∧v.ownBlock≠some b)) wr x.2 x.1.code∧x.1.name.size<=maxLen
theorem ownlt{w:World}{B:Nat}{e:TypeId}{size n b:Nat}{v:Value}{xs:List Value}(h:w.ownsRow B e size v n xs)(hv:v.ownBlock=some b):b<w.heap.size:=by
 rcases h.2 with⟨h1,-⟩|⟨g,cap,cur,hv',-,hg',-⟩
 ·rw[h1]at hv;cases hv
 ·rw[hv']at hv;obtain rfl:g=b:=by simpa[Value.ownBlock]using hv
  exact(Array.getElem?_eq_some_iff.1 hg').1
theorem RiS.keep{z:Nat}{w wr w':World}{I:Nat}{en:Int}{v:Value}{gs:List LGlob}(h:RiS z w wr I en v gs)(hb:Below wr.heap.size wr w'):RiS z w w' I en v gs:=by
 obtain⟨zl,hl,ht,h0,h1,hf,L,l1,l2,l3⟩:=h;refine⟨zl,hl.trans (hb.mono hl.size),⟨ht.1,Nat.lt_of_lt_of_le ht.2 hb.size⟩,cell_keep hb h0,cell_keep hb h1,λj=>by rw[hb.frozen (p:=⟨I,j,none⟩) ht.2];exact hf j,L,l1,row_kp l2 hb,λx hx=>⟨(l3 x hx).1.fr λb hx hbl=>⟨hx,hb.block b hbl⟩,(l3 x hx).2⟩⟩
theorem RiS.next{z:Nat}{w wr Z w2:World}{I:Nat}{en:Int}{vp:Option Addr}{n vc:Nat}{gs:List LGlob}{g:LGlob}{cv:Value}{L:List (LGlob×Value)}(h:RiS z w wr I en (.slice vp n vc) gs)(l1:L.map (·.1)=gs)(l2:wr.ownsRow (I+1) 46 4 (.slice vp n vc) L.length (L.flatMap rgC))(l3:∀x∈L,CodeX (λb=>b<z∨(I<b∧(Value.slice vp n vc).ownBlock≠some b)) wr x.2 x.1.code∧x.1.name.size<=maxLen)(hb:Below wr.heap.size wr Z)
 (hc:CodeX (λb=>b<z∨wr.heap.size<=b) Z cv g.code) (hnm:g.name.size<=maxLen) (hg:Z.grownBy w2 (Value.slice vp n vc).ownBlock) {G c:Nat} (hat:(Value.slice vp n vc).ownBlock=some G∨G=Z.heap.size) (hn:n=L.length)
 (hown:w2.ownsRow (I+1) 46 4 (.slice (some ⟨G,0,none⟩) (n+1) c) (n+1) (L.flatMap rgC++[.string g.name,.int .i64 g.arity,.bool g.exp,cv])):(w2.cell? ⟨I,0,none⟩=some (.slice vp n vc)∧w2.frozen? ⟨I,0,none⟩=false)∧RiS z w (w2.setCell ⟨I,0,none⟩ (.slice (some ⟨G,0,none⟩) (n+1) c)) I en (.slice (some ⟨G,0,none⟩) (n+1) c) (gs++[g]):=by
 have hz:=hb.size;have hlz:=h.low.size;have hzl:=h.zl;have hgz:=hg.size;have hI:=h.lt;have hlow:=λb (e:(Value.slice vp n vc).ownBlock=some b)=>row_low l2 e;have hup:=λb (e:(Value.slice vp n vc).ownBlock=some b)=>ownlt l2 e;have hvo:(Value.slice (some ⟨G,0,none⟩) (n+1) c).ownBlock=some G:=rfl;have hGI:I<G∧G<w2.heap.size:=by
  constructor
  ·rcases hat with e|e
   ·have:=hlow G e;omega
   ·omega
  ·exact ownlt hown hvo
 have hbI:w2.heap[I]?=wr.heap[I]?:=by
  rw[hg.block I (by omega) (λe=>by have:=hlow I e.symm;omega)];exact hb.block I hI.2
 have e0:w2.cell? ⟨I,0,none⟩=some (.slice vp n vc):=cell_same hbI h.c0;have e1:w2.cell? ⟨I,1,none⟩=some (.int .i64 en):=cell_same hbI h.c1;have ef:∀j,w2.frozen? ⟨I,j,none⟩=false:=λj=>by rw[World.frozen?_of_block (a:=⟨I,j,none⟩) hbI];exact h.f j
 have hset:∀b,b≠I->(w2.setCell ⟨I,0,none⟩ (.slice (some ⟨G,0,none⟩) (n+1) c)).heap[b]?=w2.heap[b]?:=λb hne=>Below.heap_setCell _ _ _ _ hne;refine⟨⟨e0,ef 0⟩,⟨hzl,((h.low.trans (hb.mono hlz)).grown hg (by omega) λb e=>by have:=hlow b e;omega).setCell hI.1 _,⟨hI.1,by simp;omega⟩,World.cell?_setCell_same _ _ _ e0,by rw[World.cell?_setCell_other _ _ _ _ (ofn (by omega))];exact e1,λj=>by rw[World.frozen?_setCell];exact ef j,L++[(g,cv)],by rw[List.map_append,l1];rfl,?_,λx hx=>?_⟩⟩
 ·rw[List.length_append,List.length_cons,List.length_nil,<-hn,List.flatMap_append];refine row_fr hown λb hb'=>hset b ?_;have:=mem_vB.1 hb';rw[hvo]at this;cases this;omega
 ·rcases List.mem_append.1 hx with hx|hx
  ·refine⟨(l3 x hx).1.fr λb hX hbl=>⟨?_,?_⟩,(l3 x hx).2⟩
   ·rcases hX with h1|⟨h1,h2⟩
    ·exact Or.inl h1
    ·refine Or.inr ⟨h1,λe=>?_⟩;rw[hvo]at e;cases e;rcases hat with h|h
     ·exact h2 h
     ·omega
   ·have hne:b≠I:=by rcases hX with h1|h1<;>omega
    rw[hset b hne,hg.block b (by omega) (λe=>by
     rcases hX with h1|⟨h1,h2⟩
     ·have:=hlow b e.symm;omega
     ·exact h2 e.symm)]
    exact hb.block b hbl
  ·obtain rfl:=List.mem_singleton.1 hx;refine⟨hc.fr λb hX hbl=>⟨?_,?_⟩,hnm⟩
   ·rcases hX with h1|h1
    ·exact Or.inl h1
    ·refine Or.inr ⟨by omega,λe=>?_⟩;rw[hvo]at e;cases e;rcases hat with h|h
     ·have:=hup _ h;omega
     ·omega
   ·have hne:b≠I:=by rcases hX with h1|h1<;>omega
    rw[hset b hne];exact hg.block b hbl (λe=>by
     have q1:=hup b e.symm;have q2:=hlow b e.symm;rcases hX with h1|h1<;>omega)
theorem RiS.globs{z:Nat}{w wr:World}{I:Nat}{en:Int}{v:Value}{gs:List LGlob}(h:RiS z w wr I en v gs)(hs:short gs.length):GlobsY (λb=>b<z∨w.heap.size<=b) wr v gs:=by
 have hI:=h.lt;obtain⟨-,-,-,-,-,-,L,l1,l2,l3⟩:=h;subst l1;have hlow:=λb e=>row_low (b:=b) l2 e;rcases row_at (row_zero l2) with⟨rfl,hn⟩|⟨g,cap,rfl,-,hc⟩
 ·obtain rfl:L=[]:=List.eq_nil_of_length_eq_zero hn;exact⟨none,0,rfl,hs,λi hi=>absurd hi (by simp)⟩
 ·refine⟨_,cap,by rw[List.length_map],hs,λi hi=>?_⟩;have hi':i<L.length:=by simpa using hi
  obtain⟨f0,f1,f2,f3⟩:=flat4_at (λx:LGlob×Value=>Value.string x.1.name) (λx=>Value.int .i64 x.1.arity) (λx=>Value.bool x.1.exp) (λx=>x.2) L i hi';have hg:=hlow g rfl;refine⟨g,0,L[i].2,Or.inr (by omega),rfl,?_⟩;rw[Nat.zero_add,hc _ (by omega),hc _ (by omega),hc _ (by omega),hc _ (by omega),List.getElem_map];exact⟨f0,f1,f2,f3,(l3 _ (List.getElem_mem _)).1.fr λb hx _=>⟨hx.imp id λh1=>by omega,rfl⟩,(l3 _ (List.getElem_mem _)).2⟩
theorem imgF_app(Os:List LObj):∀(A B:List LObj) (n:Nat),imgF Os (A++B) n=imgF Os A n++imgF Os B (n+(A.map λO=>O.globs.length).sum)
 |[],B,n=>by simp[imgF]
 |O::A,B,n=>by rw[List.cons_append,imgF,imgF,imgF_app Os A B,List.append_assoc,List.map_cons,List.sum_cons,Nat.add_assoc]
theorem imgF_take{Os:List LObj}{k:Nat}(hk:k<Os.length):imgF Os (Os.take (k+1)) 0=imgF Os (Os.take k) 0++Os[k].globs.map (mvG Os Os[k] (gBase Os k)):=by
 rw[List.take_succ_eq_append_getElem hk,imgF_app];simp[imgF,gBase]
theorem imgF_len(Os:List LObj):∀(l:List LObj) (n:Nat),(imgF Os l n).length=(l.map λO=>O.globs.length).sum
 |[],_=>rfl
 |O::r,n=>by rw[imgF,List.length_append,List.length_map,imgF_len Os r,List.map_cons,List.sum_cons]
theorem Tryz.globJ:(Tryz.prog.info? 46).map (λi=>(i.zero,i.size,i.bytes))=some (some (.agg #[.string ⟨#[]⟩,.int .i64 0,.bool false,.slice none 0 0]),4,56):=by kernel_rfl
def twP(Os:List LObj)(k:Nat)(g:LGlob):Bool:=g.exp && (match expo Os g.name with|some (_,who,_)=>decide (who<k)|none=>decide (0<k))
theorem twB_eq(Os:List LObj)(k:Nat)(O:LObj):twB Os k O=O.globs.any (twP Os k):=rfl
def iB(Os:List LObj)(q:Nat)(i:LImp):Bool:=if q=0 then (expo Os i.name).isNone else decide ((match expo Os i.name with|some (_,_,a)=>a|none=>0)≠i.arity)
def pB(Os:List LObj)(q:Nat)(_:Nat)(O:LObj):Bool:=O.imps.any (iB Os q)
theorem pB0(Os:List LObj):pB Os 0=λ_=>miB Os:=rfl
theorem pB1(Os:List LObj):pB Os 1=λ_=>arB2 Os:=rfl
theorem any_at{α:Type}(p:α->Bool)(l:List α){j:Nat}(hj:j<l.length):(l.drop j).any p=(p l[j]||(l.drop (j+1)).any p):=by rw[List.drop_eq_getElem_cons hj,List.any_cons]
theorem szG_le2{l:List LGlob}(h:∀g∈l,0<g.code.length∧g.code.length<=65536):∀j,j<=l.length->szG l j<=j*65536:=szG_le λg hg=>(h g hg).2
theorem ref_err{z:Nat}{Os:List LObj}{entry:ByteArray}{w w':World}{i k:Nat}{c:Int}(hb:Below w.heap.size w w')(hL:lnkE Os entry=some (i,k))(hc:kCode i=c){e:Ending}(he:e=.returned (.tuple #[.pointer none,.int .i64 c,.int .i64 (k:Int)])):RefLk z Os entry w e w':=by
 refine⟨hb,?_⟩;rw[hL,he,<-hc]
theorem refLink_any(Os:List LObj)(v:Value)(entry:ByteArray)(w:World)(h:ObjsAt w v Os)(hZ:Szd Os){wA:World}(hz0:ObjsAt wA v Os)(hbz:Below wA.heap.size wA w):
 Calls Tryz.prog 7 #[v,.string entry] w λe w'=>RefLk wA.heap.size Os entry w e w':=by
 have HO:=hid (λX (hb:Below w.heap.size w X)=>h.keep hb);obtain⟨p,cap,rfl,hs,hI⟩:=id h;have HI:Hid (∀w',Below w.heap.size w w'->ObjsIn w' p Os):=λw' hb=>hI.keep hb;unfold short at hs;obtain⟨pz,capz,ez,-,hIz⟩:=hz0;cases ez;have HIZ:=hid hIz;have HBZ:=hid hbz;clear h hI hIz hbz;by_cases h8:8<Os.length
 ·have HL:Hid (lnkE Os entry=some (18,0)):=by show _=_;unfold lnkE;rw[if_pos h8]
  have i8:(8:Int)<(Os.length:Int):=by omega
  go_enter Tryz.func7,Tryz.ntmps7;go_wp2;go_ret3
  exact ref_err (Below.refl _ _) HL.out rfl rfl
 have hF:Few Os:=⟨by omega,hZ⟩;have HF:=hid hF;have i8:¬(8:Int)<(Os.length:Int):=by omega
 have HL0:=hid (lnk_few (entry:=entry) h8);have HEX:Hid (∀X t,Below w.heap.size w X->Calls Tryz.prog 18 #[.slice p Os.length cap,.string t] X λe w'=>e=.returned (exVal (expo Os t))∧Below X.heap.size X w'):=λX t hb=>export_any Os _ t X (HO.out X hb) HF.out;clear hF hZ;go_enter Tryz.func7,Tryz.ntmps7;go_wp2;go_loopw [7,8] (λnv kv wr=>∃k:Nat,k<=Os.length∧nv=.int .i64 (szO Os k:Int)∧kv=.int .i64 (k:Int)∧Hid (fstF (λ_ O=>!okO O) Os 0=fstF (λ_ O=>!okO O) (Os.drop k) k∧szO Os k<=k*200000000000000000∧Below w.heap.size w wr)) (λ_ kv _=>Os.length-(intOf kv).toNat)
 case atStart=>exact⟨0,Nat.zero_le _,rfl,rfl,rfl,by simp[szO],Below.refl _ _⟩
 case round=>
  obtain⟨k,hk,rfl,rfl,HS⟩:=hrel;rename World=>wr
  by_cases hlt:k<Os.length
  ·have h0:(0:Int)<=(k:Int):=by omega
   have h1:(k:Int)<(Os.length:Int):=by omega
   obtain⟨b,o,ip,ic,gp,gc,rfl,c0,c1,c2,hO⟩:=(HI.out _ HS.out.2.2).cells hlt;have HE:=hid (HS.out.1.trans (fstF_at _ Os hlt));have hbs:=HS.out.2.1;have HB:=hid HS.out.2.2;have hbz:=HB.out.size;have HC:=hid (refSounds_any Os[k] _ wr hO);cases hok:okO Os[k]with
   |false=>
    have HL:Hid (lnkE Os entry=some (0,k)):=by
     show _=_;rw[HL0.out,HE.out,hok];rfl
    obtain⟨c,x,y,hc0,hd⟩:=docS_bad hok;rw[hd]at HC;clear HE hok hd hO HS HL0;generalize szO Os k=m at*;go_wp2_with (first
     |(go_at_call 17;refine HC.out.mono ?_;rintro e w1 ⟨rfl,hb1⟩;have HB1:=hid (HB.out.trans (hb1.mono hbz));clear hb1))
    go_ret3
    exact ref_err (HB1.out.alloc HB1.out.size _) HL.out rfl rfl
   |true=>
    have HE2:Hid (fstF (λ_ O=>!okO O) Os 0=fstF (λ_ O=>!okO O) (Os.drop (k+1)) (k+1)):=by show _=_;rw[HE.out,hok];rfl
    have hso:=okO_sound hok;rw[docS_ok hok]at HC;obtain⟨gp',gc',e,hgl,hgi⟩:=hO.globs.2.open;cases e;have HGI:=hid hgi;have hgn:=(HF.out.g Os[k] (List.getElem_mem _)).1;have HZS:=hid (szO_succ hlt);have HSO:=hid hso.ne;have HC2:=hid c2;clear HE hok hO HS hgi hso;generalize szO Os k=m at*;generalize hgl2:Os[k].globs=gl at*;have HSG:Hid (sz1 Os[k]=szG gl gl.length):=by show _=_;unfold sz1;rw[hgl2,szG_all]
    clear hgl2;go_wp2_with (first
     |(go_at_call 17;refine HC.out.mono ?_;rintro e w1 ⟨rfl,hb1⟩;have HB1:=hid hb1;clear hb1))
    go_loopw [7,11] (λnv jv wx=>∃j:Nat,j<=gl.length∧nv=.int .i64 ((m+szG gl j:Nat):Int)∧jv=.int .i64 (j:Int)∧Hid (Below wr.heap.size wr wx)) (λ_ jv _=>gl.length-(intOf jv).toNat)
    case atStart=>exact⟨0,Nat.zero_le _,rfl,rfl,HB1.out.alloc HB1.out.size _⟩
    case round=>
     obtain⟨j,hj,rfl,rfl,HX⟩:=hrel;rename World=>wx
     have d2:=cell_keep HX.out HC2.out;by_cases hjt:j<gl.length
     ·have j0:(0:Int)<=(j:Int):=by omega
      have j1:(j:Int)<(gl.length:Int):=by omega
      obtain⟨gb,go,cp,cn,cc,rfl,g0,g1,g2,g3,hC,-⟩:=HGI.out _ HX.out j hjt;obtain⟨cp',cc',e,hcl,-⟩:=hC.open;cases e;have hz:=szG_le2 HSO.out j (by omega);have HZ2:=hid (szG_succ hjt);generalize szG gl j=q at*;generalize gl[j].code.length=cl at*;clear hC;go_wp2;go_roundw
      case rel=>exact⟨j+1,by omega,by rw[HZ2.out];go_num,by go_num,HX.out⟩
      case measure=>simp[intOf];omega
     ·obtain rfl:j=gl.length:=by omega
      have hge:¬(gl.length:Int)<(gl.length:Int):=by omega
      have hz:=szG_le2 HSO.out _ (Nat.le_refl _);go_wp2;go_roundw
      case rel=>exact⟨k+1,by omega,by rw[HZS.out,HSG.out],by go_num,HE2.out,by rw[HZS.out,HSG.out];omega,HB.out.trans (HX.out.mono hbz)⟩
      case measure=>simp[intOf];omega
  ·obtain rfl:k=Os.length:=by omega
   have hge:¬(Os.length:Int)<(Os.length:Int):=by omega
   have hok:fstF (λ_ O=>!okO O) Os 0=none:=by rw[HS.out.1,fstF_end _ _ (Nat.le_refl _)]
   have HSO:=hid (all_sound hok);have HBW:=hid HS.out.2.2;rw[szO_all];have hsz:sz Os<=1600000000000000000:=by
    have:=HS.out.2.1;rw[szO_all]at this;omega
   rw[hok]at HL0;clear HS hok hk;rename World=>wy
   go_wp2;go_loopw [12] (λkv wr=>∃k:Nat,k<=Os.length∧kv=.int .i64 (k:Int)∧Hid (fstF (twB Os) Os 0=fstF (twB Os) (Os.drop k) k∧Below w.heap.size w wr)) (λkv _=>Os.length-(intOf kv).toNat)
   case atStart=>exact⟨0,Nat.zero_le _,rfl,rfl,HBW.out⟩
   case round=>
    clear HBW;obtain⟨k,hk,rfl,HS⟩:=hrel;rename World=>wr
    by_cases hlt:k<Os.length
    ·have h0:(0:Int)<=(k:Int):=by omega
     have h1:(k:Int)<(Os.length:Int):=by omega
     obtain⟨b,o,ip,ic,gp,gc,rfl,c0,c1,c2,hO⟩:=(HI.out _ HS.out.2).cells hlt;obtain⟨gp',gc',e,hgl,hgi⟩:=hO.globs.2.open;cases e;have HGI:=hid hgi;have HE:=hid (HS.out.1.trans (fstF_at _ Os hlt));rw[twB_eq]at HE;have HB:=hid HS.out.2;have hbz:=HB.out.size;have HC2:=hid c2;clear HS hgi hO c0 c1 c2;generalize Os[k].globs=gl at*;go_wp2;go_loopw [13] (λjv wx=>∃j:Nat,j<=gl.length∧jv=.int .i64 (j:Int)∧Hid (gl.any (twP Os k)=(gl.drop j).any (twP Os k)∧Below wr.heap.size wr wx)) (λjv _=>gl.length-(intOf jv).toNat)
     case atStart=>exact⟨0,Nat.zero_le _,rfl,rfl,Below.refl _ _⟩
     case round=>
      obtain⟨j,hj,rfl,HX⟩:=hrel;rename World=>wx
      have d2:=cell_keep HX.out.2 HC2.out;by_cases hjt:j<gl.length
      ·have j0:(0:Int)<=(j:Int):=by omega
       have j1:(j:Int)<(gl.length:Int):=by omega
       obtain⟨gb,go,cp,cn,cc,rfl,g0,g1,g2,g3,-,-⟩:=HGI.out _ HX.out.2 j hjt;have HBX:=hid (HB.out.trans (HX.out.2.mono hbz));have hzx:=HBX.out.size;have hzr:=HX.out.2.size;have HTP:=hid (HX.out.1.trans (any_at _ gl hjt));have HEN:=hid (HEX.out (wx.alloc (.cells #[.string gl[j].name,.int .i64 gl[j].arity,.bool gl[j].exp,.slice cp cn cc] 46)) gl[j].name (HBX.out.alloc hzx _));have HBR:=hid HX.out.2;unfold twP at HTP;clear HX;generalize gl[j].name=nm at*;generalize gl[j].arity=ar at*;generalize gl[j].exp=ex at*;obtain⟨n3,k3,a3,he3,hw3⟩:∃(n3:Int) (k3:Nat) (a3:Int),exVal (expo Os nm)=.tuple #[.int .i64 n3,.int .i64 (k3:Int),.int .i64 a3]∧(match expo Os nm with|some (_,who,_)=>decide (who<k)|none=>decide (0<k))=decide (k3<k):=by
        rcases expo Os nm with _|⟨x,y,z⟩
        ·exact⟨_,0,_,rfl,rfl⟩
        ·exact⟨_,y,_,rfl,rfl⟩
       rw[he3]at HEN;have HTP2:Hid (gl.any (twP Os k)=((ex && decide (k3<k))||(gl.drop (j+1)).any (twP Os k))):=by
        show _=_;rw[<-hw3];exact HTP.out
       clear HTP he3 hw3;by_cases hwk:ex=true∧k3<k
       ·obtain⟨rfl,hwk⟩:=hwk;have hwi:(k3:Int)<(k:Int):=by omega
        have HL:Hid (lnkE Os entry=some (14,k)):=by
         show _=_;rw[HL0.out,HE.out,HTP2.out];simp[hwk,orE]
        go_wp2_with (first
         |(go_at_call 18;refine HEN.out.mono ?_;rintro e w5 ⟨rfl,hb5⟩;have HB5:=hid ((HBX.out.alloc hzx _).trans (hb5.mono (by simp;omega)):Below w.heap.size w w5);have q2:=cell_keep hb5 (alloc_cell wx #[.string nm,.int .i64 ar,.bool true,.slice cp cn cc] 46 2 _ rfl);clear hb5))
        go_ret3
        exact ref_err HB5.out HL.out rfl rfl
       ·have HTP3:Hid (gl.any (twP Os k)=(gl.drop (j+1)).any (twP Os k)):=by
         show _=_;rw[HTP2.out];cases ex with
         |false=>rfl
         |true=>
          have:¬k3<k:=λh=>hwk ⟨rfl,h⟩;simp[this]
        cases ex with
        |false=>
         go_wp2_with (first
          |(go_at_call 18;refine HEN.out.mono ?_;rintro e w5 ⟨rfl,hb5⟩;have HB5:=hid ((HBR.out.alloc hzr _).trans (hb5.mono (by simp;omega)):Below wr.heap.size wr w5);have q2:=cell_keep hb5 (alloc_cell wx #[.string nm,.int .i64 ar,.bool false,.slice cp cn cc] 46 2 _ rfl);clear hb5))
         go_roundw
         case rel=>first|exact⟨j+1,by omega,by go_num,HTP3.out,HB5.out⟩|((repeat apply Exists.intro);exact⟨⟨j+1,by omega,by go_num,HTP3.out,HB5.out⟩,rfl⟩)
         case measure=>simp[intOf];omega
        |true=>
         have hnk:¬k3<k:=λh=>hwk ⟨rfl,h⟩;have hwi:¬(k3:Int)<(k:Int):=by omega
         go_wp2_with (first
          |(go_at_call 18;refine HEN.out.mono ?_;rintro e w5 ⟨rfl,hb5⟩;have HB5:=hid ((HBR.out.alloc hzr _).trans (hb5.mono (by simp;omega)):Below wr.heap.size wr w5);have q2:=cell_keep hb5 (alloc_cell wx #[.string nm,.int .i64 ar,.bool true,.slice cp cn cc] 46 2 _ rfl);clear hb5))
         go_roundw
         case rel=>first|exact⟨j+1,by omega,by go_num,HTP3.out,HB5.out⟩|((repeat apply Exists.intro);exact⟨⟨j+1,by omega,by go_num,HTP3.out,HB5.out⟩,rfl⟩)
         case measure=>simp[intOf];omega
      ·obtain rfl:j=gl.length:=by omega
       have hge2:¬(gl.length:Int)<(gl.length:Int):=by omega
       have HE2:Hid (fstF (twB Os) Os 0=fstF (twB Os) (Os.drop (k+1)) (k+1)):=by
        show _=_;rw[HE.out,HX.out.1,List.drop_length];rfl
       go_wp2;go_roundw
       case rel=>exact⟨k+1,by omega,by go_num,HE2.out,HB.out.trans (HX.out.2.mono hbz)⟩
       case measure=>simp[intOf];omega
    ·obtain rfl:k=Os.length:=by omega
     have htw:fstF (twB Os) Os 0=none:=by rw[HS.out.1,fstF_end _ _ (Nat.le_refl _)]
     have HBW:=hid HS.out.2;rw[htw]at HL0;clear HS htw hk;rename World=>wz
     go_wp2;go_loopw [18] (λpv wr=>∃q:Nat,q<=2∧pv=.int .i64 (q:Int)∧Hid ((1<=q->fstF (pB Os 0) Os 0=none)∧(2<=q->fstF (pB Os 1) Os 0=none)∧Below w.heap.size w wr)) (λpv _=>2-(intOf pv).toNat)
     case atStart=>exact⟨0,by omega,rfl,λh=>absurd h (by omega),λh=>absurd h (by omega),HBW.out⟩
     case round=>
      clear HBW;obtain⟨q,hq,rfl,HQ⟩:=hrel;rename World=>wq
      by_cases hq2:q<2
      ·have q0:(q:Int)<2:=by omega
       have HBQ:=hid HQ.out.2.2;have HQ1:=hid HQ.out.1;clear HQ;go_wp2;go_loopw [19] (λkv wr=>∃k:Nat,k<=Os.length∧kv=.int .i64 (k:Int)∧Hid (fstF (pB Os q) Os 0=fstF (pB Os q) (Os.drop k) k∧Below w.heap.size w wr)) (λkv _=>Os.length-(intOf kv).toNat)
       case atStart=>exact⟨0,Nat.zero_le _,rfl,rfl,HBQ.out⟩
       case round=>
        clear HBQ;obtain⟨k,hk,rfl,HS⟩:=hrel;rename World=>wr
        by_cases hlt:k<Os.length
        ·have h0:(0:Int)<=(k:Int):=by omega
         have h1:(k:Int)<(Os.length:Int):=by omega
         obtain⟨b,o,ip,ic,gp,gc,rfl,c0,c1,c2,hO⟩:=(HI.out _ HS.out.2).cells hlt;obtain⟨ip',ic',e,hil,hii⟩:=hO.globs.1.open;cases e;have HII:=hid hii;have HE:=hid (HS.out.1.trans (fstF_at _ Os hlt));unfold pB at HE;have HB:=hid HS.out.2;have hbz:=HB.out.size;have HC1:=hid c1;clear HS hii hO c0 c1 c2;generalize Os[k].imps=im at*;go_wp2;go_loopw [20] (λjv wx=>∃j:Nat,j<=im.length∧jv=.int .i64 (j:Int)∧Hid (im.any (iB Os q)=(im.drop j).any (iB Os q)∧Below wr.heap.size wr wx)) (λjv _=>im.length-(intOf jv).toNat)
         case atStart=>exact⟨0,Nat.zero_le _,rfl,rfl,Below.refl _ _⟩
         case round=>
          obtain⟨j,hj,rfl,HX⟩:=hrel;rename World=>wx
          have d1:=cell_keep HX.out.2 HC1.out;by_cases hjt:j<im.length
          ·have j0:(0:Int)<=(j:Int):=by omega
           have j1:(j:Int)<(im.length:Int):=by omega
           obtain⟨ib,io,rfl,i0,i1,-⟩:=HII.out _ HX.out.2 j hjt;have HBX:=hid (HB.out.trans (HX.out.2.mono hbz));have hzx:=HBX.out.size;have hzr:=HX.out.2.size;have HTP:=hid (HX.out.1.trans (any_at _ im hjt));have HEN:=hid (HEX.out (wx.alloc (.cells #[.string im[j].name,.int .i64 im[j].arity] 72)) im[j].name (HBX.out.alloc hzx _));have HBR:=hid HX.out.2;unfold iB at HTP;clear HX;generalize im[j].name=nm at*;generalize im[j].arity=ar at*;obtain⟨n3,k3,a3,he3,hw3,hw4⟩:∃(n3:Int) (k3:Int) (a3:Int),exVal (expo Os nm)=.tuple #[.int .i64 n3,.int .i64 k3,.int .i64 a3]∧(expo Os nm).isNone=decide (n3<0)∧(match expo Os nm with|some (_,_,a)=>a|none=>0)=a3:=by
            rcases expo Os nm with _|⟨x,y,z⟩
            ·exact⟨_,_,_,rfl,rfl,rfl⟩
            ·refine⟨_,_,_,rfl,?_,rfl⟩;have:¬(x:Int)<0:=by omega
             simp[this]
           rw[he3]at HEN;have HTP2:Hid (im.any (iB Os q)=((if q=0 then decide (n3<0) else decide (a3≠ar))||(im.drop (j+1)).any (iB Os q))):=by
            show _=_;rw[<-hw3,<-hw4];exact HTP.out
           clear HTP he3 hw3 hw4;rcases(show q=0∨q=1 by omega) with rfl|rfl
           ·rw[if_pos rfl]at HTP2;by_cases hn:n3<0
            ·have HL:Hid (lnkE Os entry=some (15,k)):=by
              show _=_;rw[HL0.out,<-pB0,show fstF (pB Os 0) Os 0=_ from HE.out,show im.any (iB Os 0)=_ from HTP2.out];simp[hn,orE]
             go_wp2_with (first
              |(go_at_call 18;refine HEN.out.mono ?_;rintro e w5 ⟨rfl,hb5⟩;have HB5:=hid ((HBX.out.alloc hzx _).trans (hb5.mono (by simp;omega)):Below w.heap.size w w5);have q2:=cell_keep hb5 (alloc_cell wx #[.string nm,.int .i64 ar] 72 1 _ rfl);clear hb5))
             go_ret3
             exact ref_err HB5.out HL.out rfl rfl
            ·have HTP3:Hid (im.any (iB Os 0)=(im.drop (j+1)).any (iB Os 0)):=by
              show _=_;rw[HTP2.out];simp[hn]
             go_wp2_with (first
              |(go_at_call 18;refine HEN.out.mono ?_;rintro e w5 ⟨rfl,hb5⟩;have HB5:=hid ((HBR.out.alloc hzr _).trans (hb5.mono (by simp;omega)):Below wr.heap.size wr w5);have q2:=cell_keep hb5 (alloc_cell wx #[.string nm,.int .i64 ar] 72 1 _ rfl);clear hb5))
             go_roundw
             case rel=>first|exact⟨j+1,by omega,by go_num,HTP3.out,HB5.out⟩|((repeat apply Exists.intro);exact⟨⟨j+1,by omega,by go_num,HTP3.out,HB5.out⟩,rfl⟩)
             case measure=>simp[intOf];omega
           ·rw[if_neg (by omega)]at HTP2;by_cases hn:a3=ar
            ·have HTP3:Hid (im.any (iB Os 1)=(im.drop (j+1)).any (iB Os 1)):=by
              show _=_;rw[HTP2.out];simp[hn]
             go_wp2_with (first
              |(go_at_call 18;refine HEN.out.mono ?_;rintro e w5 ⟨rfl,hb5⟩;have HB5:=hid ((HBR.out.alloc hzr _).trans (hb5.mono (by simp;omega)):Below wr.heap.size wr w5);have q2:=cell_keep hb5 (alloc_cell wx #[.string nm,.int .i64 ar] 72 1 _ rfl);clear hb5))
             go_roundw
             case rel=>first|exact⟨j+1,by omega,by go_num,HTP3.out,HB5.out⟩|((repeat apply Exists.intro);exact⟨⟨j+1,by omega,by go_num,HTP3.out,HB5.out⟩,rfl⟩)
             case measure=>simp[intOf];omega
            ·have HL:Hid (lnkE Os entry=some (16,k)):=by
              show _=_;rw[HL0.out,<-pB0,HQ1.out (Nat.le_refl _),<-pB1,show fstF (pB Os 1) Os 0=_ from HE.out,show im.any (iB Os 1)=_ from HTP2.out];simp[hn,orE]
             go_wp2_with (first
              |(go_at_call 18;refine HEN.out.mono ?_;rintro e w5 ⟨rfl,hb5⟩;have HB5:=hid ((HBX.out.alloc hzx _).trans (hb5.mono (by simp;omega)):Below w.heap.size w w5);have q2:=cell_keep hb5 (alloc_cell wx #[.string nm,.int .i64 ar] 72 1 _ rfl);clear hb5))
             go_ret3
             exact ref_err HB5.out HL.out rfl rfl
          ·obtain rfl:j=im.length:=by omega
           have hge2:¬(im.length:Int)<(im.length:Int):=by omega
           have HE2:Hid (fstF (pB Os q) Os 0=fstF (pB Os q) (Os.drop (k+1)) (k+1)):=by
            show _=_;rw[show fstF (pB Os q) Os 0=_ from HE.out,HX.out.1,List.drop_length];rfl
           go_wp2;go_roundw
           case rel=>exact⟨k+1,by omega,by go_num,HE2.out,HB.out.trans (HX.out.2.mono hbz)⟩
           case measure=>simp[intOf];omega
        ·obtain rfl:k=Os.length:=by omega
         have HN:Hid (fstF (pB Os q) Os 0=none):=by
          show _=_;rw[HS.out.1,fstF_end _ _ (Nat.le_refl _)]
         go_wp2;go_roundw
         case rel=>
          refine⟨q+1,by omega,by go_num,λ_=>?_,λh=>?_,HS.out.2⟩
          ·rcases(show q=0∨q=1 by omega) with rfl|rfl
           ·exact HN.out
           ·exact HQ1.out (Nat.le_refl _)
          ·obtain rfl:q=1:=by omega
           exact HN.out
         case measure=>simp[intOf];omega
      ·obtain rfl:q=2:=by omega
       have hL1:lnkE Os entry=lnkX Os entry:=by
        rw[HL0.out,<-pB0,HQ.out.1 (by omega),<-pB1,HQ.out.2.1 (Nat.le_refl _)];rfl
       have HBW:=hid HQ.out.2.2;clear HQ HL0;rename World=>wv
       have HEN:=hid (HEX.out wv entry HBW.out);have hzv:=HBW.out.size;unfold lnkX at hL1;cases hE:expo Os entry with
       |none=>
        rw[hE]at hL1 HEN;simp only[exVal]at HEN;have HL:=hid hL1;clear hL1 hE;go_wp2_with (first
         |(go_at_call 18;refine HEN.out.mono ?_;rintro e w5 ⟨rfl,hb5⟩;have HB5:=hid (HBW.out.trans (hb5.mono hzv):Below w.heap.size w w5);clear hb5))
        go_ret3
        exact ref_err HB5.out HL.out rfl rfl
       |some r=>
        obtain⟨n,who,a⟩:=r;rw[hE]at hL1 HEN;have HIE:Hid (imgE Os entry=(n:Int)):=by show _=_;unfold imgE;rw[hE]
        simp only[exVal]at HEN;change lnkE Os entry=(if a≠0 then some (17,0) else if 200000<sz Os then some (18,0) else none) at hL1;have hn0:¬(n:Int)<0:=by omega
        by_cases ha:a=0
        ·subst ha;rw[if_neg (by simp)]at hL1;by_cases hbig:200000<sz Os
         ·rw[if_pos hbig]at hL1;have HL:=hid hL1;have ib:(200000:Int)<(sz Os:Int):=by omega
          clear hL1 hE;go_wp2_with (first
           |(go_at_call 18;refine HEN.out.mono ?_;rintro e w5 ⟨rfl,hb5⟩;have HB5:=hid (HBW.out.trans (hb5.mono hzv):Below w.heap.size w w5);clear hb5))
          go_ret3
          exact ref_err HB5.out HL.out rfl rfl
         ·rw[if_neg hbig]at hL1;have HL:=hid hL1;have ib:¬(200000:Int)<(sz Os:Int):=by omega
          have HGB:Hid (∀k,k<=Os.length->gBase Os k<=200000):=λk hk=>by
           refine Nat.le_trans ?_ (Nat.le_trans (sz_base HSO.out) (by omega));have e2:=imgF_len Os (Os.take k++Os.drop k) 0;rw[imgF_app,List.length_append,imgF_len,List.take_append_drop]at e2;unfold gBase;rw[List.take_length];omega
          clear hL1 hE hbig;go_wp2_with (first
           |(go_at_call 18;refine HEN.out.mono ?_;rintro e w5 ⟨rfl,hb5⟩;have HB5:=hid (HBW.out.trans (hb5.mono hzv):Below w.heap.size w w5);clear hb5))
          have hz5:=HB5.out.size;have HR0:Hid (RiS wA.heap.size w (w5.alloc (.cells #[.slice none 0 0,.int .i64 (n:Int)] 74)) w5.heap.size (n:Int) (.slice none 0 0) []):=⟨HBZ.out.size,HB5.out.alloc hz5 _,⟨hz5,by simp⟩,by simp,by simp,λj=>by simp,[],rfl,World.ownsRow_nil _ _ _ _,λx hx=>absurd hx (by simp)⟩;obtain⟨ii,hii,hij⟩:=Option.map_eq_some_iff.1 Tryz.globJ;simp only[Prod.mk.injEq]at hij;obtain⟨hi0,hi1,hi2⟩:=hij;clear HEN HBW;go_loopw [29] (λkv wr=>∃k:Nat,k<=Os.length∧kv=.int .i64 (k:Int)∧Hid (∃vp vc,RiS wA.heap.size w wr w5.heap.size (n:Int) (.slice vp (gBase Os k) vc) (imgF Os (Os.take k) 0))) (λkv _=>Os.length-(intOf kv).toNat)
          case atStart=>exact⟨0,Nat.zero_le _,rfl,none,0,HR0.out⟩
          case round=>
           clear HR0;obtain⟨k,hk,rfl,HS⟩:=hrel;rename World=>wr
           obtain⟨vp,vc,hS⟩:=HS.out;have HRS:=hid hS;have r0:=hS.c0;clear HS hS;by_cases hlt:k<Os.length
           ·have h0:(0:Int)<=(k:Int):=by omega
            have h1:(k:Int)<(Os.length:Int):=by omega
            have hgb:=HGB.out k hk;have hgb2:=HGB.out (k+1) (by omega);have HGS:=hid (gBase_succ hlt);rw[gBase_succ hlt]at hgb2;have HT:=hid (imgF_take hlt);have HK0:=hid ((HI.out w (Below.refl _ _)).cells hlt);obtain⟨b,o,ip,ic,gp,gc,rfl,c0,c1,c2,hO⟩:=HK0.out;obtain⟨gp',gc',e,hgl,hgi⟩:=hO.globs.2.open;cases e;have HGI:=hid hgi;have HOK:Hid (ObjAt wA (.agg #[.string Os[k].name,.slice ip Os[k].imps.length ic,.slice gp Os[k].globs.length gc]) Os[k]):=by
             obtain⟨b',o',ip',ic',gp'',gc'',e,z0,z1,z2,hOz⟩:=HIZ.out.cells hlt;cases e;have q1:=cell_keep HBZ.out z1;have q2:=cell_keep HBZ.out z2;rw[c1]at q1;rw[c2]at q2;cases q1;cases q2;exact hOz
            have HC0:=hid c0;have HC1:=hid c1;have HC2:=hid c2;have HSK:=hid (HSO.out Os[k] (List.getElem_mem _));clear HK0 hgi hO c0 c1 c2;generalize hm:gBase Os k=m at*;have HMM:=hid hm;clear hm;have d2:=cell_keep HRS.out.low HC2.out;go_wp2;clear d2 r0;go_loopw [31] (λjv wx=>∃j:Nat,j<=Os[k].globs.length∧jv=.int .i64 (j:Int)∧Hid (∃vp vc,RiS wA.heap.size w wx w5.heap.size (n:Int) (.slice vp (m+j) vc) (imgF Os (Os.take k) 0++(Os[k].globs.take j).map (mvG Os Os[k] m)))) (λjv _=>Os[k].globs.length-(intOf jv).toNat)
            case atStart=>exact⟨0,Nat.zero_le _,rfl,vp,vc,by simpa using HRS.out⟩
            case round=>
             clear HRS;obtain⟨j,hj,rfl,HX⟩:=hrel;rename World=>wx
             obtain⟨vp2,vc2,hX⟩:=HX.out;have HRX:=hid hX;clear HX;have d0:=cell_keep hX.low HC0.out;have d1:=cell_keep hX.low HC1.out;have d2:=cell_keep hX.low HC2.out;have r0:=hX.c0;by_cases hjt:j<Os[k].globs.length
             ·have j0:(0:Int)<=(j:Int):=by omega
              have j1:(j:Int)<(Os[k].globs.length:Int):=by omega
              obtain⟨-,-,-,-,-,-,L,l1,l2,l3⟩:=id hX;have hLl:L.length=m+j:=by
               have:=congrArg List.length l1;rw[List.length_map,List.length_append,List.length_map,List.length_take,imgF_len,Nat.min_eq_left (by omega)]at this;have e2:((Os.take k).map λO=>O.globs.length).sum=m:=HMM.out;omega
              have HMV:=hid (λX (hb:Below wx.heap.size wx X)=>moved_any Os _ Os[k] _ j m wA X (HO.out X (hX.low.trans (hb.mono hX.low.size))) HF.out HOK.out (HBZ.out.trans ((hX.low.trans (hb.mono hX.low.size)).mono HBZ.out.size)) hjt (HSK.out.up _ (List.getElem_mem _)) (by have:=(HSK.out.ne _ (List.getElem_mem hjt)).2;omega) (by omega));have hnm:Os[k].globs[j].name.size<=maxLen:=by
               obtain⟨_,_,_,_,_,-,-,-,-,-,-,h⟩:=HGI.out _ (Below.refl _ _) j hjt;exact h
              have HTJ:Hid ((Os[k].globs.take (j+1)).map (mvG Os Os[k] m)=(Os[k].globs.take j).map (mvG Os Os[k] m)++[mvG Os Os[k] m Os[k].globs[j]]):=by
               show _=_;rw[List.take_succ_eq_append_getElem hjt,List.map_append];rfl
              have HNX:Hid (∀Z w2 cv G c,Below wx.heap.size wx Z->CodeX (λb=>b<wA.heap.size∨wx.heap.size<=b) Z cv (mvG Os Os[k] m Os[k].globs[j]).code->Z.grownBy w2 (Value.slice vp2 (m+j) vc2).ownBlock->((Value.slice vp2 (m+j) vc2).ownBlock=some G∨G=Z.heap.size)->w2.ownsRow (w5.heap.size+1) 46 4 (.slice (some ⟨G,0,none⟩) (m+j+1) c) (m+j+1) (L.flatMap rgC++[.string Os[k].globs[j].name,.int .i64 Os[k].globs[j].arity,.bool Os[k].globs[j].exp,cv])->(w2.cell? ⟨w5.heap.size,0,none⟩=some (.slice vp2 (m+j) vc2)∧w2.frozen? ⟨w5.heap.size,0,none⟩=false)∧RiS wA.heap.size w (w2.setCell ⟨w5.heap.size,0,none⟩ (.slice (some ⟨G,0,none⟩) (m+j+1) c)) w5.heap.size (n:Int) (.slice (some ⟨G,0,none⟩) (m+j+1) c) (imgF Os (Os.take k) 0++(Os[k].globs.take (j+1)).map (mvG Os Os[k] m))):=by
               intro Z w2 cv G c hb hc hg hat hown;rw[HTJ.out,<-List.append_assoc];exact hX.next (g:=mvG Os Os[k] m Os[k].globs[j]) l1 l2 l3 hb hc hnm hg hat hLl.symm hown
              have HOW:=hid l2;rw[hLl]at HOW;have HLI:=hid hX.lt;clear hX l1 l2 l3 hnm;generalize (mvG Os Os[k] m Os[k].globs[j]).code=mc at*;generalize Os[k].globs[j].name=nm at*;generalize Os[k].globs[j].arity=ar at*;generalize Os[k].globs[j].exp=ex at*;generalize L.flatMap rgC=XS at*;generalize Os[k].name=onm at*;go_upto_region 52 with fail
              have HMD:=hid (HMV.out wx.drew (Below.refl _ _).drew);have t0:wx.drew.cell? ⟨b,o+k*3,none⟩=_:=d0;have t1:wx.drew.cell? ⟨b,o+k*3+1,none⟩=_:=d1;have t2:wx.drew.cell? ⟨b,o+k*3+2,none⟩=_:=d2;have t3:wx.drew.cell? ⟨w5.heap.size,0,none⟩=_:=r0;have hIl:=HLI.out.2;have hwx:w.heap.size<=wx.heap.size:=HRX.out.low.size;clear HMV d0 d1 d2 r0;go_region_law
               (first
                |(go_simp;go_at_call 19;refine HMD.out.mono ?_;rintro e w6 ⟨hb6,cp6,cn6,cc6,rfl,hc6⟩;have r6:=cell_keep hb6 t3;have r6a:=λo=>alloc_old w6 o _ _ _ r6;have HB6:=hid ((Below.refl wx.heap.size wx).drew.trans (hb6.mono (Nat.le_refl _)):Below wx.heap.size wx w6);have HC6:=hid ((hc6.fr (Y:=λb=>b<wA.heap.size∨wx.heap.size<=b) (w':=w6.alloc (.cells #[.string nm,.int .i64 ar,.bool ex,.slice cp6 cn6 cc6] 46)) (λb hx hbl=>⟨hx.imp id (λh=>Nat.le_of_lt h),((Below.refl w6.heap.size w6).alloc (Nat.le_refl _) _).block b hbl⟩)));have hz6:=HB6.out.size;clear hb6 hc6)
                |(refine step_append_lies _ rfl (.tmp 209) (.tmp 218) 47 rfl (w5.heap.size+1) 46 ii _ 4 56 Tryz.underlying47 hii hi0 hi1 hi2 rfl (by omega) (.slice vp2 (m+j) vc2) (m+j) XS (by simp[Act.eval];done) ((row_kp HOW.out HB6.out).alloc _) ⟨w6.heap.size,0,none⟩ 1 1 [.string nm,.int .i64 ar,.bool ex,.slice cp6 cn6 cc6] (by simp[Act.eval];done) rfl (by have h:=World.news_of_block (heap_alloc_new w6 (Obj.cells #[.string nm,.int .i64 ar,.bool ex,.slice cp6 cn6 cc6] 46));simpa using h) (by intro u hu;simp at hu;rcases hu with rfl|rfl|rfl|rfl<;>rfl) (by omega) (by unfold maxLen;omega) (by omega) (by simp;omega) _ rfl ?_;intro G1 c1 w7 hown hgrow hat hlt1;obtain⟨⟨k7,f7⟩,hri⟩:=HNX.out _ _ _ _ _ (HB6.out.alloc hz6 _) HC6.out hgrow hat hown;have HRI:=hid hri;clear hown hgrow hat hlt1 hri))
              all_goals(try go_wp2)
              all_goals go_roundw
              all_goals first
               |exact⟨j+1,by omega,by go_num,_,_,HRI.out⟩
               |((repeat apply Exists.intro);exact⟨⟨j+1,by omega,by go_num,_,_,HRI.out⟩,rfl⟩)
               |(simp[intOf];omega)
             ·obtain rfl:j=Os[k].globs.length:=by omega
              have hge2:¬(Os[k].globs.length:Int)<(Os[k].globs.length:Int):=by omega
              have HF2:Hid (∃vp vc,RiS wA.heap.size w wx w5.heap.size (n:Int) (.slice vp (gBase Os (k+1)) vc) (imgF Os (Os.take (k+1)) 0)):=by
               rw[List.take_length]at hX;refine⟨vp2,vc2,?_⟩;rw[HGS.out,HT.out];exact hX
              clear hX;go_wp2;go_roundw
              all_goals first
               |exact⟨k+1,by omega,by go_num,HF2.out⟩
               |((repeat apply Exists.intro);exact⟨⟨k+1,by omega,by go_num,HF2.out⟩,rfl⟩)
               |(simp[intOf];omega)
           ·obtain rfl:k=Os.length:=by omega
            have hgb:=HGB.out _ (Nat.le_refl _);go_wp2;go_ret3
            refine⟨HRS.out.low,?_⟩;rw[HL.out];have hgl:(img Os).length=gBase Os Os.length:=by unfold img gBase;rw[imgF_len,List.take_length]
            have hr:=HRS.out;rw[List.take_length]at hr;exact⟨w5.heap.size,_,rfl,hr.lt.1,hr.c0,by rw[HIE.out];exact hr.c1,hr.globs (by show short (img Os).length;rw[hgl];unfold short;omega)⟩
        ·rw[if_pos ha]at hL1;have HL:=hid hL1;have hb0:(a==0)=false:=by simpa using ha
         have hb1:(a !=0)=true:=by simpa using ha
         clear hL1 hE;go_wp2_with (first
          |(go_at_call 18;refine HEN.out.mono ?_;rintro e w5 ⟨rfl,hb5⟩;have HB5:=hid (HBW.out.trans (hb5.mono hzv):Below w.heap.size w w5);clear hb5))
         go_ret3
         exact ref_err HB5.out HL.out rfl rfl
def Rg(v:Int):Prop:=v=-1∨v=-2∨(0<=v∧v<=1000)
theorem reachL_rg(dep:List Int)(todo:List Nat)(k:Nat)(d:Int)(hd:Rg d)(h:∀i,Rg (dep.getD i 0)):∀i,Rg ((reachL dep todo k d).1.getD i 0):=by
 intro i;unfold reachL;split
 ·exact h i
 ·show Rg ((dep.set k _).getD i 0);by_cases hk:k<dep.length
  ·rw[getD_set _ _ _ _ hk];split
   ·split
    ·exact hd
    ·exact Or.inr (Or.inl rfl)
   ·exact h i
  ·rw[List.set_eq_of_length_le (by omega)];exact h i
theorem reachAll_rg(d:Int)(hd:Rg d):∀(l:List Nat) (dep:List Int) (todo:List Nat),(∀i,Rg (dep.getD i 0))->∀i,Rg ((reachAll (dep,todo) l d).1.getD i 0)
 |[],_,_,h=>h
 |k::r,dep,todo,h=>reachAll_rg d hd r (reachL dep todo k d).1 (reachL dep todo k d).2 (reachL_rg dep todo k d hd h)
def InsF(x:LIns):Prop:=(0<=x.op∧x.op<21)∧insG x.op x.a x.alts=true
theorem insF_of{x:LIns}(h:insG x.op x.a x.alts=true):InsF x:=by
 refine⟨?_,h⟩;unfold insG at h;split at h
 ·assumption
 ·cases h
theorem outD_rg{x:LIns}(hx:InsF x){d v:Int}(hd:Rg d)(h1:d≠-1)(h:outD x d=some v):Rg v∧v≠-1:=by
 unfold outD at h;split at h
 ·cases h;exact⟨Or.inr (Or.inl rfl),by decide⟩
 ·split at h
  ·rename_i h2 hf
   cases h;obtain⟨⟨p0,p1⟩,hg⟩:=hx;have hop:x.op=((x.op.toNat:Nat):Int):=by omega
   rw[hop]at hg;have hdd:0<=d∧d<=1000:=by unfold Rg at hd;omega
   obtain⟨e1,e2⟩:=eff_math x.op.toNat (by omega) x.a d x.alts hg hdd.1 (by omega);rw[hf]at e1;obtain⟨b1,b2,b3⟩:=e2 (by simpa using e1.symm);rw[b1];exact⟨Or.inr (Or.inr ⟨b2,b3⟩),by omega⟩
  ·cases h
theorem least_go{code:List LIns}{d0:Int}(hI:∀x∈code,InsF x)(hs:∀k (hk:k<code.length),∀s∈succs code[k] k,s<code.length):∀(n:Nat) (dep:List Int) (todo:List Nat),2*(2*code.length-ranks dep)+todo.length<=n->Inv code d0 dep todo->(∀i,Rg (dep.getD i 0))->∃dep,Least code d0 dep∧∀i,Rg (dep.getD i 0):=by
 intro n;induction n with
 |zero=>
  intro dep todo hm hinv hr;have:todo=[]:=List.eq_nil_of_length_eq_zero (by omega);subst this;exact⟨dep,hinv.least,hr⟩
 |succ n ih=>
  intro dep todo hm hinv hr;rcases List.eq_nil_or_concat todo with rfl|⟨t,k,rfl⟩
  ·exact⟨dep,hinv.least,hr⟩
  ·rw[List.concat_eq_append]at hm hinv;have hk:k<code.length:=hinv.small k (by simp);obtain⟨h1,h2⟩:=hinv.next hk (hs k hk) λd hd ho=>(outD_rg (hI _ (List.getElem_mem hk)) (hr k) hd ho).2;refine ih _ _ (by omega) h1 λi=>?_;unfold leaveL;cases ho:outD code[k] (dep.getD k 0) with
   |none=>exact hr i
   |some v=>exact reachAll_rg v (outD_rg (hI _ (List.getElem_mem hk)) (hr k) (hinv.hot k (by simp)) ho).1 _ dep t hr i
theorem least_ex{code:List LIns}{d0:Int}(hI:∀x∈code,InsF x)(hs:∀k (hk:k<code.length),∀s∈succs code[k] k,s<code.length)(hp:0<code.length)(hd:0<=d0∧d0<=1000):∃dep,Least code d0 dep∧∀i,Rg (dep.getD i 0):=by
 have hrep:∀i,i<(List.replicate code.length (-1:Int)).length->(List.replicate code.length (-1:Int)).getD i 0=-1:=λi hi=>by
  rw[List.length_replicate]at hi;simp[List.getD,hi]
 refine least_go hI hs _ _ _ (Nat.le_refl _) (Inv.first (dep:=List.replicate code.length (-1)) hd.1 (by simp) hp hrep) λi=>reachL_rg _ _ _ _ (Or.inr (Or.inr hd)) (λi=>?_) i;by_cases hi:i<code.length
 ·rw[hrep i (by simpa using hi)];exact Or.inl rfl
 ·exact Or.inr (Or.inr (by simp[List.getD,hi]))
def InsK(x:LIns):Prop:=(0<=x.op∧x.op<21)∧insG x.op (if x.op=1 then 0 else x.a) x.alts=true
theorem InsF.l{x:LIns}(h:InsF x):InsK x:=by
 refine⟨h.1,?_⟩;by_cases e:x.op=1
 ·rw[if_pos e];have h2:=h.2;rw[e]at h2 ⊢;simp[insG,rowN,rowsTab]at h2 ⊢;exact h2.1.1
 ·rw[if_neg e];exact h.2
theorem insL_a{i:LIns}(h:InsK i){m:Nat}(hm:i.op=(m:Int))(hm21:m<21):(m≠0∧m≠1->0<=i.a∧i.a<=65535)∧((m=2∨m=4∨m=5∨m=6∨m=7)->i.a<=1000)∧(m=7->1<=i.a)∧(m=16->i.a<=255)∧(m≠17->i.alts=[])∧(m=17->altsGood i.alts=true):=by
 have h2:=h.2;rw[hm]at h2;obtain⟨a1,a2,a3,a4,a5,a6⟩:=insG_a m hm21 _ i.alts h2;by_cases e:m=1
 ·exact⟨λh=>absurd e h.2,λh=>by omega,λh=>by omega,λh=>by omega,a5,a6⟩
 ·rw[if_neg (by omega)]at a1 a2 a3 a4;exact⟨λh=>a1 h.1,a2,a3,a4,a5,a6⟩
theorem insL_good{i:LIns}(h:InsK i):i.alts.length<=256∧∀x∈i.alts,0<=x.tag∧x.tag<256∧0<=x.to∧x.to<65536:=(insG_good h.2).2
structure CodeOk (code:List LIns) (ar:Int) (D:Nat->Int):Prop where
 pos:0<code.length
 len:code.length<=65535
 start:D 0=ar+1
 ins:∀x∈code,InsK x
 go:∀k (hk:k<code.length),0<=D k->D k<=1000∧wrongR code[k].op.toNat code[k].a (D k)=false∧∀s∈succs code[k] k,s<code.length∧D s=D k+moreR code[k].op.toNat code[k].a∧0<=D s
theorem gBad_ok{code:List LIns}{ar most:Int}(h:gBad code (ar+1) most=none)(hc:codeG code=true)(ha:0<=ar∧ar<=20):∃D,CodeOk code ar D:=by
 have hI:∀x∈code,InsF x:=λx hx=>by
  obtain⟨k,hk,rfl⟩:=List.getElem_of_mem hx;exact insF_of (codeG_ins hc k hk)
 obtain⟨h1,hp⟩:=gBad_none h;have h2:firstBad (badNext code.length) code=none:=by
  unfold gBad at h;rw[h1]at h;simp only at h;rw[if_neg (by omega)]at h;cases hn:firstBad (badNext code.length) code with
  |none=>rfl
  |some k=>rw[hn]at h;cases h
 have hs:∀k (hk:k<code.length),∀s∈succs code[k] k,s<code.length:=λk hk s hs=>by
  have:=firstBad_none_spec h2 k hk;simp only[badNext,List.any_eq_false,decide_eq_true_eq,Nat.not_le]at this;exact this s hs
 obtain⟨dep,hL,hR⟩:=least_ex (d0:=ar+1) hI hs hp (by omega);rw[gBad_depth h1 (by omega) h2 hL]at h;have h3:firstBad (badD dep) code=none:=by
  cases hb:firstBad (badD dep) code with
  |none=>rfl
  |some k=>rw[hb]at h;cases h
 have hb:∀k (hk:k<code.length),dep.getD k 0≠-2∧(dep.getD k 0≠-1->fitsV code[k].op.toNat code[k].a (dep.getD k 0)=true):=λk hk=>by
  have:=firstBad_none_spec h3 k hk;simp only[badD,Bool.or_eq_false_iff,beq_eq_false_iff_ne,Bool.and_eq_false_iff,bne_eq_false_iff_eq,Bool.not_eq_false']at this;exact⟨this.1,λhne=>this.2.elim (λe=>absurd e hne) id⟩
 obtain⟨hpost,hleast⟩:=hL;refine⟨λk=>dep.getD k 0,hp,codeG_len hc,?_,λx hx=>(hI x hx).l,λk hk h0=>?_⟩
 ·have:=hpost.start;have:=(hb 0 hp).1;unfold leI at*;show dep.getD 0 0=_;omega
 ·have h0':0<=dep.getD k 0:=h0;obtain⟨⟨p0,p1⟩,hg⟩:=hI _ (List.getElem_mem hk);have hop:code[k].op=((code[k].op.toNat:Nat):Int):=by omega
  rw[hop]at hg;have hf:=(hb k hk).2 (by omega);have hle:dep.getD k 0<=1000:=by
   have:=hR k;unfold Rg at this;omega
  obtain⟨e1,e2⟩:=eff_math code[k].op.toNat (by omega) code[k].a (dep.getD k 0) code[k].alts hg h0' (by omega);rw[hf]at e1;have hw:wrongR code[k].op.toNat code[k].a (dep.getD k 0)=false:=by simpa using e1.symm
  obtain⟨b1,b2,b3⟩:=e2 hw;refine⟨hle,hw,λs hs'=>?_⟩;have hst:=hpost.step k hk s hs';have ho:outI code[k] (dep.getD k 0)=dep.getD k 0+moreR code[k].op.toNat code[k].a:=by
   unfold outI outD;rw[if_neg (by omega),if_neg (by omega),if_pos hf,<-b1];rfl
  rw[ho]at hst;have hsl:=hs k hk s hs';have:=(hb s hsl).1;unfold leI at hst;refine⟨hsl,?_,?_⟩
  ·show dep.getD s 0=dep.getD k 0+_;omega
  ·show 0<=dep.getD s 0;omega
end Go.Proofs.YtahmgjjgikgpoaaGreatDoor
