import Derived.Test.YtdpodpjdcfjfgaaGreatDoorSqJ
set_option maxRecDepth 100000
set_option maxHeartbeats 8000000
namespace Go.Proofs.YtdpodpjdcfjfgaaGreatDoor
open Go.RowKit Go.Sort
theorem flat3r_set:∀(l:List (MCl×Value)) (r:Nat) (_:r<l.length) (y:MCl×Value),((((l.flatMap rcC).set (r*3) (.int .u8 (kByte y.1.kind))).set (r*3+1) (.int .i64 (cN y.1))).set (r*3+2) y.2)=(l.set r y).flatMap rcC
 |x::l,0,_,y=>by simp[rcC]
 |x::l,r+1,hr,y=>by
  rw[List.flatMap_cons,List.set_cons_succ,List.flatMap_cons,<-flat3r_set l r (by simpa using hr) y];have e:∀(t:List Value) (j:Nat) (v:Value),(rcC x++t).set ((r+1)*3+j) v=rcC x++t.set (r*3+j) v:=λt j v=>by
   rw[List.set_append_right _ _ (by simp[rcC];omega)];congr 2
   simp[rcC];omega
  have e0:∀(t:List Value) (v:Value),(rcC x++t).set ((r+1)*3) v=rcC x++t.set (r*3) v:=λt v=>e t 0 v;rw[e0,e,e]
theorem flat3r_len:∀l:List (MCl×Value),(l.flatMap rcC).length=l.length*3
 |[]=>rfl
 |x::l=>by rw[List.flatMap_cons,List.length_append,flat3r_len l];simp[rcC];omega
theorem RMem.updC{lo:Nat}{w:World}{M Ib:Nat}{st:ASt}{cs:List (MCl×Value)}{ds:List (AFr×Value)}{cv sv dv:Value}(h:RMem lo w M Ib st cs ds cv sv dv){r:Nat}(hr:r<st.cells.length)(x:MCl)(pv:Value)(hx:PtX (λb=>lo<=b∧b∉rB M cv sv dv ds) w pv (cP x)):∃g c,cv=.slice (some ⟨g,0,none⟩) st.cells.length c∧(∀j,j<3->(∃u,w.cell? ⟨g,r*3+j,none⟩=some u)∧w.frozen? ⟨g,r*3+j,none⟩=false)∧RMem lo (((w.setCell ⟨g,r*3,none⟩ (.int .u8 (kByte x.kind))).setCell ⟨g,r*3+1,none⟩ (.int .i64 (cN x))).setCell ⟨g,r*3+2,none⟩ pv) M Ib {st with cells:=st.cells.set r x} (cs.set r (x,pv)) ds cv sv dv∧AG (rB M cv sv dv ds) w (((w.setCell ⟨g,r*3,none⟩ (.int .u8 (kByte x.kind))).setCell ⟨g,r*3+1,none⟩ (.int .i64 (cN x))).setCell ⟨g,r*3+2,none⟩ pv):=by
 have hl:cs.length=st.cells.length:=by rw[<-h.hcs,List.length_map]
 rcases id h.cl.2 with⟨-,h2⟩|⟨g,c,cur,hv,h3⟩
 ·omega
 have hcl:=h.cl;subst hv;have hfl:=flat3r_len cs;have h5:=((((hcl.stored (r*3) (.int .u8 (kByte x.kind))).1.stored (r*3+1) (.int .i64 (cN x))).1.stored (r*3+2) pv).1);rw[flat3r_set cs r (by omega) (x,pv)]at h5;have hrg:=h.rg;have hnd:([M]++(vB (.slice (some ⟨g,0,none⟩) cs.length c)++(vB sv++(vB dv++dB ds)))).Nodup:=h.nd;have hd:=List.nodup_append.1 hnd;have hd2:=List.nodup_append.1 hd.2.1;have hgv:g∈vB (.slice (some ⟨g,0,none⟩) cs.length c):=by rw[vB_slice];exact List.mem_singleton.2 rfl
 have hnC:∀b,b=M∨b∈vB sv++(vB dv++dB ds)->b≠g:=λb hb e=>by
  subst e;rcases hb with hb|hb
  ·exact hd.2.2 b (List.mem_singleton.2 hb) b (List.mem_append_left _ hgv) rfl
  ·exact hd2.2.2 b hgv b hb rfl
 obtain⟨w4,hw4⟩:∃w4,(((w.setCell ⟨g,r*3,none⟩ (.int .u8 (kByte x.kind))).setCell ⟨g,r*3+1,none⟩ (.int .i64 (cN x))).setCell ⟨g,r*3+2,none⟩ pv)=w4:=⟨_,rfl⟩;have hblk:∀b,b≠g->w4.heap[b]?=w.heap[b]?:=λb hb=>by rw[<-hw4,Below.heap_setCell _ _ _ _ hb,Below.heap_setCell _ _ _ _ hb,Below.heap_setCell _ _ _ _ hb]
 have hgB:g∈rB M (.slice (some ⟨g,0,none⟩) cs.length c) sv dv ds:=List.mem_cons_of_mem _ (List.mem_append_left _ hgv);have hAG:AG (rB M (.slice (some ⟨g,0,none⟩) cs.length c) sv dv ds) w w4:=by
  rw[<-hw4];exact(((AG.refl _ _).set (Or.inl hgB) _).set (Or.inl hgB) _).set (Or.inl hgB) _
 have hsz:=hAG.size;have hptx:∀v l,PtX (λb=>lo<=b∧b∉rB M (.slice (some ⟨g,0,none⟩) cs.length c) sv dv ds) w v l->PtX (λb=>lo<=b∧b∉rB M (.slice (some ⟨g,0,none⟩) cs.length c) sv dv ds) w4 v l:=λv l hp=>hp.fr λb hb hbl=>⟨hb,hblk b λe=>hb.2 (e▸hgB)⟩;refine⟨g,c,by rw[hl],λj hj=>⟨?_,hcl.frozenAt _⟩,?_,?_⟩
 ·rw[hcl.cellAt (r*3+j) (by omega)];exact⟨_,List.getElem?_eq_getElem (by omega)⟩
 ·rw[hw4]at h5 ⊢;refine⟨h.m.of_block (hblk M (hnC M (Or.inl rfl))) hsz,by rw[List.length_set];exact h5,λy hy=>?_,row_fr h.sk λb hb=>hblk b (hnC b (Or.inr (List.mem_append_left _ hb))),row_fr h.dp λb hb=>hblk b (hnC b (Or.inr (List.mem_append_right _ (List.mem_append_left _ hb)))),λy hy=>row_fr (h.dk y hy) λb hb=>hblk b (hnC b (Or.inr (List.mem_append_right _ (List.mem_append_right _ (List.mem_flatMap.2 ⟨y,hy,hb⟩))))),by rw[List.map_set,h.hcs],h.hds,h.nd,h.ml⟩;rcases List.mem_or_eq_of_mem_set hy with hy|rfl
  ·exact hptx _ _ (h.fl y hy)
  ·exact hptx _ _ hx
 ·rw[hw4];exact hAG
theorem rDoesC{lo:Nat}{w:World}{M Ib:Nat}{B:List Nat}{gs:List LGlob}{st:ASt}(i:LIns)(hS:AtS gs st i)(h:RM lo w M Ib st B)(ap:Option Addr)(an ac:Nat)(hop:i.op=4∨i.op=5):
 Calls Tryz.prog 172 #[.pointer (some ⟨M,0,none⟩),.agg #[.int .i64 i.op,.int .i64 i.a,.slice ap an ac]] w λe w'=>RRes lo M Ib B w (rDoes i st) (.tuple #[]) e w':=by
 obtain⟨ii,hii,hij⟩:=Option.map_eq_some_iff.1 Tryz.intK;simp only[Prod.mk.injEq]at hij;obtain⟨hi0,hi1,hi2⟩:=hij;obtain⟨op,a,alts⟩:=i;simp only at hop ⊢;have hneed:=hS.need;have hlen:=hS.len;have hcl:=hS.cl;have ha:=hS.a;simp only at hneed ha;have hb0:Below w.heap.size w (w.alloc (Obj.cells #[.int .i64 op,.int .i64 a,.slice ap an ac] 127)):=(Below.refl _ _).alloc (Nat.le_refl _) _;obtain⟨W0,hW0⟩:∃W0,w.alloc (Obj.cells #[.int .i64 op,.int .i64 a,.slice ap an ac] 127)=W0:=⟨_,rfl⟩;have hC0:C3 W0 w.heap.size (.int .i64 op) (.int .i64 a) (.slice ap an ac):=by rw[<-hW0];exact C3.new w _ _ _ _
 rw[hW0]at hb0;have HOF:Hid (∀s' v e w',RRes lo M Ib B W0 s' v e w'->RRes lo M Ib B w s' (.tuple #[]) (.returned (.tuple #[])) w'):=λs' v e w' hr=>hr.of (AG.of_below hb0) (λb hb=>Or.inl hb) rfl;have hbM:w.heap.size≠M:=by
  obtain⟨cs,ds,cv,sv,dv,h1,-⟩:=id h;have:=h1.m.lt;omega
 obtain⟨i0,i1,i2,-⟩:=hC0;obtain⟨cs,ds,cv,sv,dv,h1,hBe⟩:=h.keep hb0;obtain⟨k,rfl⟩:∃k:Nat,a=(k:Int):=⟨a.toNat,by have:=ha (by omega);omega⟩;have hpos:0<st.now.s.length:=by rcases hop with rfl|rfl<;>simp[needR]at hneed<;>omega
 obtain⟨sg,sc,rfl,hcap,hsc⟩:=stack_slice h1.sk hpos;have hsM:sg≠M:=λe=>(List.nodup_cons.1 h1.nd).1 (List.mem_append_right _ (List.mem_append_left _ (by rw[vB_slice];exact List.mem_singleton.2 e.symm)));have hsx:∀j,j<st.now.s.length->W0.cell? ⟨sg,j,none⟩=some (.int .i64 ((st.now.s[j]?).getD 0)):=λj hj=>by
  rw[hsc j hj];simp only[iC,List.getElem?_map];rw[List.getElem?_eq_getElem hj];rfl
 have m2:=h1.m.at 2 rfl;have f2:=h1.m.fz 2;have HH:=hid h1;have HBE:=hid hBe;have HSK:=hid h1.sk;obtain⟨N,hN⟩:∃N,st.now.s.length=N:=⟨_,rfl⟩;have HN:=hid hN;rcases hop with rfl|rfl
 ·simp[needR]at hneed;have sl:=hsx (N-1) (by omega);have eX:rDoes ⟨4,(k:Int),alts⟩ st=rStk (st.now.s.take (N-1-k)++[(st.now.s[N-1]?).getD 0]) st:=by rw[<-hN];rfl
  rw[eX];have HOM:Hid (W0.ownsRow lo 3 1 (.slice (some ⟨sg,0,none⟩) (N-1-k) sc) (N-1-k) (iC (st.now.s.take (N-1-k)))):=by
   have:=owns_tk h1.sk (m:=N-1-k) (by omega);rw[iC_take]at this;exact this
  have HFI:Hid (∀Z w6 G c',Below W0.heap.size W0 Z->Z.grownBy w6 (Value.slice (some ⟨sg,0,none⟩) (N-1-k) sc).ownBlock->((Value.slice (some ⟨sg,0,none⟩) (N-1-k) sc).ownBlock=some G∨G=Z.heap.size)->w6.ownsRow lo 3 1 (.slice (some ⟨G,0,none⟩) (N-1-k+1) c') (N-1-k+1) (iC (st.now.s.take (N-1-k))++[.int .i64 ((st.now.s[N-1]?).getD 0)])->(w6.cell? ⟨M,2,none⟩=some (.slice (some ⟨sg,0,none⟩) N sc)∧w6.frozen? ⟨M,2,none⟩=false)∧Hid (RRes lo M Ib B w (rStk (st.now.s.take (N-1-k)++[(st.now.s[N-1]?).getD 0]) st) (.tuple #[]) (.returned (.tuple #[])) (w6.setCell ⟨M,2,none⟩ (.slice (some ⟨G,0,none⟩) (N-1-k+1) c')))):=λZ w6 G c' hbz hg hat hown=>by
   have h:=HH.out;have hA:AG (vB (.slice (some ⟨sg,0,none⟩) st.now.s.length sc)) W0 w6:=AG.append (v:=.slice (some ⟨sg,0,none⟩) st.now.s.length sc) hbz hg;have hz:=hbz.size;have hnM:M∉vB (.slice (some ⟨sg,0,none⟩) st.now.s.length sc):=λhm=>(List.nodup_cons.1 h.nd).1 (List.mem_append_right _ (List.mem_append_left _ hm));have hbM:=hA.block M h.m.lt hnM;have hln:(st.now.s.take (N-1-k)++[(st.now.s[N-1]?).getD 0]).length=N-1-k+1:=by simp;omega
   obtain⟨q1,q2,q3⟩:=h.turnS hA (sv':=.slice (some ⟨G,0,none⟩) (N-1-k+1) c') (s':=st.now.s.take (N-1-k)++[(st.now.s[N-1]?).getD 0]) (by rw[hln,iC_app];exact hown) (λb hb'=>by
    rw[vB_slice]at hb';obtain rfl:=List.mem_singleton.1 hb';rcases hat with e|e
    ·exact Or.inl (mem_vB.2 e)
    ·right;omega)
   rw[<-HBE.out]at q2 q3;have hc2:=cell_same hbM (h.m.at 2 rfl);rw[HN.out]at hc2;exact⟨⟨hc2,by rw[World.frozen?_of_block (a:=⟨M,2,none⟩) hbM];exact h.m.fz 2⟩,HOF.out _ (.tuple #[]) (.returned (.tuple #[])) _ ⟨rfl,q2,_,⟨cs,ds,_,_,dv,q1,rfl⟩,q3⟩⟩
  have HLO:=hid h1.lz;rw[hN]at m2 hneed hlen hcap;have t1:((N:Int)-1).toNat=N-1:=by omega
  have t2:(0:Int)<=(N:Int)-1:=by omega
  have t3:(N:Int)-1<(N:Int):=by omega
  have t4:((N:Int)-1-(k:Int)).toNat=N-1-k:=by omega
  have t5:(0:Int)<=(N:Int)-1-(k:Int):=by omega
  have t6:(N:Int)-1-(k:Int)<=(sc:Int):=by omega
  have t9:(k:Int)<=(N:Int)-1:=by omega
  have t7:IntKind.i64.wrap ((N:Int)-1)=(N:Int)-1:=i64w (by omega);have t8:IntKind.i64.wrap ((N:Int)-1-(k:Int))=(N:Int)-1-(k:Int):=i64w (by omega);clear h h1 hBe hsc hsx hN eX hb0;generalize (st.now.s[N-1]?).getD 0=x at*;have m2a:=λo=>alloc_old W0 o _ _ _ m2;have i1a:=λo=>alloc_old W0 o _ _ _ i1;go_enter Tryz.func172,Tryz.ntmps172;go_upto_region 21 with fail
  go_region_law
   (first
    |(refine step_append_lies _ rfl (.tmp 88) (.tmp 90) 140 rfl lo 3 ii _ 1 8 Tryz.underlying140 hii hi0 hi1 hi2 rfl (by omega) (.slice (some ⟨sg,0,none⟩) (N-1-k) sc) (N-1-k) (iC (st.now.s.take (N-1-k))) (by first|(simp[Act.eval];done)|(simp[Act.eval,Act.put];done)) (row_kp HOM.out ((Below.refl _ _).alloc (Nat.le_refl _) _).drew) ⟨W0.heap.size,0,none⟩ 1 1 [.int .i64 x] (by first|(simp[Act.eval];done)|(simp[Act.eval,Act.put];done)) rfl (by have h:=World.news_of_block (heap_alloc_new W0 (Obj.cells #[.int .i64 x] 3));simpa using h) (by intro u hu;simp at hu;rcases hu with rfl;rfl) (by omega) (by unfold maxLen;omega) (by omega) (by have:=HLO.out;simp;omega) _ rfl ?_;intro G1 c1 w7 hown hgrow hat hlt1;obtain⟨⟨k7,f7⟩,HRR⟩:=HFI.out _ _ _ _ ((Below.refl _ _).alloc (Nat.le_refl _) _).drew hgrow hat hown;clear hown hgrow hat hlt1))
  all_goals(try go_wp2)
  all_goals
   refine bE ?_;first|(with_reducible exact HRR.out)|(with_reducible exact HRR.out.drew)
 ·simp[needR]at hneed;obtain⟨n,rfl⟩:∃n,N=n+1:=⟨N-1,by omega⟩;obtain⟨r,hrc,er,-⟩:=hS.ref (st.now.s.length-2-k) (by omega);rw[hN]at er;have sl:W0.cell? ⟨sg,n,none⟩=some (.int .i64 ((st.now.s[n]?).getD 0)):=hsx n (by omega);have sr:W0.cell? ⟨sg,n-1-k,none⟩=some (.int .i64 (r:Int)):=by
   rw[hsx _ (by omega),show n-1-k=n+1-2-k by omega,er];rfl
  have eX:rDoes ⟨5,(k:Int),alts⟩ st=rStk (st.now.s.take n) {st with cells:=st.cells.set r ⟨5,0,(st.now.s[n]?).getD 0,0,[]⟩}:=by
   show rStk (st.now.s.take (st.now.s.length-1)) {st with cells:=st.cells.set ((st.now.s[st.now.s.length-2-k]?).getD 0).toNat ⟨5,0,(st.now.s[st.now.s.length-1]?).getD 0,0,[]⟩}=_;rw[hN,er];rfl
  rw[eX];rw[hN]at m2 hneed hlen hcap;have HTK:=hid (takeX m2 f2 sl (by omega) (by omega));obtain⟨q1,q2,q3⟩:=h1.less (m:=n) (by omega);obtain⟨w1,hw1⟩:∃w1,W0.setCell ⟨M,2,none⟩ (.slice (some ⟨sg,0,none⟩) n sc)=w1:=⟨_,rfl⟩;rw[hw1]at q1 q2 HTK;have sr1:w1.cell? ⟨sg,n-1-k,none⟩=some (.int .i64 (r:Int)):=by rw[<-hw1];exact cell_same (Below.heap_setCell _ _ _ _ hsM) sr
  have ib1:w1.cell? ⟨w.heap.size,1,none⟩=some (.int .i64 (k:Int)):=by rw[<-hw1];exact cell_same (Below.heap_setCell _ _ _ _ hbM) i1
  obtain⟨x,hx⟩:∃x,(st.now.s[n]?).getD 0=x:=⟨_,rfl⟩;rw[hx]at HTK sl ⊢;have hbz:Below w1.heap.size w1 (w1.alloc (.cells #[.int .i64 x] 3)):=(Below.refl _ _).alloc (Nat.le_refl _) _;have hz:=q1.keep hbz;obtain⟨g,c,hcv,hjj,u1,u2⟩:=hz.updC (r:=r) hrc ⟨5,0,x,0,[]⟩ (.slice (some ⟨w1.heap.size,0,none⟩) 1 1) ⟨some ⟨w1.heap.size,0,none⟩,1,rfl,λi hi=>⟨w1.heap.size,0,⟨⟨q1.lz,λhm=>by have:=(q1.rg _ hm).2;omega⟩,_,_,heap_alloc_new w1 _⟩,rfl,by
   have:i=0:=by have h2:i<1:=hi;omega
   subst this;exact alloc_cell w1 #[.int .i64 x] _ _ _ rfl⟩⟩
  subst hcv;have n1:=q1.m.at 1 rfl;obtain⟨⟨v0,g0⟩,y0⟩:=hjj 0 (by omega);obtain⟨⟨v1,g1⟩,y1⟩:=hjj 1 (by omega);obtain⟨⟨v2,g2⟩,y2⟩:=hjj 2 (by omega);rw[Nat.add_zero]at g0 y0;have HRR:Hid (RRes lo M Ib B w (rStk (st.now.s.take n) {st with cells:=st.cells.set r ⟨5,0,x,0,[]⟩}) (.tuple #[]) (.returned (.tuple #[])) ((((w1.alloc (.cells #[.int .i64 x] 3)).setCell ⟨g,r*3,none⟩ (.int .u8 110)).setCell ⟨g,r*3+1,none⟩ (.int .i64 0)).setCell ⟨g,r*3+2,none⟩ (.slice (some ⟨w1.heap.size,0,none⟩) 1 1))):=by
   refine HOF.out _ (.tuple #[]) (.returned (.tuple #[])) _ ⟨rfl,?_,_,⟨_,ds,_,_,dv,u1,rfl⟩,?_⟩
   ·rw[hBe];exact(q2.then hbz).trans u2 λb hb=>(q3 b hb)
   ·intro b hb;rw[hBe];exact q3 b hb
  clear h h1 hBe hsc hsx hN eX hb0 q1 q2 q3 hz u1 u2 hjj hw1 er hx sr i1;have t1:((n+1:Nat):Int)-2-(k:Int)=((n-1-k:Nat):Int):=by omega
  have t7:IntKind.i64.wrap (((n+1:Nat):Int)-2)=((n+1:Nat):Int)-2:=i64w (by omega);have t8:IntKind.i64.wrap (((n+1:Nat):Int)-2-(k:Int))=((n-1-k:Nat):Int):=by rw[t1];exact i64w (by omega)
  have t2:((n-1-k:Nat):Int)<((n+1:Nat):Int):=by omega
  have t4:(r:Int)<(st.cells.length:Int):=by omega
  have n1a:=λo=>alloc_old w1 o _ _ _ n1;have sra:=λo=>alloc_old w1 o _ _ _ sr1;have iba:=λo=>alloc_old w1 o _ _ _ ib1;go_enter Tryz.func172,Tryz.ntmps172;go_upto_region 24 with(first
   |(go_at_call 171;refine HTK.out.mono ?_;rintro e w2 ⟨rfl,rfl⟩))
  go_region
  all_goals(try go_wp2)
  all_goals
   refine bE ?_;first|(with_reducible exact HRR.out)|(with_reducible exact HRR.out.drew)
end Go.Proofs.YtdpodpjdcfjfgaaGreatDoor
