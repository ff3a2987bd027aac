import Derived.Test.YtblobglfjhilmaaGreatDoorRk4J
set_option maxRecDepth 100000
set_option maxHeartbeats 16000000
namespace Go.Proofs.YtblobglfjhilmaaGreatDoor
open Go.RowKit Go.Sort
structure OpN where
 k:Nat
 a:Int
 b:Int
def vO(n:OpN):Value:=.agg #[.int .i64 (9+(n.k:Int)),.iface 374 (.agg #[.int .i64 n.a]),.iface 374 (.agg #[.int .i64 n.b])]
def xOp(n:OpN):Ex:=.op n.k (.num n.a) (.num n.b)
def cNumO(n:OpN)(kn:List ByteArray)(td:List CTask):CSt:=cPut 19 0 (cUpd 0 (cOp n.k n.a n.b ⟨[],1,[],kn,td⟩))
def codeO(n:OpN):List LIns:=[⟨0,n.a,[]⟩,⟨0,n.b,[]⟩,⟨9+(n.k:Int),0,[]⟩,⟨5,0,[]⟩,⟨19,0,[]⟩]
theorem cnum_codeO{n:OpN}(hk:n.k<6)(kn:List ByteArray)(td:List CTask):(cNumO n kn td).code=codeO n:=by
 have h:=(op_dep (k:=n.k) (a:=n.a) (b:=n.b) (c:=⟨[],1,[],kn,td⟩) hk rfl).1;show []++[(⟨((0:Nat):Int),n.a,[]⟩:LIns)]++[⟨((0:Nat):Int),n.b,[]⟩]++[⟨((9+n.k:Nat):Int),0,[]⟩]++[⟨((5:Nat):Int),(cOp n.k n.a n.b ⟨[],1,[],kn,td⟩).dep-2-0,[]⟩]++[⟨((19:Nat):Int),0,[]⟩]=_;rw[h,show((9+n.k:Nat):Int)=9+(n.k:Int) by omega];rfl
def GlResO(lo:Nat)(w:World)(U:Nat)(nm:ByteArray)(n:OpN)(kn:List ByteArray)(td:List CTask)(gv:Value)(e:Ending)(w':World):Prop:=Below lo w w'∧∃K cs ts' cp cl cc lv kv' tv',e=.returned (.agg #[.string nm,.int .i64 0,.bool (!has35 nm),.slice cp cl cc])∧CMem lo w' K U nm (cNumO n kn td) cs ts' (.slice cp cl cc) lv kv' tv' gv
theorem global_numO{lo:Nat}{w:World}{U:Nat}{kn:List ByteArray}{ts:List TT}{kv tv gv:Value}(nm:ByteArray)(pp:Option Addr)(pc:Nat)(n:OpN)(hk:n.k<6)(hlo:24<lo)(hT:TabAt w)(h:UMx lo w U kn ts kv tv gv):
 Calls Tryz.prog 42 #[.pointer (some ⟨U,0,none⟩),.agg #[.string nm,.slice pp 0 pc,.iface 339 (vO n)]] w λe w'=>GlResO lo w U nm n kn (ts.map ttT) gv e w':=by
 obtain⟨w1,hw1⟩:∃w1,w1=(w.alloc (.cells #[.string nm,.slice pp 0 pc,.iface 339 (vO n)] 131)).alloc (.cells #[.string ⟨#[]⟩,.int .i64 0,.bool false,.slice none 0 0] 76):=⟨_,rfl⟩;have hb1:Below w.heap.size w w1:=by rw[hw1];exact((Below.refl _ _).alloc (Nat.le_refl _) _).alloc (by simp) _
 have hx0:w1.cell? ⟨w.heap.size,0,none⟩=some (.string nm):=by rw[hw1];simp
 have hx1:w1.cell? ⟨w.heap.size,1,none⟩=some (.slice pp 0 pc):=by rw[hw1];simp
 have hx2:w1.cell? ⟨w.heap.size,2,none⟩=some (.iface 339 (vO n)):=by rw[hw1];simp
 have hV4:V4 w1 (w.heap.size+1) (.string ⟨#[]⟩) (.int .i64 0) (.bool false) (.slice none 0 0):=by
  rw[hw1];exact⟨by simp,by simp,by simp,by simp,λj=>by simp⟩
 have hz1:w1.heap.size=w.heap.size+2:=by rw[hw1];simp
 have HNC:=hid (coder0 U nm pp pc 339 (vO n) w1);have HB1:=hid hb1;have HU:=hid h;have HT:=hid hT;have HV4:=hid hV4;clear h hT hb1 hV4;go_enter Tryz.func42,Tryz.ntmps42;go_upto_region 1 with(fail)
 rw[<-hw1];have HZ1:=hid hz1;clear hw1 hz1;go_wp2_with (first
  |(go_at_call 80;refine HNC.out.mono ?_;rintro e w2 ⟨K,rfl,hK,hv,hb2⟩;have HC:=hid (HU.out.coder (HB1.out.trans (hb2.mono HB1.out.size)) (Nat.le_trans HB1.out.size hK) hv);have y0:=cell_keep hb2 hx0;have y1:=cell_keep hb2 hx1;have y2:=cell_keep hb2 hx2;have HY:=hid (HV4.out.keep hb2);have HB2:=hid (HB1.out.trans (hb2.mono HB1.out.size));have HK:=hid hK;have HSZ2:=hid hb2.size;clear hv hb2 hK)
  |(go_at_call 81;refine(result_op (G:=λ_=>True) n.k hk n.a n.b hlo (HT.out.keep HB2.out) ⟨_,_,_,_,_,_,HC.out,rfl,λ_ _=>trivial⟩ (by simp) rfl).mono ?_;intro e w3 hr;obtain⟨rfl,hA,B',hM,hB'⟩:=hr;have HNO:Hid (∀b,w.heap.size<=b->b<w.heap.size+2->b∉cmB K U (.slice none 0 0) [] (.slice none 0 0) kv tv ts):=(λb h1 h2 hm=>by rcases List.mem_cons.1 hm with rfl|hm;(have:=HK.out;have:=HZ1.out;omega);(have:=(HU.out.rg b hm).2;omega));have hw2:w.heap.size+2<=w2.heap.size:=(by have:=HZ1.out;have:=HSZ2.out;omega);have z0:=(World.cell?_of_block (a:=⟨w.heap.size,0,none⟩) (hA.block w.heap.size (by omega) (HNO.out _ (by omega) (by omega)))).trans y0;have z1:=(World.cell?_of_block (a:=⟨w.heap.size,1,none⟩) (hA.block w.heap.size (by omega) (HNO.out _ (by omega) (by omega)))).trans y1;have HY3:=hid (HY.out.of_block (hA.block (w.heap.size+1) (by omega) (HNO.out _ (by omega) (by omega))));have HL:=hid ((HB2.out.mono (show lo<=w.heap.size by have:=HU.out.ul;have:=HU.out.u.lt;omega)).trans (CM.low (G:=λ_=>True) ⟨_,_,_,_,_,_,HC.out,rfl,λ_ _=>trivial⟩ hA));have HBN:Hid (∀b∈B',b≠w.heap.size+1):=(λb hb=>by rcases hB' b hb with h1|h1;(exact λe=>HNO.out b (by omega) (by omega) h1);omega);obtain⟨cs,ts',cv',lv',kv',tv',hm,rfl,-⟩:=hM;clear hB';obtain⟨cp,cc,rfl⟩:=hm.code.slice;have HM:=hid hm;have k2:=hm.k.c2;clear hA hm y0 y1 y2))
 obtain⟨v0,v1,v2,v3,vf⟩:=id HY3.out;have f0:=vf 0;have f1:=vf 1;have f2:=vf 2;have f3:=vf 3;clear vf;have z0d:w3.drew.cell? ⟨w.heap.size,0,none⟩=_:=z0;have z1d:w3.drew.cell? ⟨w.heap.size,1,none⟩=_:=z1;have k2d:w3.drew.cell? ⟨K,2,none⟩=_:=k2;have hKX:K≠w.heap.size+1:=by have:=HK.out;have:=HZ1.out;omega
 have e0:∀u0 u1 u2 u3,((((w3.setCell ⟨w.heap.size+1,0,none⟩ u0).setCell ⟨w.heap.size+1,1,none⟩ u1).setCell ⟨w.heap.size+1,2,none⟩ u2).setCell ⟨w.heap.size+1,3,none⟩ u3).drew.cell? ⟨w.heap.size,0,none⟩=some (.string nm):=λu0 u1 u2 u3=>set4_old z0 (show w.heap.size≠w.heap.size+1 by omega) u0 u1 u2 u3;have e1:∀u0 u1 u2 u3,((((w3.setCell ⟨w.heap.size+1,0,none⟩ u0).setCell ⟨w.heap.size+1,1,none⟩ u1).setCell ⟨w.heap.size+1,2,none⟩ u2).setCell ⟨w.heap.size+1,3,none⟩ u3).drew.cell? ⟨w.heap.size,1,none⟩=some (.slice pp 0 pc):=λu0 u1 u2 u3=>set4_old z1 (show w.heap.size≠w.heap.size+1 by omega) u0 u1 u2 u3;have e2:∀u0 u1 u2 u3,((((w3.setCell ⟨w.heap.size+1,0,none⟩ u0).setCell ⟨w.heap.size+1,1,none⟩ u1).setCell ⟨w.heap.size+1,2,none⟩ u2).setCell ⟨w.heap.size+1,3,none⟩ u3).drew.cell? ⟨K,2,none⟩=some (.slice cp cs.length cc):=λu0 u1 u2 u3=>set4_old k2 hKX u0 u1 u2 u3;obtain⟨s0,s1,s2,s3⟩:=set4_new HY3.out (.string nm) (.int .i64 0) (.bool (!has35 nm)) (.slice cp cs.length cc);go_region_held_law (λw'=>w'.cell? ⟨w.heap.size,0,none⟩=some (.string nm)∧w'.cell? ⟨w.heap.size,1,none⟩=some (.slice pp 0 pc)∧w'.cell? ⟨K,2,none⟩=some (.slice cp cs.length cc)) (first|(with_reducible exact⟨z0d,z1d,k2d⟩)|(with_reducible exact⟨e0 _ _ _ _,e1 _ _ _ _,e2 _ _ _ _⟩))
  (first
  |(go_at_call 82;refine(contains35 _ _).mono ?_;rintro e w5 ⟨rfl,rfl⟩))
 all_goals(try go_wp2)
 all_goals refine bodyPost_ret (v:=.agg #[.string nm,.int .i64 0,.bool (!has35 nm),.slice cp cs.length cc]) (by simp[results,Tryz.results42,go_sem,s0,s1,s2,s3]) rfl ?_
 all_goals
  have hX:lo<=w.heap.size+1:=by have:=HU.out.ul;have:=HU.out.u.lt;omega
  refine⟨below_drew3 ((((HL.out.setCell hX _).setCell hX _).setCell hX _).setCell hX _),K,cs,ts',cp,cs.length,cc,lv',kv',tv',rfl,?_⟩;refine HM.out.fr (by simp) λb hb=>?_;have:=HBN.out b hb;show(World.setCell _ _ _).heap[b]?=_;rw[Below.heap_setCell _ _ _ _ this,Below.heap_setCell _ _ _ _ this,Below.heap_setCell _ _ _ _ this,Below.heap_setCell _ _ _ _ this]
def tskO(t:ByteArray)(n:OpN):TT:=(t,(.slice none 0 0,[]),(.iface 339 (vO n),xOp n,[]))
theorem addedO{w wr w5:World}{t:ByteArray}{n:OpN}{x0 x2 x3:Value}(h:UnS w [] [] wr)(hb:Below wr.heap.size wr w5)(q0:w5.cell? ⟨wr.heap.size,0,none⟩=some x0)(q2:w5.cell? ⟨wr.heap.size,2,none⟩=some x2)(q3:w5.cell? ⟨wr.heap.size,3,none⟩=some x3):
 Calls Tryz.prog 39 #[.pointer (some ⟨w.heap.size+2,0,none⟩),.agg #[.string t,.slice none 0 0,.iface 339 (vO n)]] w5 λe w'=>e=.returned (.tuple #[])∧Below (w.heap.size+2) w5 w'∧UnS w [t] [tskO t n] w'∧w'.cell? ⟨wr.heap.size,0,none⟩=some x0∧w'.cell? ⟨wr.heap.size,2,none⟩=some x2∧w'.cell? ⟨wr.heap.size,3,none⟩=some x3:=by
 obtain⟨kv,tv,h⟩:=h;have h5:=h.keep hb;have hz:=hb.size;have hin:∀b∈(w.heap.size+2)::(vB kv++vB tv),b∈umB (w.heap.size+2) kv tv []:=by
  intro b hb';unfold umB rowB;simpa using hb'
 refine(cadd_any t none 0 0 [] 339 (vO n) (xOp n) [] h5 (RowS.nil _ _) (λb hb'=>by simp[vB,Value.ownBlock]at hb') (λb hb'=>by simp[vB,Value.ownBlock]at hb') (by simp) (by simp)).mono ?_;rintro e w' ⟨rfl,hA,kv',tv',hu,-,-⟩;have hk:w'.heap[wr.heap.size]?=w5.heap[wr.heap.size]?:=hA.block _ (block_lt_of_cell q0) λhm=>by have:=(h.rg _ (hin _ hm)).2;omega
 exact⟨rfl,hA.low (λb hm=>(h5.rg _ (hin _ hm)).1) (by have:=h.u.lt;omega),⟨kv',tv',hu⟩,by rw[World.cell?_of_block (a:=⟨wr.heap.size,0,none⟩) hk];exact q0,by rw[World.cell?_of_block (a:=⟨wr.heap.size,2,none⟩) hk];exact q2,by rw[World.cell?_of_block (a:=⟨wr.heap.size,3,none⟩) hk];exact q3⟩
def DnSO(w:World)(t:ByteArray)(n:OpN)(wr:World):Prop:=∃kg kc p c gg gc cp cc cs,V3 wr (w.heap.size+2) (.slice (some ⟨kg,0,none⟩) 1 kc) (.slice p 0 c) (.slice (some ⟨gg,0,none⟩) 1 gc)∧wr.cell? ⟨kg,0,none⟩=some (.string t)∧C4 wr gg (.string t) (.int .i64 0) (.bool (!has35 t)) (.slice cp cs.length cc)∧1<=gc∧w.heap.size+2<=gg∧CodeO wr (w.heap.size+2) (.slice cp cs.length cc) cs∧cs.map (·.1)=(cNumO n [t] []).code
def MoResO(w:World)(nm t:ByteArray)(n:OpN)(e:Ending)(w':World):Prop:=Below w.heap.size w w'∧∃gg gc cp cc cs,e=.returned (.agg #[.string nm,.slice none 0 0,.slice (some ⟨gg,0,none⟩) 1 gc])∧C4 w' gg (.string t) (.int .i64 0) (.bool (!has35 t)) (.slice cp cs.length cc)∧1<=gc∧w.heap.size<=gg∧CodeO w' w.heap.size (.slice cp cs.length cc) cs∧cs.map (·.1)=(cNumO n [t] []).code
theorem DnSO.drew{w:World}{t:ByteArray}{n:OpN}{wr:World}(h:DnSO w t n wr):DnSO w t n wr.drew:=by
 obtain⟨kg,kc,p,c,gg,gc,cp,cc,cs,h1,h2,h3,h4,h5,h6,h7⟩:=h;exact⟨kg,kc,p,c,gg,gc,cp,cc,cs,⟨h1.c0,h1.c1,h1.c2,h1.f⟩,h2,h3,h4,h5,h6.fr okIns (Nat.le_refl _) (λ_ _=>rfl),h7⟩
theorem takenO{w wr:World}{nm t:ByteArray}{n:OpN}{iv dv kv v:Value}{tg tc:Nat}{p:Option Addr}{c:Nat}(hS:MdS w nm iv dv wr)(hu:UMem (w.heap.size+2) wr (w.heap.size+2) [t] [tskO t n] kv (.slice (some ⟨tg,0,none⟩) 1 tc) (.slice none 0 0))(hv:v=.slice p 0 c)(hp:v.ownBlock=some tg)(o:Obj):
 MdS w nm iv dv ((wr.alloc o).setCell ⟨w.heap.size+2,1,none⟩ v).drew∧UMx (w.heap.size+2) ((wr.alloc o).setCell ⟨w.heap.size+2,1,none⟩ v).drew (w.heap.size+2) [t] [] kv v (.slice none 0 0):=by
 have al:Below wr.heap.size wr (wr.alloc o):=(Below.refl _ _).alloc (Nat.le_refl _) _;have hz:=un_le (w:=w) (wr:=wr) ⟨_,_,hu⟩;have ha:=hu.keep al;have hnd:=hu.nd;have hB:umB (w.heap.size+2) kv v []=(w.heap.size+2)::(vB kv++[tg]):=by unfold umB rowB;rw[vB_own hp];simp
 have hB':umB (w.heap.size+2) kv (.slice (some ⟨tg,0,none⟩) 1 tc) [tskO t n]=(w.heap.size+2)::(vB kv++[tg]):=by unfold umB rowB tskO ttS;simp[vB,Value.ownBlock]
 rw[hB']at hnd;have hne:∀b∈vB kv++[tg],b≠w.heap.size+2:=λb hb e=>(List.nodup_cons.1 hnd).1 (e▸hb);have hkeep:∀b,b≠w.heap.size+2->((wr.alloc o).setCell ⟨w.heap.size+2,1,none⟩ v).drew.heap[b]?=(wr.alloc o).heap[b]?:=λb hb=>Below.heap_setCell _ _ _ _ hb;have hsz:(wr.alloc o).heap.size<=((wr.alloc o).setCell ⟨w.heap.size+2,1,none⟩ v).drew.heap.size:=by show _<=((wr.alloc o).setCell ⟨w.heap.size+2,1,none⟩ v).heap.size;simp
 refine⟨(hS.next (((al.mono hz).setCell (Nat.le_refl _) v))).drew,⟨?_,ha.kn.fr okStr hsz λb hb=>hkeep b (hne b (List.mem_append_left _ (rowB_plain hb))),Or.inr ⟨rfl,⟨_,_,hv⟩,λb hb=>?_⟩,by rw[hB];exact hnd,Nat.le_refl _⟩⟩
 ·obtain⟨a0,a1,a2,af⟩:=ha.u;have o1:∀j,j≠1->((wr.alloc o).setCell ⟨w.heap.size+2,1,none⟩ v).cell? ⟨w.heap.size+2,j,none⟩=(wr.alloc o).cell? ⟨w.heap.size+2,j,none⟩:=λj hj=>World.cell?_setCell_other _ _ _ _ (off_ne (Ne.symm hj));exact⟨(o1 0 (by omega)).trans a0,World.cell?_setCell_same _ _ _ a1,(o1 2 (by omega)).trans a2,λj=>by show World.frozen? (World.setCell _ _ _) _=false;rw[World.frozen?_setCell];exact af j⟩
 ·rw[vB_own hp]at hb;obtain rfl:=List.mem_singleton.1 hb;have:=hu.rg b (by rw[hB'];simp);exact⟨this.1,Nat.lt_of_lt_of_le this.2 (Nat.le_trans al.size hsz)⟩
theorem done1O{w W w5 w7:World}{nm t:ByteArray}{n:OpN}{iv dv lv kv tv:Value}{K:Nat}{cs:InsL}{ts:List TT}{cp:Option Addr}{cl cc g1 c1:Nat}{o:Obj}(hS:MdS w nm iv dv W)(hL:Below (w.heap.size+2) W w5)(hm:CMem (w.heap.size+2) w5 K (w.heap.size+2) t (cNumO n [t] []) cs ts (.slice cp cl cc) lv kv tv (.slice none 0 0))
 (hg:(w5.alloc o).grownBy w7 none) (hown:w7.ownsRow 0 76 4 (.slice (some ⟨g1,0,none⟩) (0+1) c1) (0+1) ([]++[.string t,.int .i64 0,.bool (!has35 t),.slice cp cl cc])) (hat:(none:Option Nat)=some g1∨g1=(w5.alloc o).heap.size) (hlt:g1<w7.heap.size):
 MdS w nm iv dv (w7.setCell ⟨w.heap.size+2,2,none⟩ (.slice (some ⟨g1,0,none⟩) (0+1) c1))∧DnSO w t n (w7.setCell ⟨w.heap.size+2,2,none⟩ (.slice (some ⟨g1,0,none⟩) (0+1) c1))∧tdLen (w7.setCell ⟨w.heap.size+2,2,none⟩ (.slice (some ⟨g1,0,none⟩) (0+1) c1)) (w.heap.size+2)=0:=by
 have hg1:g1=(w5.alloc o).heap.size:=by rcases hat with h|h;cases h;exact h
 have hz5:(w5.alloc o).heap.size=w5.heap.size+1:=by simp
 have hU5:=hm.u.lt;have al:Below w5.heap.size w5 (w5.alloc o):=(Below.refl _ _).alloc (Nat.le_refl _) _;have h7:∀b,b<w5.heap.size->w7.heap[b]?=w5.heap[b]?:=λb hb=>by rw[hg.block b (by omega) (by simp)];exact al.block b hb
 have hz7:w5.heap.size<=w7.heap.size:=by have:=hg.size;omega
 have hL7:Below (w.heap.size+2) W w7:=hL.trans ⟨hg.os,hg.tape,hg.output,hz7,λk hk=>h7 k (by omega)⟩;have hset:∀b,b≠w.heap.size+2->(w7.setCell ⟨w.heap.size+2,2,none⟩ (.slice (some ⟨g1,0,none⟩) (0+1) c1)).heap[b]?=w7.heap[b]?:=λb hb=>Below.heap_setCell _ _ _ _ hb;have hnd:=hm.nd;have hnU:∀b,b∈rowB insSub (.slice cp cl cc) cs++(vB lv++(vB kv++rowB ttS tv ts))->b≠w.heap.size+2:=λb hb e=>(List.nodup_cons.1 (List.nodup_cons.1 hnd).2).1 (e▸hb);have hall:∀b,b∈rowB insSub (.slice cp cl cc) cs++(vB lv++(vB kv++rowB ttS tv ts))->(w7.setCell ⟨w.heap.size+2,2,none⟩ (.slice (some ⟨g1,0,none⟩) (0+1) c1)).heap[b]?=w5.heap[b]?:=λb hb=>by
  rw[hset b (hnU b hb)];exact h7 b (hm.rg b (List.mem_cons_of_mem _ (List.mem_cons_of_mem _ hb))).2
 have hsz:w5.heap.size<=(w7.setCell ⟨w.heap.size+2,2,none⟩ (.slice (some ⟨g1,0,none⟩) (0+1) c1)).heap.size:=by simp;omega
 have hts:ts=[]:=by
  have:=hm.hts;have h0:(cNumO n [t] []).td=[]:=rfl;rw[h0]at this;exact List.map_eq_nil_iff.1 this
 subst hts;obtain⟨p,c,rfl⟩:=hm.td.nil;obtain⟨cp',cc',e⟩:=hm.code.slice;obtain⟨rfl,rfl,rfl⟩:cp=cp'∧cl=cs.length∧cc=cc':=by simpa using e
 have hk:StrsO w5 (w.heap.size+2) kv [t]:=hm.kn;have hko:=hk.own;obtain⟨kp,kc,rfl⟩:∃kp kc,kv=.slice kp 1 kc:=hk.slice;obtain⟨kg,rfl⟩:∃kg,kp=some ⟨kg,0,none⟩:=by
  rcases hko.2 with⟨e,-⟩|⟨g',cap,cur,e,-⟩
  ·cases e
  ·cases e;exact⟨_,rfl⟩
 have k0:w5.cell? ⟨kg,0,none⟩=some (.string t):=by rw[hko.cellAt 0 (by simp)];rfl
 obtain⟨a0,a1,a2,af⟩:=hm.u;have v7:V3 w7 (w.heap.size+2) (.slice (some ⟨kg,0,none⟩) 1 kc) (.slice p 0 c) (.slice none 0 0):=hm.u.of_block (h7 _ hU5);have o1:∀j,j≠2->(w7.setCell ⟨w.heap.size+2,2,none⟩ (.slice (some ⟨g1,0,none⟩) (0+1) c1)).cell? ⟨w.heap.size+2,j,none⟩=w7.cell? ⟨w.heap.size+2,j,none⟩:=λj hj=>World.cell?_setCell_other _ _ _ _ (off_ne (Ne.symm hj));have hx1:=(o1 1 (by omega)).trans v7.c1;have hc1:1<=c1:=by
  rcases hown.2 with⟨e,-⟩|⟨g',cap,cur,e,-,-,h3,h4,-⟩
  ·cases e
  ·cases e;exact h3
 have hC4:C4 w7 g1 (.string t) (.int .i64 0) (.bool (!has35 t)) (.slice cp cs.length cc):=⟨by rw[hown.cellAt 0 (by omega)];rfl,by rw[hown.cellAt 1 (by omega)];rfl,by rw[hown.cellAt 2 (by omega)];rfl,by rw[hown.cellAt 3 (by omega)];rfl⟩;refine⟨hS.next (hL7.setCell (Nat.le_refl _) _),⟨kg,kc,p,c,g1,c1,cp,cc,cs,⟨(o1 0 (by omega)).trans v7.c0,hx1,World.cell?_setCell_same _ _ _ v7.c2,λj=>by rw[World.frozen?_setCell];exact v7.f j⟩,?_,hC4.of_block (hset g1 (by omega)),hc1,by omega,?_,hm.hcs⟩,tdLen_of hx1⟩
 ·rw[World.cell?_of_block (a:=⟨kg,0,none⟩) (hall kg (List.mem_append_right _ (List.mem_append_right _ (List.mem_append_left _ (by simp[vB,Value.ownBlock])))))];exact k0
 ·exact(hm.code.fr okIns hsz λb hb=>hall b (List.mem_append_left _ hb)).low (by omega)
theorem module1O{w:World}{dg dc ic pc:Nat}{ip pp:Option Addr}(nm t:ByteArray)(pl:Int)(n:OpN)(hk6:n.k<6)(hlo:24<w.heap.size)(hT:TabAt w)(hn:nm.size<=100000)(ht:t.size<=100000)
 (d0:w.cell? ⟨dg,0,none⟩=some (.string t)) (d1:w.cell? ⟨dg,1,none⟩=some (.int .i64 pl)) (d2:w.cell? ⟨dg,2,none⟩=some (.slice pp 0 pc)) (d3:w.cell? ⟨dg,3,none⟩=some (.iface 339 (vO n))):
 Calls Tryz.prog 20 #[.agg #[.string nm,.slice ip 0 ic,.slice (some ⟨dg,0,none⟩) 1 dc]] w λe w'=>MoResO w nm t n e w':=by
 obtain⟨w3,hw3⟩:∃w3,w3=((w.alloc (.cells #[.string nm,.slice ip 0 ic,.slice (some ⟨dg,0,none⟩) 1 dc] 60)).alloc (.cells #[.string ⟨#[]⟩,.slice none 0 0,.slice none 0 0] 39)).alloc (.cells #[.slice none 0 0,.slice none 0 0,.slice none 0 0] 119):=⟨_,rfl⟩;have zA:(w.alloc (.cells #[.string nm,.slice ip 0 ic,.slice (some ⟨dg,0,none⟩) 1 dc] 60)).heap.size=w.heap.size+1:=by simp
 have zB:((w.alloc (.cells #[.string nm,.slice ip 0 ic,.slice (some ⟨dg,0,none⟩) 1 dc] 60)).alloc (.cells #[.string ⟨#[]⟩,.slice none 0 0,.slice none 0 0] 39)).heap.size=w.heap.size+2:=by simp
 have vA:=V3.new3 w (.string nm) (.slice ip 0 ic) (.slice (some ⟨dg,0,none⟩) 1 dc) 60;have vB':=V3.new3 (w.alloc (.cells #[.string nm,.slice ip 0 ic,.slice (some ⟨dg,0,none⟩) 1 dc] 60)) (.string ⟨#[]⟩) (.slice none 0 0) (.slice none 0 0) 39;have vC:=V3.new3 ((w.alloc (.cells #[.string nm,.slice ip 0 ic,.slice (some ⟨dg,0,none⟩) 1 dc] 60)).alloc (.cells #[.string ⟨#[]⟩,.slice none 0 0,.slice none 0 0] 39)) (.slice none 0 0) (.slice none 0 0) (.slice none 0 0) 119;rw[zA]at vB';rw[zB]at vC;have al:∀(w:World) (o:Obj),Below w.heap.size w (w.alloc o):=λw o=>(Below.refl _ _).alloc (Nat.le_refl _) _;have hS:MdS w nm (.slice ip 0 ic) (.slice (some ⟨dg,0,none⟩) 1 dc) w3:=by
  rw[hw3];exact⟨(((Below.refl _ _).alloc (Nat.le_refl _) _).alloc (by omega) _).alloc (by omega) _,(vA.keep (al _ _)).keep (al _ _),vB'.keep (al _ _)⟩
 have hU:UnS w [] [] w3:=by
  refine⟨.slice none 0 0,.slice none 0 0,?_,RowS.nil _ _,RowS.nil _ _,?_,Nat.le_refl _⟩
  ·rw[hw3];exact vC
  ·unfold umB;simp[vB,rowB,Value.ownBlock]
 have HS3:=hid hS;have HU3:=hid hU;have HT:=hid hT;have HD:=hid (And.intro d0 (And.intro d1 (And.intro d2 d3)));obtain⟨m0,m1,m2,-⟩:=id hS.m;have HUl:Hid (w.heap.size+2<=w3.heap.size):=by obtain⟨_,_,h⟩:=hU;exact Nat.le_of_lt h.u.lt
 clear hT hS hU d0 d1 d2 d3 vA vB' vC zA zB al;go_enter Tryz.func20,Tryz.ntmps20;go_upto_region 2 with(fail)
 rw[<-hw3];clear hw3;go_wp2_with (first
  |(go_at_call 38;refine(imports0 _ _ _ _ _).mono ?_;rintro e w4 ⟨rfl,hb4⟩;have HS4:=hid (HS3.out.next (hb4.mono HUl.out));have HU4:=hid (HU3.out.keep hb4);clear hb4))
 go_loopw [14] (λi wr=>i=.int .i64 0∧wr=w4) (λ_ _=>0)
 case atStart=>exact⟨rfl,rfl⟩
 case round=>
  obtain⟨rfl,hwr⟩:=hrel;subst hwr;obtain⟨n0,n1,n2,-⟩:=id HS4.out.m;clear m0 m1 m2;go_wp2;go_loopw [29] (λi wr=>∃k:Nat,k<=1∧i=.int .i64 (k:Int)∧Hid (MdS w nm (.slice ip 0 ic) (.slice (some ⟨dg,0,none⟩) 1 dc) wr∧UnS w ([t].take k) ([tskO t n].take k) wr)) (λi _=>1-(intOf i).toNat)
  case atStart=>exact⟨0,Nat.zero_le _,rfl,HS4.out,HU4.out⟩
  case round=>
   obtain⟨k,hk,rfl,HR⟩:=hrel;rename World=>wr
   by_cases hlt:k<1
   ·obtain rfl:k=0:=by omega
    have d0:=cell_keep HR.out.1.low HD.out.1;have d1:=cell_keep HR.out.1.low HD.out.2.1;have d2:=cell_keep HR.out.1.low HD.out.2.2.1;have d3:=cell_keep HR.out.1.low HD.out.2.2.2;obtain⟨W1,hW1⟩:∃W1,W1=wr.alloc (.cells #[.string t,.int .i64 pl,.slice pp 0 pc,.iface 339 (vO n)] 126):=⟨_,rfl⟩;have t0:W1.drew.cell? ⟨wr.heap.size,0,none⟩=some (.string t):=by show W1.cell? _=_;rw[hW1];simp
    have t2:W1.drew.cell? ⟨wr.heap.size,2,none⟩=some (.slice pp 0 pc):=by show W1.cell? _=_;rw[hW1];simp
    have t3:W1.drew.cell? ⟨wr.heap.size,3,none⟩=some (.iface 339 (vO n)):=by show W1.cell? _=_;rw[hW1];simp
    have HB1:Hid (Below wr.heap.size wr W1.drew):=by rw[hW1];exact((Below.refl _ _).alloc (Nat.le_refl _) _).drew
    go_upto_region 11 with fail
    rw[<-hW1];clear hW1 d0 d1 d2 d3;go_region_held_law (λw'=>w'.cell? ⟨wr.heap.size,0,none⟩=some (.string t)∧w'.cell? ⟨wr.heap.size,2,none⟩=some (.slice pp 0 pc)∧w'.cell? ⟨wr.heap.size,3,none⟩=some (.iface 339 (vO n))) (first|(with_reducible exact⟨t0,t2,t3⟩)|(with_reducible exact⟨q0,q2,q3⟩)|(with_reducible exact⟨r0,r2,r3⟩))
     (first
     |(go_at_call 40;refine(Clone_any t _ ht).mono ?_;rintro e w5 ⟨rfl,hb5⟩;have q0:=cell_keep hb5 t0;have q2:=cell_keep hb5 t2;have q3:=cell_keep hb5 t3;have HB5:=hid (HB1.out.trans (hb5.mono HB1.out.size));clear hb5)
     |(go_at_call 41;refine(texts0 _ _ _).mono ?_;rintro e w' ⟨rfl,hw'⟩;subst w')
     |(go_at_call 39;refine(addedO HR.out.2 HB5.out q0 q2 q3).mono ?_;rintro e w6 ⟨rfl,hb6,hu6,r0,r2,r3⟩;have HS6:=hid ((HR.out.1.next (HB5.out.mono (un_le HR.out.2))).next hb6);have HU6:=hid hu6;clear hb6 hu6))
    all_goals(try go_wp2)
    all_goals go_roundw
    all_goals first
     |exact⟨1,by omega,by go_num,HS6.out,HU6.out⟩
     |(simp[intOf])
   ·obtain rfl:k=1:=by omega
    clear HS4 HU4 n0 n1 n2;have HR1:Hid (MdS w nm (.slice ip 0 ic) (.slice (some ⟨dg,0,none⟩) 1 dc) wr∧UnS w [t] [tskO t n] wr):=HR.out;clear HR;go_wp2;go_loopw [] (λwr=>(Hid (MdS w nm (.slice ip 0 ic) (.slice (some ⟨dg,0,none⟩) 1 dc) wr∧UnS w [t] [tskO t n] wr))∨(Hid (MdS w nm (.slice ip 0 ic) (.slice (some ⟨dg,0,none⟩) 1 dc) wr∧DnSO w t n wr))) (λwr=>tdLen wr (w.heap.size+2))
    case atStart=>exact Or.inl HR1
    case round=>
     clear HR1;rename World=>wr
     rcases hrel with HR|HR
     ·obtain⟨hS,kv,tv,hu⟩:=id HR.out;have hown:=hu.td.own;obtain⟨tp,tc,rfl⟩:∃tp tc,tv=.slice tp 1 tc:=hu.td.slice;obtain⟨tg,rfl⟩:∃tg,tp=some ⟨tg,0,none⟩:=by
       rcases hown.2 with⟨e,-⟩|⟨g',cap,cur,e,-⟩
       ·cases e
       ·cases e;exact⟨_,rfl⟩
      have htc:1<=tc:=by
       rcases hown.2 with⟨e,-⟩|⟨g',cap,cur,e,-,-,h3,h4,-⟩
       ·cases e
       ·cases e;exact h3
      have c0:wr.cell? ⟨tg,0,none⟩=some (.string t):=by rw[hown.cellAt 0 (by omega)];rfl
      have c1:wr.cell? ⟨tg,1,none⟩=some (.slice none 0 0):=by rw[hown.cellAt 1 (by omega)];rfl
      have c2:wr.cell? ⟨tg,2,none⟩=some (.iface 339 (vO n)):=by rw[hown.cellAt 2 (by omega)];rfl
      obtain⟨u0,u1,u2,uf⟩:=id hu.u;have f1:=uf 1;have u1a:=λo=>alloc_old wr o _ _ _ u1;have f1a:∀o,(wr.alloc o).frozen? ⟨w.heap.size+2,1,none⟩=false:=λo=>by rw[World.frozen?_of_block (a:=⟨w.heap.size+2,1,none⟩) (heap_alloc_old _ _ (block_lt_of_cell u1))];exact f1
      have hp:(Value.slice (if tc=1 then some ⟨tg,0,none⟩ else some ⟨tg,3,none⟩) 0 (tc-1)).ownBlock=some tg:=by split<;>rfl
      obtain⟨hS2,hU2⟩:=takenO hS hu rfl hp (.cells #[.string t,.slice none 0 0,.iface 339 (vO n)] 131);obtain⟨W2,hW2⟩:∃W2,W2=(wr.alloc (.cells #[.string t,.slice none 0 0,.iface 339 (vO n)] 131)).setCell ⟨w.heap.size+1+1,1,none⟩ (.slice (if tc=1 then some ⟨tg,0,none⟩ else some ⟨tg,3,none⟩) 0 (tc-1)):=⟨_,rfl⟩;have hne:wr.heap.size≠w.heap.size+1+1:=by have:w.heap.size+2<wr.heap.size:=block_lt_of_cell u1;omega
      have xo:∀j,W2.drew.cell? ⟨wr.heap.size,j,none⟩=(wr.alloc (.cells #[.string t,.slice none 0 0,.iface 339 (vO n)] 131)).cell? ⟨wr.heap.size,j,none⟩:=λj=>by show W2.cell? _=_;rw[hW2];exact World.cell?_of_block (a:=⟨wr.heap.size,j,none⟩) (Below.heap_setCell _ _ _ _ hne)
      have x0:W2.drew.cell? ⟨wr.heap.size,0,none⟩=some (.string t):=by rw[xo];simp
      have x1:W2.drew.cell? ⟨wr.heap.size,1,none⟩=some (.slice none 0 0):=by rw[xo];simp
      have x2:W2.drew.cell? ⟨wr.heap.size,2,none⟩=some (.iface 339 (vO n)):=by rw[xo];simp
      have HS2:Hid (MdS w nm (.slice ip 0 ic) (.slice (some ⟨dg,0,none⟩) 1 dc) W2.drew):=by rw[hW2];exact hS2
      have hU2':UMx (w.heap.size+2) W2.drew (w.heap.size+2) [t] [] kv (.slice (if tc=1 then some ⟨tg,0,none⟩ else some ⟨tg,3,none⟩) 0 (tc-1)) (.slice none 0 0):=by rw[hW2];exact hU2
      have g2:W2.drew.cell? ⟨w.heap.size+1+1,2,none⟩=some (.slice none 0 0):=hU2'.u.c2;have HGL:=hid (global_numO t none 0 n hk6 (by omega) (HT.out.keep HS2.out.low) hU2');obtain⟨ii,hii,hij⟩:=Option.map_eq_some_iff.1 Tryz.gloI5;simp only[Prod.mk.injEq]at hij;obtain⟨hi0,hi1,hi2⟩:=hij;have htd:tdLen wr (w.heap.size+2)=1:=tdLen_of u1;clear hown hS hu uf hS2 hU2 hU2' hp xo;go_upto_region 16 with fail
      rw[<-hW2];clear hW2 u0 u1 u2 u1a f1a f1 c0 c1 c2;go_region_law
       (first
       |(go_simp;go_at_call 42;refine HGL.out.mono ?_;rintro e w5 ⟨hL,K,cs,ts',cp,cl,cc,lv,kv',tv',rfl,hm⟩;have y2:w5.cell? ⟨w.heap.size+1+1,2,none⟩=_:=hm.u.c2;have y2a:=λo=>alloc_old w5 o _ _ _ y2;have HL:=hid hL;have HM:=hid hm;clear hL hm)
       |(refine step_append_lies _ rfl (.tmp 58) (.tmp 61) 37 rfl 0 76 ii _ 4 56 Tryz.underlying37 hii hi0 hi1 hi2 rfl (by omega) (.slice none 0 0) 0 [] (by simp[Act.eval];done) ((RowS.nil (cells:=λ_:Unit=>[]) (sub:=λ_=>[]) (ok:=λ_ _=>True) _ 0).own) ⟨w5.heap.size,0,none⟩ 1 1 [.string t,.int .i64 0,.bool (!has35 t),.slice cp cl cc] (by simp[Act.eval];done) rfl (by have h:=World.news_of_block (heap_alloc_new w5 (Obj.cells #[.string t,.int .i64 0,.bool (!has35 t),.slice cp cl cc] 76));simpa using h) (by intro u hu;simp at hu;rcases hu with rfl|rfl|rfl|rfl<;>rfl) (by omega) (by unfold maxLen;omega) (by omega) (Nat.zero_le _) _ rfl ?_;intro g1 k1 w7 hown hgrow hat hlt1;obtain⟨z2,zf⟩:w7.cell? ⟨w.heap.size+1+1,2,none⟩=some (.slice none 0 0)∧w7.frozen? ⟨w.heap.size+1+1,2,none⟩=false:=grown_u HM.out.u hgrow;have HDN:=hid (done1O HS2.out HL.out HM.out hgrow hown hat hlt1);clear hown hgrow hat hlt1))
      all_goals(try go_wp2)
      all_goals go_roundw
      all_goals first
       |exact Or.inr ⟨HDN.out.1,HDN.out.2.1⟩
       |exact Or.inr ⟨HDN.out.1.drew,HDN.out.2.1.drew⟩
       |exact HDN.out.2.2
     ·obtain⟨hS,kg,kc,p,c,gg,gc,cp,cc,cs,v1,k0,g4,hgc,hgg,hC,hcs⟩:=id HR.out;have hcl:cs.length=5:=by have:=congrArg List.length hcs;rw[cnum_codeO hk6]at this;simpa[codeO]using this
      have hca:=hC.at (show _<_ by omega) (λx hx=>by
       have hm:x.1∈cs.map (·.1):=List.mem_map_of_mem hx;rw[hcs,cnum_codeO hk6]at hm;simp only[codeO,List.mem_cons,List.not_mem_nil,or_false]at hm;rcases hm with h|h|h|h|h<;>rw[h]<;>exact(show(0:Nat)<140737488355328 by omega))
      have HSO:=hid (usort1 v1 k0 g4.1 g4.2.1 g4.2.2.1 g4.2.2.2 hca (λx hx=>by
       rw[hcs,cnum_codeO hk6]at hx;simp only[codeO,List.mem_cons,List.not_mem_nil,or_false]at hx;rcases hx with rfl|rfl|rfl|rfl|rfl<;>simp only[ne_eq]<;>omega))
      have HV:=hid v1;have HG4:=hid g4;have HC:=hid hC;have HCS:=hid hcs;have HS:=hid hS;obtain⟨u0,u1,u2,-⟩:=id v1;clear hC hcs hca g4 v1 hS k0;go_upto_region 18 with(go_at_call 43;refine HSO.out.mono ?_;rintro e w8 ⟨rfl,hb8⟩;have HS8:=hid (HS.out.next (hb8.mono (Nat.le_of_lt HV.out.lt)));have y2:=cell_keep hb8 HV.out.c2;have HG8:=hid (HG4.out.of_block (hb8.block _ (block_lt_of_cell HG4.out.1)));have HC8:=hid (HC.out.keep okIns hb8);clear hb8)
      obtain⟨m0,-,-,-⟩:=id HS8.out.m;obtain⟨r0,r1,r2,rf⟩:=id HS8.out.r;have rf0:=rf 0;have rf1:=rf 1;have rf2:=rf 2;have HD0:Hid (Below w8.heap.size w8 w8.drew):=below_drew3 (Below.refl _ _);have m0d:w8.drew.cell? ⟨w.heap.size,0,none⟩=_:=m0;have y2d:w8.drew.cell? ⟨w.heap.size+1+1,2,none⟩=_:=y2;have HBW:Hid (∀w9,Below w8.heap.size w8 w9->MdS w nm (.slice ip 0 ic) (.slice (some ⟨dg,0,none⟩) 1 dc) w9∧w9.cell? ⟨w.heap.size+1+1,2,none⟩=some (.slice (some ⟨gg,0,none⟩) 1 gc)):=λw9 hb=>⟨HS8.out.next (hb.mono (Nat.le_of_lt (block_lt_of_cell y2))),cell_keep hb y2⟩;clear rf m0 y2;go_region_held_law (λw'=>w'.cell? ⟨w.heap.size,0,none⟩=some (.string nm)∧w'.cell? ⟨w.heap.size+1+1,2,none⟩=some (.slice (some ⟨gg,0,none⟩) 1 gc)) (first|(with_reducible exact⟨m0d,y2d⟩)|(with_reducible exact⟨q0,q2⟩)|(with_reducible exact⟨set3_old q0 (by omega) _ _ _,set3_old q2 (by omega) _ _ _⟩)|(exact⟨set3_old q0 (by omega) _ _ _,set3_old q2 (by omega) _ _ _⟩))
       (first
       |(go_at_call 40;refine(Clone_any nm _ hn).mono ?_;rintro e w9 ⟨rfl,hb9⟩;have hb8:Below w8.heap.size w8 w9:=HD0.out.trans hb9;obtain⟨hs9,q2⟩:=HBW.out _ hb8;have q0:=hs9.m.c0;have HS9:=hid hs9;have HB9:=hid hb8;have zr:=hs9.r.c0;obtain⟨r90,r91,r92,rf9⟩:=id hs9.r;have rf90:=rf9 0;have rf91:=rf9 1;have rf92:=rf9 2;clear hb9 hb8 hs9 rf9 zr))
      all_goals(try go_wp2)
      all_goals(obtain⟨s0,s1,s2⟩:=set3_new HS9.out.r (.string nm) (.slice none 0 0) (.slice (some ⟨gg,0,none⟩) 1 gc))
      all_goals refine bodyPost_ret (v:=.agg #[.string nm,.slice none 0 0,.slice (some ⟨gg,0,none⟩) 1 gc]) (by simp[results,Tryz.results20,go_sem,s0,s1,s2]) rfl ?_
      all_goals
       have hl1:w.heap.size<=w.heap.size+1:=Nat.le_succ _;have hset:∀b,b≠w.heap.size+1->(((w9.setCell ⟨w.heap.size+1,0,none⟩ (.string nm)).setCell ⟨w.heap.size+1,1,none⟩ (.slice none 0 0)).setCell ⟨w.heap.size+1,2,none⟩ (.slice (some ⟨gg,0,none⟩) 1 gc)).heap[b]?=w9.heap[b]?:=λb hb=>by rw[Below.heap_setCell _ _ _ _ hb,Below.heap_setCell _ _ _ _ hb,Below.heap_setCell _ _ _ _ hb]
       refine⟨?_,gg,gc,cp,cc,cs,rfl,?_,hgc,by omega,?_,HCS.out⟩
       ·first
         |exact(((HS9.out.low.setCell hl1 _).setCell hl1 _).setCell hl1 _)
         |exact below_drew3 (((HS9.out.low.setCell hl1 _).setCell hl1 _).setCell hl1 _)
       ·exact(HG8.out.of_block (HB9.out.block _ (block_lt_of_cell HG8.out.1))).of_block (hset gg (by omega))
       ·exact((HC8.out.keep okIns HB9.out).fr okIns (show w9.heap.size<=(World.setCell _ _ _).heap.size by simp) (λb hb=>hset b (by have:=(HC8.out.rg b hb).1;omega))).low (by omega)
end Go.Proofs.YtblobglfjhilmaaGreatDoor
