import Derived.Test.YtdpodpjdcfjfgaaGreatDoorSyJ
set_option maxRecDepth 100000
set_option maxHeartbeats 4000000
namespace Go.Proofs.YtdpodpjdcfjfgaaGreatDoor
open Go.RowKit Go.Sort
theorem FBL.newO(w:World)(x y z u:Value)(t:TypeId):FBL (w.alloc (.cells #[x,y,z,u] t)) w.heap.size [x,y,z,u]:=by
 refine⟨λj hj=>?_,λj=>frozen_new _ _ _ _,by simp⟩;have:j=0∨j=1∨j=2∨j=3:=by simp at hj;omega
 rcases this with rfl|rfl|rfl|rfl<;>exact alloc_cell w #[x,y,z,u] _ _ _ rfl
theorem Pg.up{lo lo':Nat}{w:World}{Pb ng:Nat}{gp:Option Addr}{gc:Nat}{G:Nat->Int×Option Addr×Nat×Nat}(h:Pg lo w Pb ng gp gc G)(hl:lo<=lo'):Pg lo' w Pb ng gp gc G:=⟨Nat.lt_of_lt_of_le h.lt hl,h.c,λi hi=>by
 obtain⟨b,o,h1,h2⟩:=h.g i hi;exact⟨b,o,Nat.lt_of_lt_of_le h1 hl,h2⟩⟩
theorem CdAt.up{lo lo':Nat}{w:World}{v:Value}{l:List LIns}(h:CdAt lo w v l)(hl:lo<=lo'):CdAt lo' w v l:=h.imp id λh=>by
 obtain⟨B,L,h1,h2,h3,h4,h5⟩:=h;refine⟨B,L,Nat.lt_of_lt_of_le h1 hl,h2,h3,h4,λx hx=>?_⟩;obtain⟨B',g1,g2⟩:=h5 x hx;exact⟨B',Nat.lt_of_lt_of_le g1 hl,g2⟩
section
variable {w:World} {Pb:Nat} {gs:List LGlob} {D:Nat->Nat->Int} {gp:Option Addr} {gc:Nat} {G:Nat->Int×Option Addr×Nat×Nat} {main:Int}
theorem init_kz(k:Nat)(fuel spare:Int):KZ (aInit k fuel spare):=⟨(λh=>by cases h),λ_=>rfl⟩
theorem init_sim(k:Nat)(fuel spare:Int):SimT [] (aInit k fuel spare) (newSt k (clipN fuel 2000000) (clipN spare 2000000)):=⟨rfl,rfl,rfl,rfl,rfl,rfl,rfl⟩
def RnT(w:World)(M:Nat)(kd su mu:Int)(tx:List UInt8)(w2:World):Prop:=Below w.heap.size w w2∧(w2.cell? ⟨M,12,none⟩=some (.int .i64 kd)∧w2.cell? ⟨M,7,none⟩=some (.int .i64 su)∧w2.cell? ⟨M,9,none⟩=some (.int .i64 mu))∧∃p n c,w2.cell? ⟨M,13,none⟩=some (.slice p n c)∧(kd=0->∀X,Below w2.heap.size w2 X->(convert 88 9 (.slice p n c)).run Tryz.prog X=.ok (.string ⟨tx.toArray⟩) X)
theorem run_any(fuel spare:Int)(hG:ImgOk gs D)(hP:ImG w.heap.size w Pb gs gp gc G)(hm:0<=main∧main<(gs.length:Int))(e1:w.cell? ⟨Pb,1,none⟩=some (.int .i64 main))(htab:Lib.TabBelow Tryz.prog w.heap.size w "internal/strconv.uint64pow10" .u64 Lib.pow10Tab):
 Calls Tryz.prog 64 #[.pointer (some ⟨Pb,0,none⟩),.int .i64 fuel,.int .i64 spare] w λe w'=>e=.returned (aOut gs main fuel spare)∧Below w.heap.size w w':=by
 have hf:=hG.few;obtain⟨W0,hW0⟩:∃W0,w.alloc (.cells #[.int .i64 0,.string ⟨#[]⟩,.int .i64 0,.int .i64 0] 71)=W0:=⟨_,rfl⟩;have hb0:Below w.heap.size w W0:=by rw[<-hW0];exact(Below.refl _ _).alloc (Nat.le_refl _) _
 have hR:FBL W0 w.heap.size zOu:=by
  rw[<-hW0];exact FBL.newO w _ _ _ _ _
 obtain⟨kd,hkd⟩:∃kd,(aTold gs main fuel spare).1.kind=kd:=⟨_,rfl⟩;obtain⟨su,hsu⟩:∃su,(aTold gs main fuel spare).1.steps=su:=⟨_,rfl⟩;obtain⟨mu,hmu⟩:∃mu,(aTold gs main fuel spare).1.used=mu:=⟨_,rfl⟩;obtain⟨tx,htx⟩:∃tx,(aTold gs main fuel spare).2.getD []=tx:=⟨_,rfl⟩;have HO:Hid (aOut gs main fuel spare=.agg #[.int .i64 kd,.string ⟨tx.toArray⟩,.int .i64 su,.int .i64 mu]):=by
  show _=_;unfold aOut;rw[hkd,hsu,hmu,htx]
 have hkz:KZ (aTold gs main fuel spare).1:=tEnd_kz _ _ (init_kz _ _ _);have hkt:kd≠0->tx=[]:=λh0=>by
  rcases told_end hG hf hm fuel spare with⟨a1,t1,e,he⟩|⟨a1,e,he⟩
  ·rw[e]at hkz hkd;exact absurd (hkd▸hkz.2 he) h0
  ·rw[e]at htx;exact htx.symm
 have HNM:Hid (Calls Tryz.prog 111 #[.pointer (some ⟨Pb,0,none⟩),.int .i64 (clipN fuel 2000000),.int .i64 (clipN spare 2000000)] W0 λe w1=>∃M:Nat,e=.returned (.pointer (some ⟨M,0,none⟩))∧w1.cell? ⟨Pb,1,none⟩=some (.int .i64 main)∧Hid (Calls Tryz.prog 113 #[.pointer (some ⟨M,0,none⟩),.int .i32 main] w1 λe w2=>(∃b,e=.returned (.bool b))∧w.heap.size<w2.heap.size∧Hid (FBL w2 w.heap.size zOu)∧Hid (RnT w M kd su mu tx w2))):=by
  have hP0:=hP.low hb0;have hz0:=hb0.size;have hc0:W0.cell? ⟨Pb,0,none⟩=some (.slice gp gs.length gc):=hP0.pg.c;refine(newMachine_any (clipN fuel 2000000) (clipN spare 2000000) hc0 (by omega)).mono ?_;rintro e w1 ⟨hb1,M,B,rfl,hM,hB⟩;refine⟨M,rfl,cell_keep (hb0.trans (hb1.mono hz0)) e1,?_⟩;have hPl:ImG W0.heap.size W0 Pb gs gp gc G:=⟨hP0.pg.up hz0,hP0.ar,λi hi=>(hP0.cd i hi).up hz0⟩;have hTG:TlG W0.heap.size Pb gs D gp gc G w1:=⟨hG,hPl.low hb1,λX hX=>htab X (hb0.trans ((hb1.mono hz0).trans (hX.mono hz0)))⟩;refine(tells (lo:=W0.heap.size) (M:=M) (Pb:=Pb) (gs:=gs) (D:=D) (gp:=gp) (gc:=gc) (G:=G) 2000 w1 _ B [] (aInit gs.length fuel spare) main (by simp) (by simp) hTG hM (init_sim _ _ _) (init_wf hf fuel spare) ?_).mono λe w2 hr=>?_
  ·show 0<=main∧main<((aGlobs gs.length).length:Int);rw[aGlobs_len];exact hm
  ·obtain⟨m',hs',he,hA,B2,⟨cs,ds,cv,sv,kv,dv,tv,hmm,-⟩,-⟩:=hr;have hb2:Below W0.heap.size W0 w2:=hb1.trans (hA.low hB hb1.size);have hb3:Below w.heap.size w w2:=hb0.trans (hb2.mono hz0);have hk:m'.kind=kd∧m'.su=su∧m'.mu=mu∧(kd=0->m'.text=tx):=by
    have hs2:TlS (aTold gs main fuel spare) m':=hs';rcases told_end hG hf hm fuel spare with⟨a1,t1,e,he⟩|⟨a1,e,he⟩
    ·rw[e]at hs2 hkd hsu hmu htx;exact⟨hs2.kind.trans hkd,hs2.su.trans hsu,hs2.mu.trans hmu,λ_=>hs2.text.trans htx⟩
    ·rw[e]at hs2 hkd hsu hmu hkz;exact⟨hs2.1.trans hkd,hs2.2.1.trans hsu,hs2.2.2.trans hmu,λh0=>absurd (hkd.trans h0) (hkz.1 he)⟩
   obtain⟨k1,k2,k3,k4⟩:=hk;have hR2:=hR.of_block (hb2.block _ hR.lt) hb2.size;obtain⟨tp,tc,htv⟩:=row_slice hmm.tx;refine⟨⟨_,he⟩,Nat.lt_of_lt_of_le hR.lt hb2.size,hR2,hb3,⟨by rw[<-k1];exact hmm.m.at 12 rfl,by rw[<-k2];exact hmm.m.at 7 rfl,by rw[<-k3];exact hmm.m.at 9 rfl⟩,tp,_,tc,by rw[hmm.m.at 13 rfl,htv],λh0 X hX=>?_⟩;have hx:=(hmm.keep hX).tx;rw[htv]at hx;rw[<-k4 h0];exact conv_row hx
 have hmi:IntKind.i32.wrap main=main:=by rw[IntKind.wrap_i32];omega
 clear hP e1 hb0 hR htab hkz hG hkd hsu hmu htx;go_enter Tryz.func64,Tryz.ntmps64;go_wp2_with (first
  |(go_at_call 112;refine(within_any _ _ _ (by omega)).mono ?_;rintro e w1 ⟨rfl,rfl⟩)
  |(go_at_call 111;refine HNM.out.mono ?_;rintro e w1 ⟨M,rfl,e1,HTL⟩;clear HNM)
  |(go_at_call 113;refine HTL.out.mono ?_;rintro e w2 ⟨⟨bb,rfl⟩,hlt,HRR,HRN⟩;clear HTL))
 obtain⟨hb2,⟨k12,k7,k9⟩,p,n,c,k13,hcv⟩:=id HRN.out;have HB2:=hid hb2;have HCV:=hid hcv;have k12a:=λo=>alloc_old w2 o _ _ _ k12;have k7a:=λo=>alloc_old w2 o _ _ _ k7;have k9a:=λo=>alloc_old w2 o _ _ _ k9;clear hb2 hcv HRN;go_region
 obtain⟨W6,hW6⟩:∃W6,(w2.alloc (Obj.cells #[.int .i64 kd,.string ⟨#[]⟩,.int .i64 su,.int .i64 mu] 71)).drew=W6:=⟨_,rfl⟩;have HB6:Hid (Below w2.heap.size w2 W6):=by rw[<-hW6];exact((Below.refl _ _).alloc (Nat.le_refl _) _).drew
 have hN:FBL W6 w2.heap.size [.int .i64 kd,.string ⟨#[]⟩,.int .i64 su,.int .i64 mu]:=by
  rw[<-hW6];exact(FBL.newO w2 _ _ _ _ _).of_block rfl (Nat.le_refl _)
 have n0:=hN.at 0 rfl;have n1:=hN.at 1 rfl;have n2:=hN.at 2 rfl;have n3:=hN.at 3 rfl;have nf:=hN.fz 1;have hne:w.heap.size≠w2.heap.size:=by omega
 have hne':w2.heap.size≠w.heap.size:=by omega
 have hR6:FBL W6 w.heap.size zOu:=HRR.out.of_block (HB6.out.block _ hlt) HB6.out.size;have q0:=hR6.at 0 rfl;have q1:=hR6.at 1 rfl;have q2:=hR6.at 2 rfl;have q3:=hR6.at 3 rfl;have g0:=hR6.fz 0;have g1:=hR6.fz 1;have g2:=hR6.fz 2;have g3:=hR6.fz 3;have HR6:=hid hR6;have HR7:Hid (FBL (W6.setCell ⟨w2.heap.size,1,none⟩ (.string ⟨tx.toArray⟩)) w.heap.size zOu):=hR6.of_block (Below.heap_setCell _ _ _ _ hne) (by simp);have m12:=cell_keep HB6.out k12;have m13:=cell_keep HB6.out k13;rw[hW6];have HB7:=hid (HB2.out.trans (HB6.out.mono HB2.out.size));clear hW6 hN hR6 k12 k7 k9 k13 k12a k7a k9a HB2 HRR;by_cases h0:kd=0
 ·have hcv:=HCV.out h0 W6 HB6.out;subst h0;clear HCV HB6 hkt;go_wp2;have hF:=out_any HR7.out (.int .i64 0) (.string ⟨tx.toArray⟩) (.int .i64 su) (.int .i64 mu);have d0:=hF.at 0 rfl;have d1:=hF.at 1 rfl;have d2:=hF.at 2 rfl;have d3:=hF.at 3 rfl;refine bodyPost_ret (v:=.agg #[.int .i64 0,.string ⟨tx.toArray⟩,.int .i64 su,.int .i64 mu]) (by simp[results,Tryz.results64,go_sem,d0,d1,d2,d3]) rfl ⟨by rw[HO.out],?_⟩;exact((((HB7.out.setCell (Nat.le_of_lt hlt) _).setCell (Nat.le_refl _) _).setCell (Nat.le_refl _) _).setCell (Nat.le_refl _) _).setCell (Nat.le_refl _) _
 ·obtain rfl:=hkt h0;clear HCV HB6 hkt HR7;go_wp2;have hF:=out_any HR6.out (.int .i64 kd) (.string ⟨#[]⟩) (.int .i64 su) (.int .i64 mu);have d0:=hF.at 0 rfl;have d1:=hF.at 1 rfl;have d2:=hF.at 2 rfl;have d3:=hF.at 3 rfl;refine bodyPost_ret (v:=.agg #[.int .i64 kd,.string ⟨#[]⟩,.int .i64 su,.int .i64 mu]) (by simp[results,Tryz.results64,go_sem,d0,d1,d2,d3]) rfl ⟨by rw[HO.out],?_⟩;exact(((HB7.out.setCell (Nat.le_refl _) _).setCell (Nat.le_refl _) _).setCell (Nat.le_refl _) _).setCell (Nat.le_refl _) _
theorem image_any(fuel spare:Int)(hG:ImgOk gs D)(hP:ImG w.heap.size w Pb gs gp gc G)(hm:0<=main∧main<(gs.length:Int))(e1:w.cell? ⟨Pb,1,none⟩=some (.int .i64 main))(htab:Lib.TabBelow Tryz.prog w.heap.size w "internal/strconv.uint64pow10" .u64 Lib.pow10Tab):
 Calls Tryz.prog 30 #[.pointer (some ⟨Pb,0,none⟩),.int .i64 fuel,.int .i64 spare] w λe w'=>e=.returned (aOut gs main fuel spare)∧Below w.heap.size w w':=by
 obtain⟨W0,hW0⟩:∃W0,w.alloc (.cells #[.int .i64 0,.string ⟨#[]⟩,.int .i64 0,.int .i64 0] 71)=W0:=⟨_,rfl⟩;have hb0:Below w.heap.size w W0:=by rw[<-hW0];exact(Below.refl _ _).alloc (Nat.le_refl _) _
 have hR:FBL W0 w.heap.size zOu:=by
  rw[<-hW0];exact FBL.newO w _ _ _ _ _
 have hz0:=hb0.size;have hP0:=hP.low hb0;have hPl:ImG W0.heap.size W0 Pb gs gp gc G:=⟨hP0.pg.up hz0,hP0.ar,λi hi=>(hP0.cd i hi).up hz0⟩;obtain⟨kd,tx,su,mu,hO⟩:∃kd tx su mu,aOut gs main fuel spare=.agg #[.int .i64 kd,.string tx,.int .i64 su,.int .i64 mu]:=⟨_,_,_,_,rfl⟩;rw[hO];have HRN:Hid (Calls Tryz.prog 64 #[.pointer (some ⟨Pb,0,none⟩),.int .i64 fuel,.int .i64 spare] W0 λe w1=>e=.returned (.agg #[.int .i64 kd,.string tx,.int .i64 su,.int .i64 mu])∧Hid (Below w.heap.size w w1)∧FBL w1 w.heap.size zOu):=(run_any fuel spare hG hPl hm (cell_keep hb0 e1) (λX hX=>htab X (hb0.trans (hX.mono hz0)))).mono λe w1 ⟨he,hb⟩=>⟨by rw[he,hO],hb0.trans (hb.mono hb0.size),hR.of_block (hb.block _ hR.lt) hb.size⟩;clear hP hP0 hPl hb0 hR hO e1 htab hG;go_enter Tryz.func30,Tryz.ntmps30;go_wp2_with (first
  |(go_at_call 64;refine HRN.out.mono ?_;rintro e w1 ⟨rfl,HB1,hR⟩;have HRR:=hid hR;have q0:=hR.at 0 rfl;have q1:=hR.at 1 rfl;have q2:=hR.at 2 rfl;have q3:=hR.at 3 rfl;have g0:=hR.fz 0;have g1:=hR.fz 1;have g2:=hR.fz 2;have g3:=hR.fz 3;clear hR))
 have hF:=out_any HRR.out (.int .i64 kd) (.string tx) (.int .i64 su) (.int .i64 mu);have d0:=hF.at 0 rfl;have d1:=hF.at 1 rfl;have d2:=hF.at 2 rfl;have d3:=hF.at 3 rfl;refine bodyPost_ret (v:=.agg #[.int .i64 kd,.string tx,.int .i64 su,.int .i64 mu]) (by simp[results,Tryz.results30,go_sem,d0,d1,d2,d3]) rfl ⟨rfl,?_⟩;exact(((HB1.out.setCell (Nat.le_refl _) _).setCell (Nat.le_refl _) _).setCell (Nat.le_refl _) _).setCell (Nat.le_refl _) _
end
theorem globs_ar{imps:List LImp}:∀{l:List LGlob} {last:ByteArray},globsFrom imps last l=true->∀x∈l,arB x.arity=true
 |x::r,last,h,y,hy=>by
  simp only[globsFrom,Bool.and_eq_true]at h;rcases List.mem_cons.1 hy with rfl|hy
  ·exact h.1.1.2
  ·exact globs_ar h.2 y hy
theorem okO_codes{O:LObj}(h:okO O=true):∀g∈O.globs,(0<=g.arity∧g.arity<=20)∧∃D,CodeOk g.code g.arity D:=by
 unfold okO at h;rw[Bool.and_eq_true,Option.isNone_iff_eq_none]at h;obtain⟨h1,h2⟩:=h;simp only[valsG,Bool.and_eq_true]at h1;obtain⟨g1,-⟩:=globs_good h1.2;intro g hg;have ha:0<=g.arity∧g.arity<=20:=by
  have:=globs_ar h1.2 g hg;simpa[arB]using this
 exact⟨ha,gBad_ok (sBad_none h2 g hg) (g1 g hg) ha⟩
theorem mvI_ne{Os:List LObj}{O:LObj}{f:Nat}{x:LIns}(h:x.op≠1):mvI Os O f x=x:=by unfold mvI;rw[if_neg h]
theorem mv_need(Os:List LObj)(O:LObj)(f:Nat)(x:LIns):needR (mvI Os O f x).op.toNat (mvI Os O f x).a=needR x.op.toNat x.a∧moreR (mvI Os O f x).op.toNat (mvI Os O f x).a=moreR x.op.toNat x.a:=by
 by_cases h:x.op=1
 ·rw[(mvI_op Os O f x).1,h];exact⟨rfl,rfl⟩
 ·rw[mvI_ne h];exact⟨rfl,rfl⟩
theorem mv_succs(Os:List LObj)(O:LObj)(f:Nat)(x:LIns)(k:Nat):succs (mvI Os O f x) k=succs x k:=by
 by_cases h:x.op=1
 ·unfold succs;rw[(mvI_op Os O f x).1,(mvI_op Os O f x).2,h];rfl
 ·rw[mvI_ne h]
theorem CodeOk.mv{code:List LIns}{ar:Int}{D:Nat->Int}(h:CodeOk code ar D)(Os:List LObj)(O:LObj)(f:Nat):CodeOk (code.map (mvI Os O f)) ar D:=by
 refine⟨by rw[List.length_map];exact h.pos,by rw[List.length_map];exact h.len,h.start,λy hy=>?_,λk hk h0=>?_⟩
 ·obtain⟨x,hx,rfl⟩:=List.mem_map.1 hy;obtain⟨p,q⟩:=h.ins x hx;refine⟨by rw[(mvI_op Os O f x).1];exact p,?_⟩;rw[(mvI_op Os O f x).1,(mvI_op Os O f x).2];by_cases e:x.op=1
  ·rw[if_pos e]at q ⊢;exact q
  ·rw[if_neg e]at q ⊢;rw[mvI_ne e];exact q
 ·rw[List.length_map]at hk;obtain⟨q1,q2,q3⟩:=h.go k hk h0;rw[List.getElem_map];obtain⟨n1,n2⟩:=mv_need Os O f code[k];refine⟨q1,?_,λs hs=>?_⟩
  ·unfold wrongR at q2 ⊢;rw[n1,n2,(mvI_op Os O f code[k]).1];exact q2
  ·rw[mv_succs]at hs;obtain⟨s1,s2,s3⟩:=q3 s hs;exact⟨by rw[List.length_map];exact s1,by rw[n2];exact s2,s3⟩
theorem imK_len(Os:List LObj):∀(l:List LObj) (n:Nat),(imgF Os l n).length=(l.map λO=>O.globs.length).sum
 |[],_=>rfl
 |O::r,n=>by
  rw[imgF,List.length_append,List.length_map,imK_len Os r,List.map_cons,List.sum_cons]
theorem imK_mem(Os:List LObj):∀(l:List LObj) (n:Nat),∀x∈imgF Os l n,∃O∈l,∃f,∃g∈O.globs,x=mvG Os O f g∧f+O.globs.length<=n+(l.map λO=>O.globs.length).sum
 |[],_,x,h=>by cases h
 |O::r,n,x,h=>by
  rw[imgF]at h;rw[List.map_cons,List.sum_cons];rcases List.mem_append.1 h with h|h
  ·obtain⟨g,hg,rfl⟩:=List.mem_map.1 h;exact⟨O,List.mem_cons_self ..,n,g,hg,rfl,by omega⟩
  ·obtain⟨O',hO,f,g,hg,e,hl⟩:=imK_mem Os r _ x h;exact⟨O',List.mem_cons_of_mem _ hO,f,g,hg,e,by omega⟩
theorem exK_ltG{t:ByteArray}:∀{l:List LGlob} {n m:Nat} {a:Int},exG t l n=some (m,a)->n<=m∧m<n+l.length
 |g::r,n,m,a,h=>by
  rw[exG]at h;rw[List.length_cons];split at h
  ·cases h;omega
  ·have:=exK_ltG h;omega
theorem exK_ltO{t:ByteArray}:∀{l:List LObj} {k n m who:Nat} {a:Int},exO t l k n=some (m,who,a)->n<=m∧m<n+(l.map λO=>O.globs.length).sum
 |O::r,k,n,m,who,a,h=>by
  rw[exO]at h;rw[List.map_cons,List.sum_cons];split at h
  ·rename_i m' a' e
   cases h;have:=exK_ltG e;omega
  ·have:=exK_ltO h;omega
theorem lnk_none{Os:List LObj}{entry:ByteArray}(h:lnkE Os entry=none):(∀O∈Os,okO O=true)∧(∀O∈Os,miB Os O=false)∧sz Os<=200000∧∃n who,expo Os entry=some (n,who,0):=by
 unfold lnkE at h;split at h
 ·cases h
 ·cases h1:fstF (λ_ O=>!okO O) Os 0 with
  |some k=>rw[h1]at h;cases h
  |none=>
   rw[h1]at h;cases h2:fstF (twB Os) Os 0 with
   |some k=>rw[h2]at h;cases h
   |none=>
    rw[h2]at h;cases h3:fstF (λ_=>miB Os) Os 0 with
    |some k=>rw[h3]at h;cases h
    |none=>
     rw[h3]at h;cases h4:fstF (λ_=>arB2 Os) Os 0 with
     |some k=>rw[h4]at h;cases h
     |none=>
      rw[h4]at h;have hx:lnkX Os entry=none:=h;unfold lnkX at hx;split at hx
      ·cases hx
      ·rename_i n who a e
       split at hx
       ·cases hx
       ·rename_i ha
        split at hx
        ·cases hx
        ·rename_i hs
         refine⟨λO hO=>?_,λO hO=>?_,by omega,n,who,by rw[e];simp at ha;rw[ha]⟩
         ·obtain⟨i,hi,rfl⟩:=List.getElem_of_mem hO;have:=fstF_none h1 i hi;simpa using this
         ·obtain⟨i,hi,rfl⟩:=List.getElem_of_mem hO;exact fstF_none h3 i hi
def A64(Os:List LObj):Prop:=∀O∈Os,∀g∈O.globs,∀i∈g.code,-9223372036854775808<=i.a∧i.a<=9223372036854775807
theorem img_ok{Os:List LObj}{entry:ByteArray}(h:lnkE Os entry=none)(hA:A64 Os):(∃D,ImgOk (img Os) D)∧0<=imgE Os entry∧imgE Os entry<((img Os).length:Int):=by
 obtain⟨h1,h2,h3,n,who,h4⟩:=lnk_none h;have hS:∀O∈Os,SoundO O:=λO hO=>okO_sound (h1 O hO);have hlen:(img Os).length=(Os.map λO=>O.globs.length).sum:=imK_len Os Os 0;have hb:gBase Os Os.length=(Os.map λO=>O.globs.length).sum:=by unfold gBase;rw[List.take_length]
 have hfew:(img Os).length<=200000:=by
  have:=sz_base hS;omega
 have hmem:∀x∈img Os,∃O∈Os,∃f,∃g∈O.globs,x=mvG Os O f g∧f+O.globs.length<=(img Os).length:=λx hx=>by
  obtain⟨O,hO,f,g,hg,e,hl⟩:=imK_mem Os Os 0 x hx;exact⟨O,hO,f,g,hg,e,by omega⟩
 have hcd:∀g (h:g<(img Os).length),∃D,CodeOk (img Os)[g].code (img Os)[g].arity D:=λg hg=>by
  obtain⟨O,hO,f,x,hx,e,-⟩:=hmem _ (List.getElem_mem hg);obtain⟨-,D,hD⟩:=okO_codes (h1 O hO) x hx;rw[e];exact⟨D,hD.mv Os O f⟩
 refine⟨⟨λg=>if hg:g<(img Os).length then Classical.choose (hcd g hg) else λ_=>0,hfew,λg hg=>?_,λg hg=>?_,λg hg i hi=>?_⟩,?_,?_⟩
 ·obtain⟨O,hO,f,x,hx,e,-⟩:=hmem _ (List.getElem_mem hg);rw[e];exact(okO_codes (h1 O hO) x hx).1
 ·rw[dif_pos hg];exact Classical.choose_spec (hcd g hg)
 ·obtain⟨O,hO,f,x,hx,e,hl⟩:=hmem _ (List.getElem_mem hg);rw[e]at hi;obtain⟨y,hy,rfl⟩:=List.mem_map.1 (show i∈x.code.map (mvI Os O f) from hi);by_cases ho:y.op=1
  ·have hg1:=((hS O hO).ix x hx y hy).g ho;have hnb:0<=numb Os O f y.a∧numb Os O f y.a<((img Os).length:Int):=by
    unfold numb;split
    ·rename_i hlt
     have hi2:y.a.toNat<O.imps.length:=by omega
     rw[List.getElem?_eq_getElem hi2];simp only[Option.bind_some];have hm:=h2 O hO;unfold miB at hm;rw[List.any_eq_false]at hm;have hm2:=hm O.imps[y.a.toNat] (List.getElem_mem hi2);cases hx2:expo Os O.imps[y.a.toNat].name with
     |none=>rw[hx2]at hm2;simp at hm2
     |some z=>
      obtain⟨n2,w2,a2⟩:=z;have:=exK_ltO hx2;simp only;omega
    ·omega
   have em:(mvI Os O f y).a=numb Os O f y.a:=by unfold mvI;rw[if_pos ho]
   rw[em];exact⟨λ_=>hnb,by omega,by omega⟩
  ·rw[mvI_ne ho];exact⟨λe=>absurd e ho,hA O hO x hx y hy⟩
 ·unfold imgE;rw[h4];simp only;omega
 ·unfold imgE;rw[h4];have:=exK_ltO h4;simp only;omega
section
variable {P:Nat->Prop} {w:World}
theorem AltsR.sp{v:Value}{l:List LAlt}(h:AltsR w P v l)(hs:short l.length):AlL P w v:=by
 unfold short at hs;rcases h with⟨c,rfl,rfl⟩|⟨g,cap,e,h1,h2,h3,hz,h4,-⟩
 ·exact⟨none,0,c,rfl,by omega,Or.inl rfl⟩
 ·exact⟨_,_,_,e,hs,Or.inr ⟨g,rfl,h2,hz,λi hi=>⟨_,_,(h4 i hi).1,(h4 i hi).2⟩⟩⟩
theorem CodeR.sp{v:Value}{l:List LIns}(h:CodeR w P v l)(hs:short l.length)(ha:∀i (hi:i<l.length),short l[i].alts.length):CoL P w v:=by
 unfold short at hs;rcases h with⟨c,rfl,rfl⟩|⟨g,cap,e,h1,h2,h3,hz,h4,-⟩
 ·exact⟨none,0,c,rfl,by omega,Or.inl rfl⟩
 ·refine⟨_,_,_,e,hs,Or.inr ⟨g,rfl,h2,hz,λi hi=>?_⟩⟩;obtain⟨av,c0,c1,c2,hA⟩:=h4 i hi;exact⟨_,_,av,c0,c1,c2,hA.sp (ha i hi)⟩
theorem KpQ.sp{O:LObj}{x y:Value×Value}(h:KpQ P w O x y){s:ByteArray}{w0:World}(hO:ObjAt w0 (.agg #[.string s,x.1,x.2]) O):ImL P w y.1∧GlL P w y.2:=by
 obtain⟨hI,hG⟩:=hO.globs;have hsI:=hI;have hsG:=hG;obtain⟨ip,icap,ei,hi1,hi2⟩:=hsI;obtain⟨gp,gcap,eg,hg1,hg2⟩:=hsG;unfold short at hi1 hg1;constructor
 ·rcases h.1 with⟨n,c,e1,e2⟩|⟨a,n,c,-,g,cap,e,h1,h2,h3,hz,h4,-⟩
  ·rw[ei]at e1;cases e1;refine⟨none,O.imps.length,icap,by rw[e2,ei],hi1,Or.inl ?_⟩;by_cases h0:O.imps.length=0
   ·exact h0
   ·obtain⟨b,o,e3,-⟩:=hi2 0 (by omega);cases e3
  ·exact⟨_,_,_,e,hi1,Or.inr ⟨g,rfl,h2,hz,λi hi=>⟨_,_,(h4 i hi).1,(h4 i hi).2⟩⟩⟩
 ·rcases h.2 with⟨n,c,e1,e2⟩|⟨a,n,c,-,g,cap,e,h1,h2,h3,hz,h4,-⟩
  ·rw[eg]at e1;cases e1;refine⟨none,O.globs.length,gcap,by rw[e2,eg],hg1,Or.inl ?_⟩;by_cases h0:O.globs.length=0
   ·exact h0
   ·obtain⟨b,o,cv,e3,-⟩:=hg2 0 (by omega);cases e3
  ·refine⟨_,_,_,e,hg1,Or.inr ⟨g,rfl,h2,hz,λi hi=>?_⟩⟩;obtain⟨cv,c0,c1,c2,c3,hC⟩:=h4 i hi;obtain⟨b,o,cv',-,-,-,-,-,hCA,-⟩:=hg2 i hi;obtain⟨cp,ccap,-,hs,hci⟩:=hCA;exact⟨_,_,_,cv,c0,c1,c2,c3,hC.sp hs λk hk=>by
    obtain⟨b,o,av,-,-,-,-,hA⟩:=hci k hk;obtain⟨ap,acap,-,hs2,-⟩:=hA;exact hs2⟩
theorem RoomsR.sp{p rp:Option Addr}{cap rc:Nat}{Os:List LObj}{V:List (Value×Value)}{w0:World}(h:RoomsR P w (.slice p Os.length cap) (.slice rp Os.length rc) Os V)(hV:OV w0 p Os V):Os.length=0∨∃g,rp=some ⟨g,0,none⟩∧P g∧(∀j,w.frozen? ⟨g,j,none⟩=false)∧∀i,i<Os.length->∃s iv gv,w.cell? ⟨g,i*3,none⟩=some (.string s)∧w.cell? ⟨g,i*3+1,none⟩=some iv∧w.cell? ⟨g,i*3+2,none⟩=some gv∧ImL P w iv∧GlL P w gv:=by
 rcases h with⟨n,c,-,e2⟩|⟨a,n,c,g,cap',R,e1,e2,h1,h2,h3,-,hg,hz⟩
 ·left
  simp only[Value.slice.injEq]at e2;exact e2.2.1
 ·right
  simp only[Value.slice.injEq]at e2;refine⟨g,e2.1,hg,hz,λi hi=>?_⟩;have hv:i<V.length:=by rw[hV.len];exact hi
  have hr:i<R.length:=by rw[h2];exact hi
  obtain⟨c0,c1,c2,hq⟩:=h3 i hi hv hr;obtain⟨b,o,-,-,-,-,hO⟩:=hV.c i hi hv;obtain⟨k1,k2⟩:=hq.sp hO;exact⟨_,_,_,c0,c1,c2,k1,k2⟩
end
theorem MCx.low2{X:Nat->Prop}{w:World}{v:Value}{l:List LIns}(h:MCx X w v l):MCx (λb=>b<w.heap.size) w v l:=by
 obtain⟨B,L,-,h2,h3,h4,h5⟩:=h;refine⟨B,L,h4.lt,h2,h3,h4,λx hx=>?_⟩;obtain⟨B',-,g2,g3⟩:=h5 x hx;exact⟨B',g3.lt,g2,g3⟩
theorem img_open{lo:Nat}{w:World}{Pb n gc:Nat}{gp:Option Addr}{y:Value}{gs:List LGlob}(hR:R2 w Pb (.slice gp n gc) y)(hM:MGAt lo w (.slice gp n gc) gs)(ha:∀g (h:g<gs.length),0<=gs[g].arity∧gs[g].arity<=20):∃G,ImG w.heap.size w Pb gs gp gc G:=by
 obtain⟨p,cap,e,h⟩:=hM;cases e;have hx:∀i,∃q:Int×Option Addr×Nat×Nat,∀hi:i<gs.length,q.1=gs[i].arity∧(∃b o,b<w.heap.size∧gp=some ⟨b,o,none⟩∧w.cell? ⟨b,o+i*2,none⟩=some (.int .i64 q.1)∧w.cell? ⟨b,o+i*2+1,none⟩=some (.slice q.2.1 q.2.2.1 q.2.2.2))∧CdAt w.heap.size w (.slice q.2.1 q.2.2.1 q.2.2.2) gs[i].code:=λi=>by
  by_cases hi:i<gs.length
  ·obtain⟨b,o,cv,-,e,c0,c1,hC⟩:=h i hi;obtain⟨B,L,-,hv,-⟩:=id hC;subst hv;exact⟨(gs[i].arity,some ⟨B,0,none⟩,gs[i].code.length,gs[i].code.length),λ_=>⟨rfl,⟨b,o,block_lt_of_cell c0,e,c0,c1⟩,Or.inr hC.low2⟩⟩
  ·exact⟨(0,none,0,0),λh=>absurd h hi⟩
 obtain⟨G,hG⟩:=Classical.skolem.1 hx;exact⟨G,⟨hR.lt,hR.c0,λi hi=>(hG i hi).2.1⟩,λi hi=>⟨(hG i hi).1,(ha i hi).1,by have:=(ha i hi).2;omega⟩,λi hi=>(hG i hi).2.2⟩
def FedAt(w:World)(v:Value)(l:List (Int×Int)):Prop:=∃p cap,v=.slice p l.length cap∧short l.length∧∀i (h:i<l.length),∃b o,p=some ⟨b,o,none⟩∧w.cell? ⟨b,o+i*2,none⟩=some (.int .i64 l[i].1)∧w.cell? ⟨b,o+i*2+1,none⟩=some (.int .i64 l[i].2)
theorem FedAt.keep{w w':World}{v:Value}{l:List (Int×Int)}(h:FedAt w v l)(hb:Below w.heap.size w w'):FedAt w' v l:=by
 obtain⟨p,cap,e,hs,h⟩:=h;refine⟨p,cap,e,hs,λi hi=>?_⟩;obtain⟨b,o,e2,c0,c1⟩:=h i hi;exact⟨b,o,e2,cell_keep hb c0,cell_keep hb c1⟩
end Go.Proofs.YtdpodpjdcfjfgaaGreatDoor
namespace Go.Proofs.YtdpodpjdcfjfgaaGreatDoor
open Go.RowKit Go.Sort Go.ChangeShapes Go.WideShapes
theorem one_int2{H:Type}{enc:TypeId×Value->H}{w:World}{spare:Nat->Bool}{held:Bool}{t:TypeId}{fuel:Nat}{cs:List Value}{y:DataW H×List MemPlace}(hu:Tryz.prog.underlying t=some (.int .i64))(h:DataW.trod enc Tryz.prog w 0 spare held fuel t cs=some y):∃n:Int,cs=[.int .i64 n]∧-9223372036854775808<=n∧n<=9223372036854775807:=by
 obtain⟨n,h1,-,h2⟩:=DataW.trod_int hu h;exact⟨n,h1,bounds_i64 h2⟩
theorem ins_of2{H:Type}{enc:TypeId×Value->H}{w:World}{spare:Nat->Bool}{held:Bool}{fuel:Nat}{cs:List Value}{y:DataW H×List MemPlace}(hl:cs.length=3)(h:DataW.trod enc Tryz.prog w 0 spare held fuel 127 cs=some y)(hw:Wt 127 y.1):
 ∃(x:LIns) (av:Value),cs[0]?=some (.int .i64 x.op)∧cs[1]?=some (.int .i64 x.a)∧cs[2]?=some av∧AltsAt w av x.alts∧x.alts.length*16<=140737488351232∧-9223372036854775808<=x.a∧x.a<=9223372036854775807:=by
 obtain⟨y0,y1,y2,n,rfl,-,h0,h1,h2⟩:=Go.Deep.trod_struct3 Tryz.underlying127 h;obtain⟨a,e0⟩:=one_int Tryz.underlying3 h0;obtain⟨b,e1,hb1,hb2⟩:=one_int2 Tryz.underlying3 h1;obtain⟨v,e2,e3⟩:=one_cell (cs:=cs) (i:=2) cells_alts (by omega);have h2':DataW.trod enc Tryz.prog w 0 spare held n 125 ((cs.drop 2).take (Tryz.prog.cellsOf 125))=some y2:=h2;rw[e2]at h2';obtain⟨l,hA,hA2⟩:=alts_of h2' (hw.part Tryz.underlying127 (j:=2) rfl rfl);exact⟨⟨a,b,l⟩,v,one_at cells_int e0,one_at cells_int e1,e3,hA,hA2,hb1,hb2⟩
def RangeC(l:List LIns):Prop:=∀c∈l,-9223372036854775808<=c.a∧c.a<=9223372036854775807
theorem code_of2{H:Type}{enc:TypeId×Value->H}{w:World}{spare:Nat->Bool}{held:Bool}{fuel:Nat}{v:Value}{x:DataW H×List MemPlace}(h:DataW.trod enc Tryz.prog w 0 spare held fuel 116 [v]=some x)(hw:Wt 116 x.1):∃l:List LIns,CodeAt w v l∧(l.length*40<=140737488351232∧∀c∈l,c.alts.length*16<=140737488351232)∧RangeC l:=by
 rcases slice_get Tryz.underlying116 cells_ins (by omega) h hw with rfl|⟨a,len,cap,n,rfl,hs,hx⟩
 ·exact⟨[],⟨none,0,rfl,by simp[short],λi hi=>absurd hi (by simp)⟩,⟨by simp,λc hc=>by cases hc⟩,λc hc=>by cases hc⟩
 ·rw[bytes_ins]at hs;have:Inhabited LIns:=⟨⟨0,0,[]⟩⟩;obtain⟨f,hf⟩:=Go.Deep.choose_lt (α:=LIns) (n:=len) (p:=λi x=>∃b o av,a=⟨b,o,none⟩∧w.cell? ⟨b,o+i*3,none⟩=some (.int .i64 x.op)∧w.cell? ⟨b,o+i*3+1,none⟩=some (.int .i64 x.a)∧w.cell? ⟨b,o+i*3+2,none⟩=some av∧AltsAt w av x.alts∧x.alts.length*16<=140737488351232∧-9223372036854775808<=x.a∧x.a<=9223372036854775807) (λi hi=>by
   obtain⟨b,o,cs,y,rfl,hl,hc,ht,hwt⟩:=hx i hi;obtain⟨x,av,h0,h1,h2,h3⟩:=ins_of2 hl ht hwt;exact⟨x,b,o,av,rfl,(hc 0 (by omega)).trans h0,(hc 1 (by omega)).trans h1,(hc 2 (by omega)).trans h2,h3⟩)
  have hl:((List.range len).map f).length=len:=by simp
  refine⟨(List.range len).map f,⟨some a,cap,by rw[hl],?_,λi hi=>?_⟩,⟨?_,λc hc=>?_⟩,λc hc=>?_⟩
  ·rw[hl];simp only[short];unfold reachBytes at hs;omega
  ·rw[hl]at hi;obtain⟨b,o,av,e,h0,h1,h2,h3,-⟩:=hf i hi;exact⟨b,o,av,by rw[e],by simpa using h0,by simpa using h1,h2,by simpa using h3⟩
  ·rw[hl];unfold reachBytes at hs;omega
  ·simp only[List.mem_map,List.mem_range]at hc;obtain⟨i,hi,rfl⟩:=hc;obtain⟨-,-,-,-,-,-,-,-,h,-⟩:=hf i hi;exact h
  ·simp only[List.mem_map,List.mem_range]at hc;obtain⟨i,hi,rfl⟩:=hc;obtain⟨-,-,-,-,-,-,-,-,-,h⟩:=hf i hi;exact h
theorem glob_of2{H:Type}{enc:TypeId×Value->H}{w:World}{spare:Nat->Bool}{held:Bool}{fuel:Nat}{cs:List Value}{y:DataW H×List MemPlace}(hl:cs.length=4)(h:DataW.trod enc Tryz.prog w 0 spare held fuel 118 cs=some y)(hw:Wt 118 y.1):
 ∃(x:LGlob) (cv:Value),cs[0]?=some (.string x.name)∧cs[1]?=some (.int .i64 x.arity)∧cs[2]?=some (.bool x.exp)∧cs[3]?=some cv∧CodeAt w cv x.code∧x.name.size<=maxLen∧(x.code.length*40<=140737488351232∧∀c∈x.code,c.alts.length*16<=140737488351232)∧RangeC x.code:=by
 obtain⟨y0,y1,y2,y3,n,rfl,-,h0,h1,h2,h3⟩:=Go.Joins.trod_struct4 Tryz.underlying118 h;obtain⟨a,e0,hs⟩:=one_string Tryz.underlying9 h0;obtain⟨b,e1⟩:=one_int Tryz.underlying3 h1;obtain⟨c,e2⟩:=one_bool Tryz.underlying4 h2;obtain⟨v,e3,e4⟩:=one_cell (cs:=cs) (i:=3) cells_code (by omega);have h3':DataW.trod enc Tryz.prog w 0 spare held n 116 ((cs.drop 3).take (Tryz.prog.cellsOf 116))=some y3:=h3;rw[e3]at h3';obtain⟨l,hA,hA2⟩:=code_of2 h3' (hw.part Tryz.underlying118 (j:=3) rfl rfl);exact⟨⟨a,b,c,l⟩,v,one_at cells_string e0,one_at cells_int e1,one_at cells_bool e2,e4,hA,hs,hA2⟩
theorem globs_of2{H:Type}{enc:TypeId×Value->H}{w:World}{spare:Nat->Bool}{held:Bool}{fuel:Nat}{v:Value}{x:DataW H×List MemPlace}(h:DataW.trod enc Tryz.prog w 0 spare held fuel 31 [v]=some x)(hw:Wt 31 x.1):∃l:List LGlob,GlobsAt w v l∧SizedG l∧∀g∈l,RangeC g.code:=by
 rcases slice_get Tryz.underlying31 cells_glob (by omega) h hw with rfl|⟨a,len,cap,n,rfl,hs,hx⟩
 ·exact⟨[],⟨none,0,rfl,by simp[short],λi hi=>absurd hi (by simp)⟩,by simp[SizedG],λg hg=>by cases hg⟩
 ·rw[bytes_glob]at hs;have:Inhabited LGlob:=⟨⟨⟨#[]⟩,0,false,[]⟩⟩;obtain⟨f,hf⟩:=Go.Deep.choose_lt (α:=LGlob) (n:=len) (p:=λi x=>∃b o cv,a=⟨b,o,none⟩∧w.cell? ⟨b,o+i*4,none⟩=some (.string x.name)∧w.cell? ⟨b,o+i*4+1,none⟩=some (.int .i64 x.arity)∧w.cell? ⟨b,o+i*4+2,none⟩=some (.bool x.exp)∧w.cell? ⟨b,o+i*4+3,none⟩=some cv∧CodeAt w cv x.code∧x.name.size<=maxLen∧(x.code.length*40<=140737488351232∧∀c∈x.code,c.alts.length*16<=140737488351232)∧RangeC x.code) (λi hi=>by
   obtain⟨b,o,cs,y,rfl,hl,hc,ht,hwt⟩:=hx i hi;obtain⟨x,cv,h0,h1,h2,h3,h4⟩:=glob_of2 hl ht hwt;exact⟨x,b,o,cv,rfl,(hc 0 (by omega)).trans h0,(hc 1 (by omega)).trans h1,(hc 2 (by omega)).trans h2,(hc 3 (by omega)).trans h3,h4⟩)
  have hl:((List.range len).map f).length=len:=by simp
  refine⟨(List.range len).map f,⟨some a,cap,by rw[hl],?_,λi hi=>?_⟩,⟨?_,λc hc=>?_⟩,λc hc=>?_⟩
  ·rw[hl];simp only[short];unfold reachBytes at hs;omega
  ·rw[hl]at hi;obtain⟨b,o,cv,e,h0,h1,h2,h3,h4,h5,-⟩:=hf i hi;exact⟨b,o,cv,by rw[e],by simpa using h0,by simpa using h1,by simpa using h2,h3,by simpa using h4,by simpa using h5⟩
  ·rw[hl];unfold reachBytes at hs;omega
  ·simp only[List.mem_map,List.mem_range]at hc;obtain⟨i,hi,rfl⟩:=hc;obtain⟨-,-,-,-,-,-,-,-,-,-,h,-⟩:=hf i hi;exact h
  ·simp only[List.mem_map,List.mem_range]at hc;obtain⟨i,hi,rfl⟩:=hc;obtain⟨-,-,-,-,-,-,-,-,-,-,-,h⟩:=hf i hi;exact h
theorem objc_of2{H:Type}{enc:TypeId×Value->H}{w:World}{spare:Nat->Bool}{held:Bool}{fuel:Nat}{cs:List Value}{y:DataW H×List MemPlace}(hl:cs.length=3)(h:DataW.trod enc Tryz.prog w 0 spare held fuel 33 cs=some y)(hw:Wt 33 y.1):
 ∃(O:LObj) (ip:Option Addr) (ic:Nat) (gp:Option Addr) (gc:Nat),cs[0]?=some (.string O.name)∧cs[1]?=some (.slice ip O.imps.length ic)∧cs[2]?=some (.slice gp O.globs.length gc)∧ObjAt w (.agg #[.string O.name,.slice ip O.imps.length ic,.slice gp O.globs.length gc]) O∧SizedO O.imps O.globs∧∀g∈O.globs,RangeC g.code:=by
 obtain⟨y0,y1,y2,n,rfl,-,h0,h1,h2⟩:=Go.Deep.trod_struct3 Tryz.underlying33 h;obtain⟨s,e0,hs⟩:=one_string Tryz.underlying9 h0;obtain⟨v1,e1,f1⟩:=one_cell (cs:=cs) (i:=1) cells_imps (by omega);obtain⟨v2,e2,f2⟩:=one_cell (cs:=cs) (i:=2) cells_globs (by omega);have h1':DataW.trod enc Tryz.prog w 0 spare held n 30 ((cs.drop 1).take (Tryz.prog.cellsOf 30))=some y1:=h1;have h2':DataW.trod enc Tryz.prog w 0 spare held n 31 ((cs.drop 2).take (Tryz.prog.cellsOf 31))=some y2:=h2;rw[e1]at h1';rw[e2]at h2';obtain⟨li,hI,hI2⟩:=imps_of h1' (hw.part Tryz.underlying33 (j:=1) rfl rfl);obtain⟨lg,hG,hG2,hG3⟩:=globs_of2 h2' (hw.part Tryz.underlying33 (j:=2) rfl rfl);obtain⟨ip,ic,rfl,-⟩:=id hI;obtain⟨gp,gc,rfl,-⟩:=id hG;exact⟨⟨s,li,lg⟩,ip,ic,gp,gc,one_at cells_string e0,f1,f2,⟨_,_,rfl,hs,hI,hG⟩,⟨hI2,hG2⟩,hG3⟩
theorem objs_of2{H:Type}{enc:TypeId×Value->H}{w:World}{spare:Nat->Bool}{held:Bool}{fuel:Nat}{v:Value}{x:DataW H×List MemPlace}(h:DataW.trod enc Tryz.prog w 0 spare held fuel 54 [v]=some x)(hw:Wt 54 x.1):∃l:List LObj,ObjsAt w v l∧l.length*64<=140737488351232∧(∀O∈l,SizedO O.imps O.globs)∧A64 l:=by
 rcases slice_get Tryz.underlying54 cells_obj (by omega) h hw with rfl|⟨a,len,cap,n,rfl,hs,hx⟩
 ·exact⟨[],⟨none,0,rfl,by simp[short],λi hi=>absurd hi (by simp)⟩,by simp,λc hc=>(by cases hc),λc hc=>by cases hc⟩
 ·rw[bytes_obj]at hs;have:Inhabited LObj:=⟨⟨⟨#[]⟩,[],[]⟩⟩;obtain⟨f,hf⟩:=Go.Deep.choose_lt (α:=LObj) (n:=len) (p:=λi O=>∃(b o:Nat) (ip:Option Addr) (ic:Nat) (gp:Option Addr) (gc:Nat),a=⟨b,o,none⟩∧w.cell? ⟨b,o+i*3,none⟩=some (.string O.name)∧w.cell? ⟨b,o+i*3+1,none⟩=some (.slice ip O.imps.length ic)∧w.cell? ⟨b,o+i*3+2,none⟩=some (.slice gp O.globs.length gc)∧ObjAt w (.agg #[.string O.name,.slice ip O.imps.length ic,.slice gp O.globs.length gc]) O∧SizedO O.imps O.globs∧∀g∈O.globs,RangeC g.code) (λi hi=>by
   obtain⟨b,o,cs,y,rfl,hl,hc,ht,hwt⟩:=hx i hi;obtain⟨O,ip,ic,gp,gc,h0,h1,h2,h3⟩:=objc_of2 hl ht hwt;exact⟨O,b,o,ip,ic,gp,gc,rfl,(hc 0 (by omega)).trans h0,(hc 1 (by omega)).trans h1,(hc 2 (by omega)).trans h2,h3⟩)
  have hl:((List.range len).map f).length=len:=by simp
  refine⟨(List.range len).map f,⟨some a,cap,by rw[hl],?_,λi hi=>?_⟩,?_,λc hc=>?_,λc hc=>?_⟩
  ·rw[hl];simp only[short];unfold reachBytes at hs;omega
  ·rw[hl]at hi;obtain⟨b,o,ip,ic,gp,gc,e,h0,h1,h2,h3,-⟩:=hf i hi;have e2:((List.range len).map f)[i]'(by rw[hl];exact hi)=f i:=by simp
   rw[e2];exact⟨b,o,ip,ic,gp,gc,by rw[e],h0,h1,h2,h3⟩
  ·rw[hl];unfold reachBytes at hs;omega
  ·simp only[List.mem_map,List.mem_range]at hc;obtain⟨i,hi,rfl⟩:=hc;obtain⟨-,-,-,-,-,-,-,-,-,-,-,h,-⟩:=hf i hi;exact h
  ·simp only[List.mem_map,List.mem_range]at hc;obtain⟨i,hi,rfl⟩:=hc;obtain⟨-,-,-,-,-,-,-,-,-,-,-,-,h⟩:=hf i hi;exact h
theorem cells_fed:Tryz.prog.cellsOf 74=2:=by kernel_rfl
theorem bytes_fed:Tryz.prog.bytesOf 74=16:=by kernel_rfl
theorem fed_of{H:Type}{enc:TypeId×Value->H}{w:World}{spare:Nat->Bool}{held:Bool}{fuel:Nat}{cs:List Value}{y:DataW H×List MemPlace}(h:DataW.trod enc Tryz.prog w 0 spare held fuel 74 cs=some y):∃x:Int×Int,cs[0]?=some (.int .i64 x.1)∧cs[1]?=some (.int .i64 x.2):=by
 obtain⟨y0,y1,n,-,-,h0,h1⟩:=trod_struct2 Tryz.underlying74 h;obtain⟨a,e0⟩:=one_int Tryz.underlying3 h0;obtain⟨b,e1⟩:=one_int Tryz.underlying3 h1;exact⟨⟨a,b⟩,one_at cells_int e0,one_at cells_int e1⟩
theorem feds_of{H:Type}{enc:TypeId×Value->H}{w:World}{spare:Nat->Bool}{held:Bool}{fuel:Nat}{v:Value}{x:DataW H×List MemPlace}(h:DataW.trod enc Tryz.prog w 0 spare held fuel 68 [v]=some x)(hw:Wt 68 x.1):∃l:List (Int×Int),FedAt w v l:=by
 rcases slice_get Tryz.underlying68 cells_fed (by omega) h hw with rfl|⟨a,len,cap,n,rfl,hs,hx⟩
 ·exact⟨[],⟨none,0,rfl,by simp[short],λi hi=>absurd hi (by simp)⟩⟩
 ·rw[bytes_fed]at hs;obtain⟨f,hf⟩:=Go.Deep.choose_lt (α:=Int×Int) (n:=len) (p:=λi x=>∃b o,a=⟨b,o,none⟩∧w.cell? ⟨b,o+i*2,none⟩=some (.int .i64 x.1)∧w.cell? ⟨b,o+i*2+1,none⟩=some (.int .i64 x.2)) (λi hi=>by
   obtain⟨b,o,cs,y,rfl,-,hc,ht,-⟩:=hx i hi;obtain⟨x,h0,h1⟩:=fed_of ht;exact⟨x,b,o,rfl,(hc 0 (by omega)).trans h0,(hc 1 (by omega)).trans h1⟩)
  have hl:((List.range len).map f).length=len:=by simp
  refine⟨(List.range len).map f,⟨some a,cap,by rw[hl],?_,λi hi=>?_⟩⟩
  ·rw[hl];simp only[short];unfold reachBytes at hs;omega
  ·rw[hl]at hi;obtain⟨b,o,e,h0,h1⟩:=hf i hi;exact⟨b,o,by rw[e],by simpa using h0,by simpa using h1⟩
end Go.Proofs.YtdpodpjdcfjfgaaGreatDoor
namespace Go.Proofs.YtdpodpjdcfjfgaaGreatDoor
open Go.RowKit Go.Sort
def code7:List LIns:=[⟨0,7,[]⟩,⟨5,0,[]⟩,⟨19,0,[]⟩]
def tMain:ByteArray:=⟨#[109,97,105,110]⟩
def G7:LGlob:=⟨tMain,0,true,code7⟩
def O7:LObj:=⟨⟨#[109]⟩,[],[G7]⟩
theorem o7_vals:valsG O7=true:=by kernel_rfl
theorem out70:outI ⟨0,7,[]⟩ 1=2:=by kernel_rfl
theorem out75:outI ⟨5,0,[]⟩ 2=1:=by kernel_rfl
theorem least7:Least code7 1 [1,2,1]:=by
 refine⟨⟨rfl,leI.refl _,λk hk s hs=>?_⟩,λg hg i hi=>?_⟩
 ·rcases(show k=0∨k=1∨k=2 by simp[code7]at hk;omega) with rfl|rfl|rfl
  ·obtain rfl:s=1:=by simpa[code7,succs]using hs
   show leI (outI ⟨0,7,[]⟩ 1) 2;rw[out70];exact leI.refl _
  ·obtain rfl:s=2:=by simpa[code7,succs]using hs
   show leI (outI ⟨5,0,[]⟩ 2) 1;rw[out75];exact leI.refl _
  ·simp[code7,succs]at hs
 ·have h0:leI 1 (g.getD 0 0):=hg.start;have h1:leI 2 (g.getD 1 0):=(out70▸outI_mono ⟨0,7,[]⟩ h0:leI 2 (outI ⟨0,7,[]⟩ (g.getD 0 0))).trans (hg.step 0 (by simp[code7]) 1 (by simp[code7,succs]));have h2:leI 1 (g.getD 2 0):=(out75▸outI_mono ⟨5,0,[]⟩ h1:leI 1 (outI ⟨5,0,[]⟩ (g.getD 1 0))).trans (hg.step 1 (by simp[code7]) 2 (by simp[code7,succs]));rcases(show i=0∨i=1∨i=2 by simp[code7]at hi;omega) with rfl|rfl|rfl
  ·exact h0
  ·exact h1
  ·exact h2
theorem o7_bad:sBad 1 [G7] 0=none:=by
 have h:gBad code7 1 1=none:=by
  rw[gBad_depth (d0:=1) (most:=1) (code:=code7) (by kernel_rfl) (by simp[code7]) (by kernel_rfl) least7];kernel_rfl
 show(match gBad code7 (0+1) 1 with|some (e,i)=>some (e,0,i)|none=>sBad 1 [] 1)=none;rw[show(0:Int)+1=1 from rfl,h];rfl
theorem o7_doc:docS O7=resS none:=by
 unfold docS;rw[o7_vals];show resS (sBad (((0:Nat):Int)+((1:Nat):Int)) [G7] 0)=_;rw[show(((0:Nat):Int)+((1:Nat):Int))=1 by rfl,o7_bad]
theorem o7_ok:okO O7=true:=by
 unfold okO;rw[o7_vals];show(sBad (((0:Nat):Int)+((1:Nat):Int)) [G7] 0).isNone=_;rw[show(((0:Nat):Int)+((1:Nat):Int))=1 by rfl,o7_bad];rfl
theorem o7_lnk:lnkE [O7] tMain=none:=by
 unfold lnkE;rw[if_neg (by simp)];have h0:fstF (λ_ O=>!okO O) [O7] 0=none:=by
  unfold fstF;rw[o7_ok];rfl
 rw[h0];have h1:fstF (twB [O7]) [O7] 0=none:=by kernel_rfl
 have h2:fstF (λ_=>miB [O7]) [O7] 0=none:=by kernel_rfl
 have h3:fstF (λ_=>arB2 [O7]) [O7] 0=none:=by kernel_rfl
 rw[h1,h2,h3];show lnkX [O7] tMain=none;kernel_rfl
theorem o7_img:img [O7]=[⟨tMain,0,true,code7⟩]:=by kernel_rfl
theorem o7_ent:imgE [O7] tMain=0:=by kernel_rfl
def ins8:Array Value:=#[.int .i64 0,.int .i64 7,.slice none 0 0,.int .i64 5,.int .i64 0,.slice none 0 0,.int .i64 19,.int .i64 0,.slice none 0 0]
theorem obj8_at{w:World}{b0 b1:Nat}(hc:∀i,i<9->w.cell? ⟨b0,i,none⟩=ins8[i]?)(g0:w.cell? ⟨b1,0,none⟩=some (.string tMain))(g1:w.cell? ⟨b1,1,none⟩=some (.int .i64 0))(g2:w.cell? ⟨b1,2,none⟩=some (.bool true))(g3:w.cell? ⟨b1,3,none⟩=some (.slice (some ⟨b0,0,none⟩) 3 3)):
 ObjAt w (.agg #[.string ⟨#[109]⟩,.slice none 0 0,.slice (some ⟨b1,0,none⟩) 1 1]) O7:=by
 refine⟨_,_,rfl,by decide,⟨none,0,rfl,by simp[short,O7],λi hi=>absurd hi (by simp[O7])⟩,⟨some ⟨b1,0,none⟩,1,rfl,by simp[short,O7],λi hi=>?_⟩⟩;obtain rfl:i=0:=by simp[O7]at hi;omega
 refine⟨b1,0,.slice (some ⟨b0,0,none⟩) 3 3,rfl,g0,g1,g2,g3,⟨some ⟨b0,0,none⟩,3,rfl,by simp[short,O7,G7,code7],λi hi=>?_⟩,by show tMain.size<=maxLen;decide⟩;rcases(show i=0∨i=1∨i=2 by simp[O7,G7,code7]at hi;omega) with rfl|rfl|rfl
 ·exact⟨b0,0,.slice none 0 0,rfl,hc 0 (by omega),hc 1 (by omega),hc 2 (by omega),⟨none,0,rfl,by simp[short,O7,G7,code7],λi hi=>absurd hi (by simp[O7,G7,code7])⟩⟩
 ·exact⟨b0,0,.slice none 0 0,rfl,hc 3 (by omega),hc 4 (by omega),hc 5 (by omega),⟨none,0,rfl,by simp[short,O7,G7,code7],λi hi=>absurd hi (by simp[O7,G7,code7])⟩⟩
 ·exact⟨b0,0,.slice none 0 0,rfl,hc 6 (by omega),hc 7 (by omega),hc 8 (by omega),⟨none,0,rfl,by simp[short,O7,G7,code7],λi hi=>absurd hi (by simp[O7,G7,code7])⟩⟩
theorem out8:aOut [G7] 0 7 1=.agg #[.int .i64 0,.string ⟨#[55]⟩,.int .i64 7,.int .i64 1]:=by kernel_rfl
theorem runs_any8(w:World)(adr:Nat->Addr)(hT:TabAt w)(hS:SentAt w adr)(htab:Lib.TabBelow Tryz.prog w.heap.size w "internal/strconv.uint64pow10" .u64 Lib.pow10Tab):
 Calls Tryz.prog 24 #[] w λe w'=>e=.returned (.bool true)∧Below w.heap.size w w':=by
 obtain⟨W3,hW3⟩:∃W3,((w.alloc (.cells #[.int .i64 0,.int .i64 7,.slice none 0 0,.int .i64 5,.int .i64 0,.slice none 0 0,.int .i64 19,.int .i64 0,.slice none 0 0] 127)).alloc (.cells #[.string ⟨#[109,97,105,110]⟩,.int .i64 0,.bool true,.slice (some ⟨w.heap.size,0,none⟩) 3 3] 118)).alloc (.cells #[.string ⟨#[109]⟩,.slice none 0 0,.slice (some ⟨w.heap.size+1,0,none⟩) 1 1] 33)=W3:=⟨_,rfl⟩;have hb3:Below w.heap.size w W3:=by
  rw[<-hW3];exact(((Below.refl _ _).alloc (Nat.le_refl _) _).alloc (by simp) _).alloc (by simp;omega) _
 have hz3:W3.heap.size=w.heap.size+3:=by rw[<-hW3];simp
 have hO:ObjAt W3 (.agg #[.string ⟨#[109]⟩,.slice none 0 0,.slice (some ⟨w.heap.size+1,0,none⟩) 1 1]) O7:=by
  rw[<-hW3];have e1:(w.alloc (.cells #[.int .i64 0,.int .i64 7,.slice none 0 0,.int .i64 5,.int .i64 0,.slice none 0 0,.int .i64 19,.int .i64 0,.slice none 0 0] 127)).heap.size=w.heap.size+1:=by simp
  have hg:∀i v,(#[Value.string ⟨#[109,97,105,110]⟩,.int .i64 0,.bool true,.slice (some ⟨w.heap.size,0,none⟩) 3 3])[i]?=some v->(((w.alloc (.cells #[.int .i64 0,.int .i64 7,.slice none 0 0,.int .i64 5,.int .i64 0,.slice none 0 0,.int .i64 19,.int .i64 0,.slice none 0 0] 127)).alloc (.cells #[.string ⟨#[109,97,105,110]⟩,.int .i64 0,.bool true,.slice (some ⟨w.heap.size,0,none⟩) 3 3] 118)).alloc (.cells #[.string ⟨#[109]⟩,.slice none 0 0,.slice (some ⟨w.heap.size+1,0,none⟩) 1 1] 33)).cell? ⟨w.heap.size+1,i,none⟩=some v:=λi v hv=>by
   refine alloc_old _ _ _ _ _ ?_;have:=alloc_cell (w.alloc (.cells #[.int .i64 0,.int .i64 7,.slice none 0 0,.int .i64 5,.int .i64 0,.slice none 0 0,.int .i64 19,.int .i64 0,.slice none 0 0] 127)) #[Value.string ⟨#[109,97,105,110]⟩,.int .i64 0,.bool true,.slice (some ⟨w.heap.size,0,none⟩) 3 3] 118 i v hv;rw[e1]at this;exact this
  refine obj8_at (b0:=w.heap.size) (λi hi=>?_) (hg 0 _ rfl) (hg 1 _ rfl) (hg 2 _ rfl) (hg 3 _ rfl);have hv:ins8[i]?=some ins8[i]:=Array.getElem?_eq_getElem hi;rw[hv];exact alloc_old _ _ _ _ _ (alloc_old _ _ _ _ _ (alloc_cell w ins8 _ i _ hv))
 have HC3:Hid (C3 W3 (w.heap.size+1+1) (.string ⟨#[109]⟩) (.slice none 0 0) (.slice (some ⟨w.heap.size+1,0,none⟩) 1 1)):=by
  rw[<-hW3];have:=C3.new ((w.alloc (.cells #[.int .i64 0,.int .i64 7,.slice none 0 0,.int .i64 5,.int .i64 0,.slice none 0 0,.int .i64 19,.int .i64 0,.slice none 0 0] 127)).alloc (.cells #[.string ⟨#[109,97,105,110]⟩,.int .i64 0,.bool true,.slice (some ⟨w.heap.size,0,none⟩) 3 3] 118)) (.string ⟨#[109]⟩) (.slice none 0 0) (.slice (some ⟨w.heap.size+1,0,none⟩) 1 1) 33;simp only[World.size_alloc]at this;exact this
 have HSD:Hid (Calls Tryz.prog 36 #[.agg #[.string ⟨#[109]⟩,.slice none 0 0,.slice (some ⟨w.heap.size+1,0,none⟩) 1 1]] W3 λe w1=>e=.returned (.tuple #[.int .i64 0,.agg #[.int .i64 0,.int .i64 0]])∧Hid (Below W3.heap.size W3 w1)):=(tarnSound_any O7 _ W3 adr hO (hT.keep hb3) (hS.keep hb3)).mono λe w1 ⟨he,hb⟩=>⟨by rw[he,o7_doc];rfl,hb⟩;have HLK:Hid (∀w1,Below W3.heap.size W3 w1->Calls Tryz.prog 26 #[.slice (some ⟨w1.heap.size+1,0,none⟩) 1 1,.string ⟨#[109,97,105,110]⟩] ((w1.alloc (.cells #[.int .i64 0,.int .i64 0] 36)).alloc (.cells #[.string ⟨#[109]⟩,.slice none 0 0,.slice (some ⟨w.heap.size+1,0,none⟩) 1 1] 33)) λe w2=>∃I:Nat,e=.returned (.tuple #[.pointer (some ⟨I,0,none⟩),.int .i64 0,.int .i64 0])∧Hid (Calls Tryz.prog 30 #[.pointer (some ⟨I,0,none⟩),.int .i64 7,.int .i64 1] w2 λe w3=>e=.returned (.agg #[.int .i64 0,.string ⟨#[55]⟩,.int .i64 7,.int .i64 1])∧Hid (Below w.heap.size w w3))):=λw1 hb1=>by
  have hb5:Below w1.heap.size w1 ((w1.alloc (.cells #[.int .i64 0,.int .i64 0] 36)).alloc (.cells #[.string ⟨#[109]⟩,.slice none 0 0,.slice (some ⟨w.heap.size+1,0,none⟩) 1 1] 33)):=((Below.refl _ _).alloc (Nat.le_refl _) _).alloc (by simp) _;have hb6:Below W3.heap.size W3 ((w1.alloc (.cells #[.int .i64 0,.int .i64 0] 36)).alloc (.cells #[.string ⟨#[109]⟩,.slice none 0 0,.slice (some ⟨w.heap.size+1,0,none⟩) 1 1] 33)):=hb1.trans (hb5.mono hb1.size);have hb7:=hb3.trans (hb6.mono hb3.size);have hN:=C3.new (w1.alloc (.cells #[.int .i64 0,.int .i64 0] 36)) (.string ⟨#[109]⟩) (.slice none 0 0) (.slice (some ⟨w.heap.size+1,0,none⟩) 1 1) 33;simp only[World.size_alloc]at hN;have hOs:ObjsAt ((w1.alloc (.cells #[.int .i64 0,.int .i64 0] 36)).alloc (.cells #[.string ⟨#[109]⟩,.slice none 0 0,.slice (some ⟨w.heap.size+1,0,none⟩) 1 1] 33)) (.slice (some ⟨w1.heap.size+1,0,none⟩) 1 1) [O7]:=⟨_,_,rfl,by simp[short],λi hi=>by
   obtain rfl:i=0:=by simpa using hi
   exact⟨w1.heap.size+1,0,none,0,some ⟨w.heap.size+1,0,none⟩,1,rfl,hN.c0,hN.c1,hN.c2,hO.keep hb6⟩⟩
  refine(tarnLink_any [O7] _ tMain _ adr hOs (λO hO=>by obtain rfl:=List.mem_singleton.1 hO;simp[O7]) (by decide) (hT.keep hb7) (hS.keep hb7)).mono ?_;rintro e w2 ⟨hb2,h2⟩;rw[o7_lnk]at h2;obtain⟨I,p,n,c,he,-,hR,hG⟩:=h2;have hok:=img_ok o7_lnk (λO hO g hg i hi=>by
   obtain rfl:=List.mem_singleton.1 hO;obtain rfl:=List.mem_singleton.1 hg;simp only[G7,code7,List.mem_cons,List.not_mem_nil,or_false]at hi;rcases hi with rfl|rfl|rfl<;>simp)
  rw[o7_img]at hG hok;rw[o7_ent]at hR hok;obtain⟨⟨D,hD⟩,hm⟩:=hok;obtain⟨q,cap,e2,-⟩:=id hG;cases e2;obtain⟨G,hIm⟩:=img_open hR hG hD.ar;have hb8:=hb7.trans (hb2.mono hb7.size);refine⟨I,he,(image_any 7 1 hD hIm hm hR.c1 λX hX=>htab X (hb8.trans (hX.mono hb8.size))).mono λe w3 ⟨he,hb⟩=>⟨by rw[he];exact congrArg _ out8,hb8.trans (hb.mono hb8.size)⟩⟩
 obtain⟨d0,d1,d2,-⟩:=id HC3.out;clear hT hS hO hb3;go_enter Tryz.func24,Tryz.ntmps24;go_wp2_with (first
  |(go_at_call 36;refine HSD.out.mono ?_;rintro e w1 ⟨rfl,HB1⟩;have HLK1:=hid (HLK.out w1 HB1.out);have hC:=HC3.out.keep HB1.out;obtain⟨c0,c1,c2,-⟩:=hC;have c0a:=λo=>alloc_old w1 o _ _ _ c0;have c1a:=λo=>alloc_old w1 o _ _ _ c1;have c2a:=λo=>alloc_old w1 o _ _ _ c2;clear c0 c1 c2)
  |(go_at_call 26;refine HLK1.out.mono ?_;rintro e w2 ⟨I,rfl,HIM⟩)
  |(go_at_call 30;refine HIM.out.mono ?_;rintro e w3 ⟨rfl,HB3⟩))
 go_ret;exact⟨rfl,HB3.out⟩
end Go.Proofs.YtdpodpjdcfjfgaaGreatDoor
