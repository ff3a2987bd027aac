import Derived.Test.YtcpcplaeaimmpaaGreatDoorJgJ
import Derived.Laws.IdiomStrings
import Derived.ArgAppend
set_option maxRecDepth 100000
set_option maxHeartbeats 8000000
namespace Go.Proofs.YtcpcplaeaimmpaaGreatDoor
open Go.RowKit Go.Sort
def zOut:List Value:=[.int .i64 0,.string ⟨#[]⟩,.int .i64 0,.int .i64 0]
theorem FBL.new4(w:World)(x y z u:Value)(t:TypeId):FBL (w.alloc (.cells #[x,y,z,u] t)) w.heap.size [x,y,z,u]:=by
 refine⟨λj hj=>?_,λj=>frozen_new _ _ _ _,by simp⟩;have:j=0∨j=1∨j=2∨j=3:=by simp at hj;omega
 rcases this with rfl|rfl|rfl|rfl<;>exact alloc_cell w #[x,y,z,u] _ _ _ rfl
theorem out_set{w:World}{b:Nat}(h:FBL w b zOut):FBL ((((w.setCell ⟨b,0,none⟩ (.int .i64 0)).setCell ⟨b,1,none⟩ (.string ⟨#[55]⟩)).setCell ⟨b,2,none⟩ (.int .i64 7)).setCell ⟨b,3,none⟩ (.int .i64 1)) b [.int .i64 0,.string ⟨#[55]⟩,.int .i64 7,.int .i64 1]:=
 FBL.set (FBL.set (FBL.set (FBL.set h (i:=0) (by simp[zOut]) _) (i:=1) (by simp[zOut]) _) (i:=2) (by simp[zOut]) _) (i:=3) (by simp[zOut]) _
structure Pr7 (w:World) (Pb:Nat):Prop where
 ex:∃gp gc,R2 w Pb (.slice gp 1 gc) (.int .i64 0)∧MGAt 0 w (.slice gp 1 gc) [G7]
theorem Pr7.keep{w w':World}{Pb:Nat}(h:Pr7 w Pb)(hb:Below w.heap.size w w'):Pr7 w' Pb:=by
 obtain⟨gp,gc,h1,h2⟩:=h.ex;exact⟨gp,gc,h1.keep hb,h2.keep hb⟩
theorem MCx.low{X:Nat->Prop}{w:World}{v:Value}{l:List LIns}(h:MCx X w v l):MCx (λb=>b<w.heap.size) w v l:=by
 obtain⟨B,L,-,h2,h3,h4,h5⟩:=h;refine⟨B,L,h4.lt,h2,h3,h4,λx hx=>?_⟩;obtain⟨B',-,g2,g3⟩:=h5 x hx;exact⟨B',g3.lt,g2,g3⟩
theorem Pr7.open{w:World}{Pb:Nat}(h:Pr7 w Pb):∃gp gc G,Pg w.heap.size w Pb 1 gp gc G∧(G 0).1=0∧CdAt w.heap.size w (.slice (G 0).2.1 (G 0).2.2.1 (G 0).2.2.2) code7∧w.cell? ⟨Pb,0,none⟩=some (.slice gp 1 gc)∧w.cell? ⟨Pb,1,none⟩=some (.int .i64 0):=by
 obtain⟨gp,gc,h1,p,cap,e,h2⟩:=h.ex;obtain⟨b,o,cv,-,rfl,k1,k2,k3⟩:=h2 0 (by simp);obtain⟨B,L,hB,hv,h3,h4,h5⟩:=k3.low;cases e;subst hv;refine⟨_,gc,λ_=>(0,some ⟨B,0,none⟩,3,3),⟨h1.lt,h1.c0,λi hi=>?_⟩,rfl,Or.inr k3.low,h1.c0,h1.c1⟩;obtain rfl:i=0:=by omega
 exact⟨b,o,block_lt_of_cell k1,rfl,k1,k2⟩
theorem run7{w:World}{Pb:Nat}(h:Pr7 w Pb):
 Calls Tryz.prog 32 #[.pointer (some ⟨Pb,0,none⟩),.int .i64 2000000,.int .i64 2000000] w λe w'=>e=.returned (.agg #[.int .i64 0,.string ⟨#[55]⟩,.int .i64 7,.int .i64 1])∧Below w.heap.size w w':=by
 have hb0:Below w.heap.size w (w.alloc (.cells #[.int .i64 0,.string ⟨#[]⟩,.int .i64 0,.int .i64 0] 43)):=(Below.refl _ _).alloc (Nat.le_refl _) _;obtain⟨W0,hW0⟩:∃W0,w.alloc (.cells #[.int .i64 0,.string ⟨#[]⟩,.int .i64 0,.int .i64 0] 43)=W0:=⟨_,rfl⟩;have hR:FBL W0 w.heap.size zOut:=by
  rw[<-hW0];exact FBL.new4 w _ _ _ _ _
 have HNM:Hid (Calls Tryz.prog 61 #[.pointer (some ⟨Pb,0,none⟩),.int .i64 2000000,.int .i64 2000000] W0 λe w1=>∃M:Nat,e=.returned (.pointer (some ⟨M,0,none⟩))∧w1.cell? ⟨Pb,1,none⟩=some (.int .i64 0)∧Hid (Calls Tryz.prog 63 #[.pointer (some ⟨M,0,none⟩),.int .i32 0] w1 λe w2=>e=.returned (.bool true)∧Hid (Below w.heap.size w w2)∧(w2.cell? ⟨M,12,none⟩=some (.int .i64 0)∧w2.cell? ⟨M,7,none⟩=some (.int .i64 7)∧w2.cell? ⟨M,9,none⟩=some (.int .i64 1))∧∃g c:Nat,w2.cell? ⟨M,13,none⟩=some (.slice (some ⟨g,0,none⟩) 1 c)∧Hid (w2.cell? ⟨g,0,none⟩=some (.int .u8 55))∧w.heap.size<w2.heap.size∧Hid (FBL w2 w.heap.size zOut))):=by
  rw[hW0]at hb0;obtain⟨gp,gc,G,hP,hG,hC,e0,e1⟩:=(h.keep hb0).open;refine(newMachine_any 2000000 2000000 e0 (by omega)).mono ?_;rintro e w1 ⟨hb1,M,B,rfl,hM,hB⟩;refine⟨M,rfl,cell_keep hb1 e1,?_⟩;refine(tell7 hM (hP.low hb1) hG (hC.fr hb1)).mono λe w2 hr=>?_;obtain⟨he,hA,B2,⟨cs,ds,cv,sv,kv,dv,tv,hm,-⟩,-⟩:=hr;have hb2:Below W0.heap.size W0 w2:=hb1.trans (hA.low hB hb1.size);have hb3:Below w.heap.size w w2:=hb0.trans (hb2.mono hb0.size);obtain⟨g,c,rfl,-,hc⟩:=stack_slice hm.tx (by simp[s76,st7]);have hR2:=hR.of_block (hb2.block _ hR.lt) hb2.size;refine⟨he,hb3,⟨hm.m.at 12 rfl,hm.m.at 7 rfl,hm.m.at 9 rfl⟩,g,c,hm.m.at 13 rfl,hc 0 (by simp[s76,st7]),Nat.lt_of_lt_of_le hR.lt hb2.size,hR2⟩
 clear h hb0 hR;go_enter Tryz.func32,Tryz.ntmps32;go_wp2_with (first
  |(go_at_call 62;refine(withinM_any _).mono ?_;rintro e w1 ⟨rfl,rfl⟩)
  |(go_at_call 61;refine HNM.out.mono ?_;rintro e w1 ⟨M,rfl,e1,HTL⟩;clear HNM)
  |(go_at_call 63;refine HTL.out.mono ?_;rintro e w2 ⟨rfl,HB2,⟨k12,k7,k9⟩,g,c,k13,HG,hlt,HRR⟩;clear HTL))
 have k12a:=λo=>alloc_old w2 o _ _ _ k12;have k7a:=λo=>alloc_old w2 o _ _ _ k7;have k9a:=λo=>alloc_old w2 o _ _ _ k9;go_region
 obtain⟨W6,hW6⟩:∃W6,(w2.alloc (Obj.cells #[.int .i64 0,.string ⟨#[]⟩,.int .i64 7,.int .i64 1] 43)).drew=W6:=⟨_,rfl⟩;have HB6:Hid (Below w2.heap.size w2 W6):=by rw[<-hW6];exact((Below.refl _ _).alloc (Nat.le_refl _) _).drew
 have hN:FBL W6 w2.heap.size [.int .i64 0,.string ⟨#[]⟩,.int .i64 7,.int .i64 1]:=by
  rw[<-hW6];exact(FBL.new4 w2 _ _ _ _ _).of_block rfl (Nat.le_refl _)
 have n0:=hN.at 0 rfl;have n1:=hN.at 1 rfl;have n2:=hN.at 2 rfl;have n3:=hN.at 3 rfl;have nf:=hN.fz 1;have hne:w.heap.size≠w2.heap.size:=by omega
 have hne':w2.heap.size≠w.heap.size:=by omega
 have hR6:FBL W6 w.heap.size zOut:=HRR.out.of_block (HB6.out.block _ hlt) HB6.out.size;have q0:=hR6.at 0 rfl;have q1:=hR6.at 1 rfl;have q2:=hR6.at 2 rfl;have q3:=hR6.at 3 rfl;have g0:=hR6.fz 0;have g1:=hR6.fz 1;have g2:=hR6.fz 2;have g3:=hR6.fz 3;have HR7:Hid (FBL (W6.setCell ⟨w2.heap.size,1,none⟩ (.string ⟨#[55]⟩)) w.heap.size zOut):=hR6.of_block (Below.heap_setCell _ _ _ _ hne) (by simp);have m12:=cell_keep HB6.out k12;have m13:=cell_keep HB6.out k13;have hcv:(convert 40 9 (.slice (some ⟨g,0,none⟩) 1 c)).run Tryz.prog W6=.ok (.string ⟨#[55]⟩) W6:=run_convert_bytes_back (P:=Tryz.prog) W6 40 9 5 ⟨g,0,none⟩ c [55] Tryz.underlying40 Tryz.underlying5 Tryz.underlying9 (λj hj=>by
  obtain rfl:j=0:=by simpa using hj
  exact cell_keep HB6.out HG.out)
 rw[hW6];have HB7:=hid (HB2.out.trans (HB6.out.mono HB2.out.size));clear hW6 hN hR6 k12 k7 k9 k13 k12a k7a k9a HG HB6 HB2 HRR;go_wp2;have hF:=out_set HR7.out;have d0:=hF.at 0 rfl;have d1:=hF.at 1 rfl;have d2:=hF.at 2 rfl;have d3:=hF.at 3 rfl;refine bodyPost_ret (v:=.agg #[.int .i64 0,.string ⟨#[55]⟩,.int .i64 7,.int .i64 1]) (by simp[results,Tryz.results32,go_sem,d0,d1,d2,d3]) rfl ⟨rfl,?_⟩;exact((((HB7.out.setCell (Nat.le_of_lt hlt) _).setCell (Nat.le_refl _) _).setCell (Nat.le_refl _) _).setCell (Nat.le_refl _) _).setCell (Nat.le_refl _) _
theorem image7{w:World}{Pb:Nat}(h:Pr7 w Pb):
 Calls Tryz.prog 20 #[.pointer (some ⟨Pb,0,none⟩),.int .i64 2000000,.int .i64 2000000] w λe w'=>e=.returned (.agg #[.int .i64 0,.string ⟨#[55]⟩,.int .i64 7,.int .i64 1])∧Below w.heap.size w w':=by
 obtain⟨W0,hW0⟩:∃W0,w.alloc (.cells #[.int .i64 0,.string ⟨#[]⟩,.int .i64 0,.int .i64 0] 43)=W0:=⟨_,rfl⟩;have hb0:Below w.heap.size w W0:=by rw[<-hW0];exact(Below.refl _ _).alloc (Nat.le_refl _) _
 have hR:FBL W0 w.heap.size zOut:=by
  rw[<-hW0];exact FBL.new4 w _ _ _ _ _
 have HRN:Hid (Calls Tryz.prog 32 #[.pointer (some ⟨Pb,0,none⟩),.int .i64 2000000,.int .i64 2000000] W0 λe w1=>e=.returned (.agg #[.int .i64 0,.string ⟨#[55]⟩,.int .i64 7,.int .i64 1])∧Hid (Below w.heap.size w w1)∧FBL w1 w.heap.size zOut):=(run7 (h.keep hb0)).mono λe w1 ⟨he,hb⟩=>⟨he,hb0.trans (hb.mono hb0.size),hR.of_block (hb.block _ hR.lt) hb.size⟩;clear h hb0 hR;go_enter Tryz.func20,Tryz.ntmps20;go_wp2_with (first
  |(go_at_call 32;refine HRN.out.mono ?_;rintro e w1 ⟨rfl,HB1,hR⟩;have HRR:=hid hR;have q0:=hR.at 0 rfl;have q1:=hR.at 1 rfl;have q2:=hR.at 2 rfl;have q3:=hR.at 3 rfl;have g0:=hR.fz 0;have g1:=hR.fz 1;have g2:=hR.fz 2;have g3:=hR.fz 3;clear hR))
 have hF:=out_set HRR.out;have d0:=hF.at 0 rfl;have d1:=hF.at 1 rfl;have d2:=hF.at 2 rfl;have d3:=hF.at 3 rfl;refine bodyPost_ret (v:=.agg #[.int .i64 0,.string ⟨#[55]⟩,.int .i64 7,.int .i64 1]) (by simp[results,Tryz.results20,go_sem,d0,d1,d2,d3]) rfl ⟨rfl,?_⟩;exact(((HB1.out.setCell (Nat.le_refl _) _).setCell (Nat.le_refl _) _).setCell (Nat.le_refl _) _).setCell (Nat.le_refl _) _
end Go.Proofs.YtcpcplaeaimmpaaGreatDoor
namespace Go.Proofs.YtcpcplaeaimmpaaGreatDoor
open Go.RowKit
theorem ksIns_any(code:List LIns)(va vb:Value)(w:World)(hA:CodeAt w va code)(hB:CodeAt w vb code):
 Calls Tryz.prog 18 #[va,vb] w λe w'=>e=.returned (.bool true)∧Below w.heap.size w w':=by
 obtain⟨p,cap,rfl,hs1,hca⟩:=hA.open;obtain⟨q,cbp,rfl,-,hcb⟩:=hB.open;have HA:Hid (∀w',Below w.heap.size w w'->CodeIn w' p code):=hca;have HB:Hid (∀w',Below w.heap.size w w'->CodeIn w' q code):=hcb;clear hA hB hca hcb;go_enter Tryz.func18,Tryz.ntmps18;go_wp2;go_loopw [5] (λi wr=>∃k:Nat,k<=code.length∧i=.int .i64 k∧Below w.heap.size w wr) (λi _=>code.length-(intOf i).toNat)
 case atStart=>exact⟨0,Nat.zero_le _,rfl,Below.refl _ _⟩
 case round=>
  obtain⟨k,hk,rfl,hb⟩:=hrel;by_cases hlt:k<code.length
  ·obtain⟨b,o,ap,an,ac,rfl,x0,x1,x2,hAl⟩:=HA.out _ hb k hlt;obtain⟨b2,o2,ap2,an2,ac2,rfl,y0,y1,y2,hBl⟩:=HB.out _ hb k hlt;obtain⟨ap',ac',e1,hs2,hal⟩:=hAl.open;obtain⟨rfl,rfl,rfl⟩:ap=ap'∧an=code[k].alts.length∧ac=ac':=by simpa using e1
   obtain⟨bp',bc',e2,-,hbl⟩:=hBl.open;obtain⟨rfl,rfl,rfl⟩:ap2=bp'∧an2=code[k].alts.length∧ac2=bc':=by simpa using e2
   have HAL:Hid (∀w',Below wr.heap.size wr w'->AltsIn w' ap code[k].alts):=hal;have HBL:Hid (∀w',Below wr.heap.size wr w'->AltsIn w' ap2 code[k].alts):=hbl;have hk1:(0:Int)<=(k:Int):=by omega
   have hk2:(k:Int)<(code.length:Int):=by omega
   clear hAl hBl hal hbl e1 e2;generalize code[k].op=op at*;generalize code[k].a=a at*;generalize code[k].alts=alts at*;rename World=>W0
   go_wp2;go_quiet (fail);go_wp2;go_loopw [6] (λi wr=>∃j:Nat,j<=alts.length∧i=.int .i64 j∧Hid (Below W0.heap.size W0 wr)∧wr.cell? ⟨b,o+k*3+2,none⟩=some (.slice ap alts.length ac)∧wr.cell? ⟨b2,o2+k*3+2,none⟩=some (.slice ap2 alts.length ac2)) (λi _=>alts.length-(intOf i).toNat)
   case atStart=>exact⟨0,Nat.zero_le _,rfl,below_drewN (Below.refl _ _) _,x2,y2⟩
   case round=>
    obtain⟨j,hj,rfl,hbj,u2,v2⟩:=hrel;clear x0 x1 x2 y0 y1 y2;by_cases hjl:j<alts.length
    ·obtain⟨ab,ao,rfl,t0,t1⟩:=HAL.out _ hbj.out j hjl;obtain⟨ab2,ao2,rfl,s0,s1⟩:=HBL.out _ hbj.out j hjl;have hj1:(0:Int)<=(j:Int):=by omega
     have hj2:(j:Int)<(alts.length:Int):=by omega
     generalize alts[j].tag=tg at*;generalize alts[j].to=tto at*;go_wp2;go_quiet (fail);go_wp2;exact⟨⟨j+1,by omega,by go_num,below_drewN hbj.out _,u2,v2⟩,by simp[intOf];omega⟩
    ·go_wp2;exact⟨⟨k+1,by omega,by go_num,hb.trans (hbj.out.mono hb.size)⟩,by simp[intOf];omega⟩
  ·go_wp2;go_ret;exact⟨rfl,hb⟩
theorem ks_any(O:LObj)(va vb:Value)(w:World)(hA:ObjAt w va O)(hB:ObjAt w vb O):
 Calls Tryz.prog 9 #[va,vb] w λe w'=>e=.returned (.bool true)∧Below w.heap.size w w':=by
 obtain⟨ia,ga,rfl,hsz,hIA,hGA⟩:=hA;obtain⟨ib,gb,rfl,-,hIB,hGB⟩:=hB;obtain⟨ip,ic,rfl,hs1,hia⟩:=hIA.open;obtain⟨gp,gc,rfl,hs2,hga⟩:=hGA.open;obtain⟨iq,id,rfl,-,hib⟩:=hIB.open;obtain⟨gq,gd,rfl,-,hgb⟩:=hGB.open;have HIA:Hid (∀w',Below w.heap.size w w'->ImpsIn w' ip O.imps):=hia;have HIB:Hid (∀w',Below w.heap.size w w'->ImpsIn w' iq O.imps):=hib;have HGA:Hid (∀w',Below w.heap.size w w'->GlobsIn w' gp O.globs):=hga;have HGB:Hid (∀w',Below w.heap.size w w'->GlobsIn w' gq O.globs):=hgb;clear hIA hGA hIB hGB hia hga hib hgb;generalize O.name=nm at*;generalize O.imps=imps at*;generalize O.globs=globs at*;go_enter Tryz.func9,Tryz.ntmps9;go_wp2;go_loopw [5] (λi wr=>∃k:Nat,k<=imps.length∧i=.int .i64 k∧Hid (Below w.heap.size w wr)∧wr.cell? ⟨w.heap.size,1,none⟩=some (.slice ip imps.length ic)∧wr.cell? ⟨w.heap.size,2,none⟩=some (.slice gp globs.length gc)∧wr.cell? ⟨w.heap.size+1,1,none⟩=some (.slice iq imps.length id)∧wr.cell? ⟨w.heap.size+1,2,none⟩=some (.slice gq globs.length gd)∧w.heap.size+1<wr.heap.size) (λi _=>imps.length-(intOf i).toNat)
 case atStart=>exact⟨0,Nat.zero_le _,rfl,((Below.refl _ _).alloc (Nat.le_refl _) _).alloc (by simp) _,by simp,by simp,by simp,by simp,by simp⟩
 case round=>
  obtain⟨k,hk,rfl,hb,q1,q2,q3,q4,hz⟩:=hrel;by_cases hlt:k<imps.length
  ·obtain⟨b,o,rfl,x0,x1,-⟩:=HIA.out _ hb.out k hlt;obtain⟨b2,o2,rfl,y0,y1,-⟩:=HIB.out _ hb.out k hlt;have hk1:(0:Int)<=(k:Int):=by omega
   have hk2:(k:Int)<(imps.length:Int):=by omega
   generalize imps[k].name=n0 at*;generalize imps[k].arity=a0 at*;go_wp2;go_quiet (fail);go_wp2;exact⟨⟨k+1,by omega,by go_num,below_drewN hb.out _,q1,q2,q3,q4,hz⟩,by simp[intOf];omega⟩
  ·go_wp2;go_loopw [6] (λi wr=>∃k:Nat,k<=globs.length∧i=.int .i64 k∧Hid (Below w.heap.size w wr)∧wr.cell? ⟨w.heap.size,2,none⟩=some (.slice gp globs.length gc)∧wr.cell? ⟨w.heap.size+1,2,none⟩=some (.slice gq globs.length gd)∧w.heap.size+1<wr.heap.size) (λi _=>globs.length-(intOf i).toNat)
   case atStart=>exact⟨0,Nat.zero_le _,rfl,hb,q2,q4,hz⟩
   case round=>
    obtain⟨j,hj,rfl,hbj,r2,r4,hzj⟩:=hrel;clear q1 q2 q3 q4 hz hb;by_cases hjl:j<globs.length
    ·obtain⟨b,o,cp,cn,cc,rfl,x0,x1,x2,x3,hCA,-⟩:=HGA.out _ hbj.out j hjl;obtain⟨b2,o2,cp2,cn2,cc2,rfl,y0,y1,y2,y3,hCB,-⟩:=HGB.out _ hbj.out j hjl;have HCA:Hid (CodeAt wr (.slice cp cn cc) globs[j].code):=hCA;have HCB:Hid (CodeAt wr (.slice cp2 cn2 cc2) globs[j].code):=hCB;have hj1:(0:Int)<=(j:Int):=by omega
     have hj2:(j:Int)<(globs.length:Int):=by omega
     have hbs:=hbj.out.size;have lb:b<wr.heap.size:=block_lt_of_cell x0;have lb2:b2<wr.heap.size:=block_lt_of_cell y0;clear hCA hCB;generalize globs[j].name=n0 at*;generalize globs[j].arity=a0 at*;generalize globs[j].exp=e0 at*;generalize globs[j].code=code at*;go_wp2_with (first|(go_at_call 18;refine(ksIns_any code _ _ _ ?_ ?_).mono ?_;exact HCA.out.keep (((Below.refl _ _).alloc (Nat.le_refl _) _).alloc (by simp) _);exact HCB.out.keep (((Below.refl _ _).alloc (Nat.le_refl _) _).alloc (by simp) _);rintro e w3 ⟨rfl,hb3⟩;obtain⟨z0,z1⟩:=bcell hb3))
     have hbf:Below wr.heap.size wr w3:=(((Below.refl _ _).alloc (Nat.le_refl _) _).alloc (by simp) _).trans (hb3.mono (by simp;omega));exact⟨⟨j+1,by omega,by go_num,hbj.out.trans (hbf.mono hbs),cell_keep hbf r2,cell_keep hbf r4,by have:=hbf.size;omega⟩,by simp[intOf];omega⟩
    ·go_wp2;go_ret;exact⟨rfl,hbj.out⟩
theorem ks_zero(O:LObj)(va:Value)(w:World)(hA:ObjAt w va O)(hn:O.name≠⟨#[]⟩):
 Calls Tryz.prog 9 #[va,.agg #[.string ⟨#[]⟩,.slice none 0 0,.slice none 0 0]] w λe w'=>e=.returned (.bool false)∧Below w.heap.size w w':=by
 obtain⟨ia,ga,rfl,hsz,hIA,hGA⟩:=hA;obtain⟨ip,ic,rfl,hs1,-⟩:=hIA.open;obtain⟨gp,gc,rfl,hs2,-⟩:=hGA.open;clear hIA hGA;generalize O.name=nm at*;have b1:(nm.toList==([]:List UInt8))=false:=by
  rw[beq_eq_false_iff_ne];intro h;exact hn (ByteArray.ext (by rw[ByteArray.toList_eq]at h;exact Array.toList_inj.1 h))
 go_enter Tryz.func9,Tryz.ntmps9;go_wp2;go_ret;exact⟨rfl,((Below.refl _ _).alloc (Nat.le_refl _) _).alloc (by simp) _⟩
end Go.Proofs.YtcpcplaeaimmpaaGreatDoor
namespace Go.Proofs.YtcpcplaeaimmpaaGreatDoor
open Go.RowKit Go.Sort
def u8s(bs:List Nat):List Value:=bs.map λb:Nat=>Value.int .u8 (b:Int)
theorem u8s_app(a b:List Nat):u8s (a++b)=u8s a++u8s b:=List.map_append
def Buf(w:World)(base:Nat)(v:Value)(bs:List Nat):Prop:=w.ownsRow base 5 1 v bs.length (u8s bs)
theorem Buf.keep{w w':World}{base:Nat}{v:Value}{bs:List Nat}(h:Buf w base v bs)(hb:Below w.heap.size w w'):Buf w' base v bs:=row_keep h hb
theorem Buf.slice{w:World}{base:Nat}{v:Value}{bs:List Nat}(h:Buf w base v bs):∃p c,v=.slice p bs.length c:=row_slice h
def vb(n:Nat):List Nat:=if n<128 then [n] else (n % 128+128)::vb (n / 128)
 termination_by n
 decreasing_by omega
theorem vb_small{n:Nat}(h:n<128):vb n=[n]:=by rw[vb,if_pos h]
theorem vb_big{n:Nat}(h:¬n<128):vb n=(n % 128+128)::vb (n / 128):=by rw[vb,if_neg h]
theorem vb_len:∀(k n:Nat),n<128 ^ k->(vb n).length<=max k 1
 |0,n,h=>by
  rw[vb_small (by simp at h;omega)];simp
 |k+1,n,h=>by
  by_cases h1:n<128
  ·rw[vb_small h1];simp
  ·rw[vb_big h1];have:=vb_len k (n / 128) (by rw[Nat.pow_succ]at h;omega);cases k with
   |zero=>simp at h;omega
   |succ k=>simp only[List.length_cons];omega
theorem vb_len10(n:Nat)(h:n<18446744073709551616):(vb n).length<=10:=vb_len 10 n (by omega)
theorem Tryz.u8Info:(Tryz.prog.info? 5).map (λi=>(i.zero,i.size,i.bytes))=some (some (.int .u8 0),1,1):=by kernel_rfl
theorem Buf.base{w:World}{B:Nat}{v:Value}{bs:List Nat}(h:Buf w B v bs):∀k,v.ownBlock=some k->B<=k∧k<w.heap.size:=λk hk=>h.lt k hk
end Go.Proofs.YtcpcplaeaimmpaaGreatDoor
namespace Go.Proofs.YtcpcplaeaimmpaaGreatDoor
open Go.RowKit Go.Sort Go.Lib
theorem run_str_lies{P:Program}(w:World)(base:Nat)(t u ty e:TypeId)(i:TypeInfo)(ht:P.underlying t=some (.slice e))(hu:P.underlying u=some .string)(hi:P.info? e=some i)(hz:i.zero=some (.int .u8 0))
 (hsize:i.size=1) (hby:i.bytes=1) (g n cap:Nat) (xs:List Value) (hown:w.ownsRow base e 1 (.slice (some ⟨g,0,none⟩) n cap) n xs) (s:ByteArray)
 (hpos:0<n+s.size) (hl:n+s.size<=140737488355328) (hbase:base<=w.heap.size):
 ∃g' cap' w',(Builtin.append_ #[t,u] ty #[.slice (some ⟨g,0,none⟩) n cap,.string s]).run P w=.ok (.slice (some ⟨g',0,none⟩) (n+s.size) cap') w'∧w'.ownsRow base e 1 (.slice (some ⟨g',0,none⟩) (n+s.size) cap') (n+s.size) (xs++strCells s)∧
  w.grownBy w' (some g)∧(g'=g∨g'=w.heap.size):=by
 obtain⟨v',w',hr,h2,h3,-⟩:=run_append_own_string (P:=P) w base t u ty e i ht hu hi hz hsize hby _ n xs hown s (by unfold maxLen;omega) hl hbase;obtain⟨g',cap',rfl,-,-⟩:=h2.form hpos;refine⟨g',cap',w',hr,h2,h3,?_⟩;rcases hown.2 with⟨h0,-⟩|⟨g0,cap0,cur,h0,hb0,hg,hnc,hcm,hcs,htake⟩
 ·cases h0
 ·simp only[Value.slice.injEq,Option.some.injEq,Addr.mk.injEq,and_true,true_and]at h0;obtain⟨rfl,rfl⟩:=h0;by_cases hroom:n+s.size<=cap
  ·have hr2:=run_append_room_string (P:=P) w t u ty e i ht hu hi hsize g n cap cur hg s hroom (by omega);rw[hr]at hr2;injection hr2 with h4 h5;simp at h4;exact Or.inl h4.1
  ·have hxl:xs.length=n:=by simpa using hown.1
   have hr2:=run_append_grow_string (P:=P) w t u ty e i (.int .u8 0) ht hu hi hz ⟨g,0,none⟩ n cap xs (by rw[hsize];simpa using hxl) (hown.cells (g:=g) rfl) s (by omega) (by omega) (by rw[hby];exact growslice_fits (by omega) (by omega));rw[hr]at hr2;injection hr2 with h4 h5;simp at h4;exact Or.inr h4.1
theorem wpList_str_lies{P:Program}(w:World){ops:Array Oper}{rest:List Oper}{o:Oper}{a:Act}{Q:Exit->Act->World->Prop}(hgd:o.guard=none)(sl x:Operand)(t u:TypeId)
 (ho:o.op=.call {callee:=.builtin .append,args:=#[sl,x],argTypes:=#[t,u]})
 (base:Nat) (e:TypeId) (i:TypeInfo) (ht:P.underlying t=some (.slice e)) (hu:P.underlying u=some .string) (hi:P.info? e=some i) (hz:i.zero=some (.int .u8 0)) (hsize:i.size=1) (hby:i.bytes=1)
 (g n cap:Nat) (xs:List Value) (hs:a.eval sl=.slice (some ⟨g,0,none⟩) n cap) (hown:w.ownsRow base e 1 (.slice (some ⟨g,0,none⟩) n cap) n xs) (s:ByteArray) (hx:a.eval x=.string s)
 (hpos:0<n+s.size) (hl:n+s.size<=140737488355328) (hbase:base<=w.heap.size)
 (h:∀g' cap' w',w'.ownsRow base e 1 (.slice (some ⟨g',0,none⟩) (n+s.size) cap') (n+s.size) (xs++strCells s)->w.grownBy w' (some g)->(g'=g∨g'=w.heap.size)->wpList P ops Q rest (a.put o.dst (.slice (some ⟨g',0,none⟩) (n+s.size) cap')) w'):wpList P ops Q (o::rest) a w:=by
 refine wpList_plain hgd λK hK=>?_;obtain⟨g',cap',w',hr,h2,h3,h4⟩:=run_str_lies (P:=P) w base t u o.type e i ht hu hi hz hsize hby g n cap xs hown s hpos hl hbase;unfold Oper.wp execOp;simp only[ho,resolve,invoke,builtin,Sem.run_bind,Sem.run_pure,Result.andThen_ok,List.map_toArray,List.map_cons,List.map_nil,hs,hx,hr];exact hK _ _ (h g' cap' w' h2 h3 h4)
def tb(s:ByteArray):List Nat:=s.data.toList.map λb=>b.toNat
theorem tb_len(s:ByteArray):(tb s).length=s.size:=by rw[tb,List.length_map,Array.length_toList];rfl
theorem u8s_tb(s:ByteArray):u8s (tb s)=strCells s:=by simp[u8s,tb,strCells]
def nb(s:ByteArray):List Nat:=vb s.size++tb s
end Go.Proofs.YtcpcplaeaimmpaaGreatDoor
namespace Go.Proofs.YtcpcplaeaimmpaaGreatDoor
open Go.RowKit Go.Sort
def fA(a:Int):Nat:=if 0<=a then (2*a).toNat else (-2*a-1).toNat
def altBytes(l:List LAlt):List Nat:=l.flatMap λx=>vb x.tag.toNat++vb x.to.toNat
def wb(x:LIns):List Nat:=x.op.toNat::(if x.op=0 then vb (fA x.a) else if x.op=17 then vb x.alts.length++altBytes x.alts else if rowN x.op.toNat 0=2 then vb x.a.toNat else [])
theorem Buf.low{w:World}{B B':Nat}{v:Value}{bs:List Nat}(h:Buf w B v bs)(hl:B'<=B):Buf w B' v bs:=by
 refine⟨h.1,?_⟩;rcases h.2 with h|⟨g,cap,cur,e,hb,h⟩
 ·exact Or.inl h
 ·exact Or.inr ⟨g,cap,cur,e,by omega,h⟩
theorem vb_pos(n:Nat):0<(vb n).length:=by
 by_cases h:n<128
 ·rw[vb_small h];simp
 ·rw[vb_big h];simp
theorem Buf.cellsOf{w:World}{B g n c:Nat}{bs:List Nat}(h:Buf w B (.slice (some ⟨g,0,none⟩) n c) bs):∀j u,(u8s bs)[j]?=some u->w.cell? ((⟨g,0,none⟩:Addr).add j)=some u:=World.ownsRow.cells h rfl
theorem altBytes_snoc(l:List LAlt)(j:Nat)(hj:j<l.length):altBytes (l.take (j+1))=altBytes (l.take j)++vb l[j].tag.toNat++vb l[j].to.toNat:=by
 rw[List.take_succ_eq_append_getElem hj];unfold altBytes;rw[List.flatMap_append,List.append_assoc];congr 1
 simp only[List.flatMap_cons,List.flatMap_nil,List.append_nil]
def ib(x:LImp):List Nat:=nb x.name++vb x.arity.toNat
def gb(g:LGlob):List Nat:=nb g.name++vb g.arity.toNat++[if g.exp then 1 else 0]++vb g.code.length++g.code.flatMap wb
def hdB(O:LObj):List Nat:=[84,65,82,78]++nb O.name++vb O.imps.length
def hb(O:LObj):List Nat:=hdB O++O.imps.flatMap ib++vb O.globs.length++O.globs.flatMap gb
structure GoodO (O:LObj):Prop where
 name:O.name.size<=16
 imps:∀x∈O.imps,x.name.size<=16∧0<=x.arity∧x.arity<=20
 globs:∀g∈O.globs,g.name.size<=16∧(0<=g.arity∧g.arity<=20)∧g.code.length<=65535∧∀x∈g.code,insG x.op x.a x.alts=true
theorem nmB_size{s:ByteArray}(h:nmB s=true):s.size<=16:=by
 simp only[nmB,Bool.and_eq_true,decide_eq_true_eq]at h;exact h.1.1.2
theorem impsFrom_good:∀(l:List LImp) (last:ByteArray),impsFrom last l=true->∀x∈l,x.name.size<=16∧0<=x.arity∧x.arity<=20
 |a::r,last,h,x,hx=>by
  simp only[impsFrom,Bool.and_eq_true]at h;rcases List.mem_cons.1 hx with rfl|hx
  ·have h1:=h.1.2;simp only[arB,Bool.and_eq_true,decide_eq_true_eq]at h1;exact⟨nmB_size h.1.1.1,h1.1,h1.2⟩
  ·exact impsFrom_good r _ h.2 x hx
theorem globsFrom_good(imps:List LImp):∀(l:List LGlob) (last:ByteArray),globsFrom imps last l=true->∀g∈l,g.name.size<=16∧(0<=g.arity∧g.arity<=20)∧g.code.length<=65535∧∀x∈g.code,insG x.op x.a x.alts=true
 |a::r,last,h,x,hx=>by
  simp only[globsFrom,Bool.and_eq_true]at h;rcases List.mem_cons.1 hx with rfl|hx
  ·have h1:=h.1.1.2;simp only[arB,Bool.and_eq_true,decide_eq_true_eq]at h1;have h2:=h.1.2;simp only[codeG,Bool.and_eq_true,decide_eq_true_eq,List.all_eq_true]at h2;exact⟨nmB_size h.1.1.1.1.1,h1,h2.1,h2.2⟩
  ·exact globsFrom_good imps r _ h.2 x hx
theorem GoodO.of{O:LObj}(h:valsG O=true):GoodO O:=by
 simp only[valsG,Bool.and_eq_true]at h;exact⟨nmB_size h.1.1,impsFrom_good _ _ h.1.2,globsFrom_good _ _ _ h.2⟩
def RangeO(O:LObj):Prop:=∀g∈O.globs,∀x∈g.code,-9223372036854775808<=x.a∧x.a<=9223372036854775807
def toU8(l:List Nat):List UInt8:=l.map λb=>UInt8.ofNat b
def toBA(l:List Nat):ByteArray:=⟨(toU8 l).toArray⟩
def sumB(l:List Nat):List Nat:=[crc (toU8 l) % 256,crc (toU8 l) / 256 % 256,crc (toU8 l) / 65536 % 256,crc (toU8 l) / 16777216 % 256]
def encV(O:LObj):Value:=if (hb O).length+4<=100000 then .tuple #[.string (toBA (hb O++sumB (hb O))),.int .i64 0] else .tuple #[.string ⟨#[]⟩,.int .i64 1]
theorem flat_snoc{α:Type}(f:α->List Nat)(l:List α)(j:Nat)(hj:j<l.length):(l.take (j+1)).flatMap f=(l.take j).flatMap f++f l[j]:=by
 rw[List.take_succ_eq_append_getElem hj,List.flatMap_append];simp
theorem vb_lt:∀(k n:Nat),n<128 ^ k->∀b∈vb n,b<256
 |0,n,h,b,hb=>by
  rw[vb_small (by simp at h;omega)]at hb;simp at hb h;omega
 |k+1,n,h,b,hb=>by
  by_cases h1:n<128
  ·rw[vb_small h1]at hb;simp at hb;omega
  ·rw[vb_big h1]at hb;rcases List.mem_cons.1 hb with rfl|hb
   ·omega
   ·exact vb_lt k (n / 128) (by rw[Nat.pow_succ]at h;omega) b hb
theorem vb_lt10(n:Nat)(h:n<18446744073709551616):∀b∈vb n,b<256:=vb_lt 10 n (by omega)
theorem nb_lt(s:ByteArray)(h:s.size<=16):∀b∈nb s,b<256:=by
 intro b hb;unfold nb tb at hb;rcases List.mem_append.1 hb with hb|hb
 ·exact vb_lt10 s.size (by omega) b hb
 ·obtain⟨x,-,rfl⟩:=List.mem_map.1 hb;exact x.toNat_lt
theorem wb_lt(x:LIns)(hG:insG x.op x.a x.alts=true)(h1:-9223372036854775808<=x.a)(h2:x.a<=9223372036854775807):∀b∈wb x,b<256:=by
 obtain⟨op,a,alts⟩:=x;simp only at hG h1 h2;have ho:0<=op∧op<21:=by
  unfold insG at hG;split at hG
  ·assumption
  ·cases hG
 obtain⟨k,rfl⟩:=Int.eq_ofNat_of_zero_le ho.1;have hk:k<21:=by omega
 have hR:=insG_row k hk a alts;rw[hG]at hR;intro b hb;unfold wb at hb;simp only[Int.toNat_natCast]at hb;rcases List.mem_cons.1 hb with rfl|hb2
 ·omega
 ·by_cases h0:(k:Int)=0
  ·rw[if_pos h0]at hb2;exact vb_lt10 (fA a) (by unfold fA;split<;>omega) b hb2
  ·rw[if_neg h0]at hb2;by_cases h17:(k:Int)=17
   ·rw[if_pos h17]at hb2;have h17':k=17:=by omega
    subst h17';rw[show rowN 17 0=3 from rfl]at hR;simp only[show ¬((3:Int)=1) by omega,show ¬((3:Int)=2) by omega,if_false,if_true]at hR;have h3:=hR.symm;simp only[Bool.and_eq_true,beq_iff_eq]at h3;rw[altsGood_eq]at h3;simp only[Bool.and_eq_true,decide_eq_true_eq]at h3;have h4:=(altsB_iff alts).1 h3.2.1;have h5:=altsB_len alts h3.2.1;rcases List.mem_append.1 hb2 with hb3|hb3
    ·exact vb_lt10 _ (by omega) b hb3
    ·unfold altBytes at hb3;obtain⟨y,hy,hb4⟩:=List.mem_flatMap.1 hb3;obtain⟨i,hi,rfl⟩:=List.mem_iff_getElem.1 hy;have h6:=h4.1 i hi hi;simp only[altOk,Bool.and_eq_true,decide_eq_true_eq]at h6;rcases List.mem_append.1 hb4 with hb5|hb5
     ·exact vb_lt10 _ (by omega) b hb5
     ·exact vb_lt10 _ (by omega) b hb5
   ·rw[if_neg h17]at hb2;by_cases h2':rowN k 0=2
    ·rw[if_pos h2']at hb2;exact vb_lt10 _ (by omega) b hb2
    ·rw[if_neg h2']at hb2;cases hb2
theorem hb_lt(O:LObj)(h:GoodO O)(hr:RangeO O)(hi:O.imps.length<140737488355328)(hg:O.globs.length<140737488355328):∀b∈hb O,b<256:=by
 intro b hb';unfold hb hdB at hb';simp only[List.mem_append]at hb';rcases hb' with((((hb'|hb')|hb')|hb')|hb')|hb'
 ·simp at hb';omega
 ·exact nb_lt _ h.name b hb'
 ·exact vb_lt10 _ (by omega) b hb'
 ·obtain⟨x,hx,hb'⟩:=List.mem_flatMap.1 hb';obtain⟨r0,r1,r2⟩:=h.imps x hx;unfold ib at hb';rcases List.mem_append.1 hb' with hb'|hb'
  ·exact nb_lt _ r0 b hb'
  ·exact vb_lt10 _ (by omega) b hb'
 ·exact vb_lt10 _ (by omega) b hb'
 ·obtain⟨x,hx,hb'⟩:=List.mem_flatMap.1 hb';obtain⟨r0,⟨r1,r2⟩,r3,r4⟩:=h.globs x hx;unfold gb at hb';simp only[List.mem_append]at hb';rcases hb' with(((hb'|hb')|hb')|hb')|hb'
  ·exact nb_lt _ r0 b hb'
  ·exact vb_lt10 _ (by omega) b hb'
  ·simp at hb';split at hb'<;>omega
  ·exact vb_lt10 _ (by omega) b hb'
  ·obtain⟨y,hy,hb'⟩:=List.mem_flatMap.1 hb';exact wb_lt y (r4 y hy) (hr x hx y hy).1 (hr x hx y hy).2 b hb'
theorem toU8_len(l:List Nat):(toU8 l).length=l.length:=List.length_map _
theorem conv_buf{w:World}{B g n c:Nat}{bs:List Nat}(h:Buf w B (.slice (some ⟨g,0,none⟩) n c) bs)(hn:n=bs.length)(hl:∀b∈bs,b<256):(convert 40 9 (.slice (some ⟨g,0,none⟩) n c)).run Tryz.prog w=.ok (.string (toBA bs)) w:=by
 have h1:=run_convert_bytes_back (P:=Tryz.prog) w 40 9 5 ⟨g,0,none⟩ c (toU8 bs) Tryz.underlying40 Tryz.underlying5 Tryz.underlying9 (λj hj=>by
  rw[toU8_len]at hj;refine Buf.cellsOf h j _ ?_;have hb:=hl _ (List.getElem_mem hj);simp only[u8s,toU8,List.getElem?_map,List.getElem_map,List.getElem?_eq_getElem hj,Option.map_some];rw[UInt8.toNat_ofNat',Nat.mod_eq_of_lt (by omega)])
 rw[toU8_len,<-hn]at h1;exact h1
theorem toBA_list(l:List Nat):(toBA l).data.toList=toU8 l:=by simp[toBA]
theorem toBA_size(l:List Nat):(toBA l).size=l.length:=by
 show(toBA l).data.size=_;rw[<-Array.length_toList,toBA_list,toU8_len]
end Go.Proofs.YtcpcplaeaimmpaaGreatDoor
