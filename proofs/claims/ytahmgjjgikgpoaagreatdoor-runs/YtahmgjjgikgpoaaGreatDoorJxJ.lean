import Derived.Test.YtahmgjjgikgpoaaGreatDoorJwJ
set_option maxRecDepth 100000
set_option maxHeartbeats 8000000
namespace Go.Proofs.YtahmgjjgikgpoaaGreatDoor
open Go.RowKit Go.Sort
structure Wf (ng:Nat) (st:MSt):Prop where
 ne:st.stack≠[]
 s:∀r∈st.stack,0<=r∧r<(st.cells.length:Int)
 c:∀x∈st.cells,((x.kind=5∨x.kind=2)->0<=x.left∧x.left<(st.cells.length:Int))∧(x.kind=4->0<=x.n∧x.n<(ng:Int))∧0<=x.kind∧x.kind<=5
 b:0<=st.fr.base∧st.fr.base<(st.stack.length:Int)
 sl:st.stack.length+(st.sm-st.su).toNat<=1000000000
 cl:st.cells.length<=1000000000
 m:Mtr st
def topC(st:MSt):MCl:=(st.cells[(st.stack.getLast?.getD 0).toNat]?).getD ⟨0,0,0,0,[]⟩
def undr(st:MSt):Int:=(st.stack.length:Int)-1-st.fr.base
def lookS(E V:Int->MSt->MSt):Nat->MSt->MSt
 |0,st=>stepS st
 |f+1,st=>
  if stepM st then
   let s1:=stepS st
   if (topC st).kind=5 then lookS E V f (setTopS (topC st).left s1)
   else if (topC st).kind=2 then lookS E V f (pushS (topC st).left s1)
   else if (topC st).kind=0 then stopS 7 s1
   else if (topC st).kind=4 then E (topC st).n s1
   else if 0<undr st then stopS 5 s1
   else V (st.stack.getLast?.getD 0) s1
  else stepS st
theorem stepS_ok{st:MSt}(h:stepM st=true):stepS st={st with su:=st.su+1}:=by unfold stepS;rw[if_pos h]
theorem lookS_stop(E V:Int->MSt->MSt){st:MSt}(h:stepM st=false):∀n,lookS E V n st=stepS st
 |0=>rfl
 |n+1=>by rw[lookS,h];rfl
theorem lookS_go(E V:Int->MSt->MSt){st:MSt}(h:stepM st=true):lookS E V (st.sm-st.su).toNat st=(if (topC st).kind=5 then lookS E V (st.sm-(st.su+1)).toNat (setTopS (topC st).left {st with su:=st.su+1})
 else if (topC st).kind=2 then lookS E V (st.sm-(st.su+1)).toNat (pushS (topC st).left {st with su:=st.su+1})
 else if (topC st).kind=0 then stopS 7 {st with su:=st.su+1}
 else if (topC st).kind=4 then E (topC st).n {st with su:=st.su+1}
 else if 0<undr st then stopS 5 {st with su:=st.su+1}
 else V (st.stack.getLast?.getD 0) {st with su:=st.su+1}):=by
 have h1:1<=st.sm-st.su:=by simpa[stepM]using h
 obtain⟨n,hn⟩:∃n,(st.sm-st.su).toNat=n+1:=⟨(st.sm-st.su).toNat-1,by omega⟩;have hn2:(st.sm-(st.su+1)).toNat=n:=by omega
 rw[hn,hn2,lookS,if_pos h,stepS_ok h]
theorem topC_eq{st:MSt}{s:List Int}{r:Nat}(h:st.stack=s++[(r:Int)])(hr:r<st.cells.length):topC st=st.cells[r]:=by
 unfold topC;rw[h];simp[hr]
theorem Wf.step{ng:Nat}{st:MSt}(h:Wf ng st)(h1:1<=st.sm-st.su):Wf ng {st with su:=st.su+1}:=by
 obtain⟨a,b,c,d,e,f,m⟩:=h;have:=m.su;have:=m.sm;exact⟨a,b,c,d,by simp only at e ⊢;omega,f,⟨by simp only;omega,m.sm,m.mu,m.mm⟩⟩
theorem Wf.top{ng:Nat}{st:MSt}{s:List Int}{r q:Int}(h:Wf ng st)(hs:st.stack=s++[r])(hq:0<=q∧q<(st.cells.length:Int)):Wf ng (setTopS q st)∧(setTopS q st).stack=s++[q]:=by
 have e:(setTopS q st).stack=s++[q]:=by unfold setTopS;rw[hs];simp
 obtain⟨a,b,c,d,e2,f,m⟩:=h;have hl:(setTopS q st).stack.length=st.stack.length:=by rw[e,hs];simp
 refine⟨⟨by rw[e];simp,λx hx=>?_,c,by rw[hl];exact d,by rw[hl];exact e2,f,⟨m.su,m.sm,m.mu,m.mm⟩⟩,e⟩;rw[e]at hx;rcases List.mem_append.1 hx with hx|hx
 ·exact b x (by rw[hs];exact List.mem_append_left _ hx)
 ·obtain rfl:=List.mem_singleton.1 hx;exact hq
theorem Wf.push{ng:Nat}{st:MSt}{q:Int}(h:Wf ng st)(h1:1<=st.sm-st.su)(hq:0<=q∧q<(st.cells.length:Int)):Wf ng (pushS q {st with su:=st.su+1}):=by
 obtain⟨a,b,c,d,e,f,m⟩:=h;have:=m.su;have:=m.sm;refine⟨by simp[pushS],λx hx=>?_,c,by simp only[pushS,List.length_append,List.length_cons,List.length_nil];omega,by simp only[pushS,List.length_append,List.length_cons,List.length_nil];omega,f,⟨by simp only[pushS];omega,m.sm,m.mu,m.mm⟩⟩;simp only[pushS]at hx;rcases List.mem_append.1 hx with hx|hx
 ·exact b x hx
 ·obtain rfl:=List.mem_singleton.1 hx;exact hq
def LkJ(lo M Pb ng:Nat)(E V:Int->MSt->MSt)(I:MSt->Prop)(B:List Nat)(w:World)(res:MSt)(w1:World)(st1:MSt):Prop:=∃B1,MM lo w1 M Pb st1 B1∧AG B w w1∧(∀b∈B1,b∈B∨w.heap.size<=b)∧Wf ng st1∧I st1∧res=lookS E V (st1.sm-st1.su).toNat st1
def suOf(M:Nat)(w:World):Int:=intOf ((w.cell? ⟨M,7,none⟩).getD .nilIface)
structure Pg (lo:Nat) (w:World) (Pb ng:Nat) (gp:Option Addr) (gc:Nat) (G:Nat->Int×Option Addr×Nat×Nat):Prop where
 lt:Pb<lo
 c:w.cell? ⟨Pb,0,none⟩=some (.slice gp ng gc)
 g:∀i,i<ng->∃b o,b<lo∧gp=some ⟨b,o,none⟩∧w.cell? ⟨b,o+i*2,none⟩=some (.int .i64 (G i).1)∧w.cell? ⟨b,o+i*2+1,none⟩=some (.slice (G i).2.1 (G i).2.2.1 (G i).2.2.2)
theorem Pg.low{lo:Nat}{w w':World}{Pb ng:Nat}{gp:Option Addr}{gc:Nat}{G:Nat->Int×Option Addr×Nat×Nat}(h:Pg lo w Pb ng gp gc G)(hb:Below lo w w'):Pg lo w' Pb ng gp gc G:=⟨h.lt,cell_same (hb.block _ h.lt) h.c,λi hi=>by
 obtain⟨b,o,h1,h2,h3,h4⟩:=h.g i hi;exact⟨b,o,h1,h2,cell_same (hb.block _ h1) h3,cell_same (hb.block _ h1) h4⟩⟩
theorem look_any2{lo:Nat}{w:World}{M Pb ng:Nat}{st:MSt}{B:List Nat}{gp:Option Addr}{gc:Nat}{G:Nat->Int×Option Addr×Nat×Nat}(E V:Int->MSt->MSt)(I:MSt->Prop)(h:MM lo w M Pb st B)(hP:Pg lo w Pb ng gp gc G)(hW:Wf ng st)(hI:I st)
 (hIs:∀st,I st->I {st with su:=st.su+1}) (hIt:∀st x,I st->I (setTopS x st)) (hIp:∀st x,I st->I (pushS x st))
 (hE:∀i,i<ng->∀w' st' B',MM lo w' M Pb st' B'->Below lo w w'->I st'->Wf ng st'->(0<=st'.fr.base∧st'.fr.base<(st'.stack.length:Int)∧st'.stack.length<=1000000000)->Calls Tryz.prog 101 #[.pointer (some ⟨M,0,none⟩),.agg #[.int .i64 (G i).1,.slice (G i).2.1 (G i).2.2.1 (G i).2.2.2]] w' λe w''=>MRes lo M Pb B' w' (E (i:Int) st') (.tuple #[]) e w'')
 (hV:∀x w' st' B',MM lo w' M Pb st' B'->I st'->Wf ng st'->(0<=st'.fr.base∧st'.fr.base<(st'.stack.length:Int)∧st'.stack.length<=1000000000)->Calls Tryz.prog 103 #[.pointer (some ⟨M,0,none⟩),.int .i32 x] w' λe w''=>MRes lo M Pb B' w' (V x st') (.tuple #[]) e w''):
 Calls Tryz.prog 76 #[.pointer (some ⟨M,0,none⟩)] w λe w'=>MRes lo M Pb B w (lookS E V (st.sm-st.su).toNat st) (.tuple #[]) e w':=by
 have HE:=hid hE;have HV:=hid hV;have HIs:=hid hIs;have HIt:=hid hIt;have HIp:=hid hIp;have HPG:=hid hP;have hlz:lo<=w.heap.size:=by
  obtain⟨cs,ds,cv,sv,kv,dv,tv,h,rfl⟩:=h;exact h.lz
 have hBl:∀b∈B,lo<=b:=by
  obtain⟨cs,ds,cv,sv,kv,dv,tv,h,rfl⟩:=h;exact λb hb=>(h.rg b hb).1
 have HBL:=hid hBl;obtain⟨res,hres⟩:∃res,lookS E V (st.sm-st.su).toNat st=res:=⟨_,rfl⟩;have HJ0:Hid (LkJ lo M Pb ng E V I B w res w st):=⟨B,h,AG.refl _ _,λb hb=>Or.inl hb,hW,hI,hres.symm⟩;rw[hres];obtain⟨sm,hsm⟩:∃sm,st.sm=sm:=⟨_,rfl⟩;obtain⟨J,hJ⟩:∃J:Act->World->Prop,J=λa' w'=>∃(st1:MSt) (u1 u2 u3 u4 u5 u6 u7 u8 u9 u10 u11 u12 u13 u14 u15 u16 u17 u18 u19 u20 u21 u22 u23 u24 u25 u26 u27 u28 u29 u30 u31 u32 u33 u34 u35 u36 u37 u38 u39 u40 u41 u42 u43 u44 u45 u46 u47 u48 u49 u50 u51 u52 u53 u54 u55 u56 u57 u58 u59 u60 u61 u62 u63 u64 u65 u66 u67:Value),a'={tmps:=#[.pointer (some ⟨M,0,none⟩),u1,u2,u3,u4,u5,u6,u7,u8,u9,u10,u11,u12,u13,u14,u15,u16,u17,u18,u19,u20,u21,u22,u23,u24,u25,u26,u27,u28,u29,u30,u31,u32,u33,u34,u35,u36,u37,u38,u39,u40,u41,u42,u43,u44,u45,u46,u47,u48,u49,u50,u51,u52,u53,u54,u55,u56,u57,u58,u59,u60,u61,u62,u63,u64,u65,u66,u67],defers:=[]}∧st1.sm=sm∧Hid (LkJ lo M Pb ng E V I B w res w' st1):=⟨_,rfl⟩;clear h hW hI hE hV hIs hIt hIp hres hP hBl;go_enter Tryz.func76,Tryz.ntmps76;refine wp_scope_jumps 0 J (λ_ w'=>(sm-suOf M w').toNat) rfl ?first ?pass
 case first=>
  refine wp_seq (wp_label ?_);refine Code.wp_mono ?mono ((?H:∀a1 w1,J a1 w1->Code.wp Tryz.prog _ (Exit.jump 0 (λa'' w''=>J a'' w''∧(sm-suOf M w'').toNat<(sm-suOf M w1).toNat) (bodyPost Tryz.prog Tryz.f76 (λe w'=>MRes lo M Pb B w res (.tuple #[]) e w'))) a1 w1) _ _ (by rw[hJ];exact⟨st,_,_,_,_,_,_,_,_,_,_,_,_,_,_,_,_,_,_,_,_,_,_,_,_,_,_,_,_,_,_,_,_,_,_,_,_,_,_,_,_,_,_,_,_,_,_,_,_,_,_,_,_,_,_,_,_,_,_,_,_,_,_,_,_,_,_,_,rfl,hsm,HJ0⟩));case mono=>
   intro e a w h;cases e with
   |goto l=>exact⟨h.1,h.2.1⟩
   |_=>exact h
  case H=>
  intro a1 w1 hj1;rw[hJ]at hj1;obtain⟨st1,u1,u2,u3,u4,u5,u6,u7,u8,u9,u10,u11,u12,u13,u14,u15,u16,u17,u18,u19,u20,u21,u22,u23,u24,u25,u26,u27,u28,u29,u30,u31,u32,u33,u34,u35,u36,u37,u38,u39,u40,u41,u42,u43,u44,u45,u46,u47,u48,u49,u50,u51,u52,u53,u54,u55,u56,u57,u58,u59,u60,u61,u62,u63,u64,u65,u66,u67,rfl,hsm1,HS⟩:=hj1;obtain⟨B1,hM1,hA1,hB1,hW1,hI1,hres1⟩:=HS.out;have hz1:=hA1.size;have HST:=hid (step_any hM1 hW1.m);have hsu1:suOf M w1=st1.su:=by
   obtain⟨cs,ds,cv,sv,kv,dv,tv,hM1,-⟩:=hM1;unfold suOf;rw[hM1.m.at 7 rfl];rfl
  have HSU1:=hid hsu1;clear hsu1;have HA1:=hid hA1;have HB1:=hid hB1;have HW1:=hid hW1;have HI1:=hid hI1;have HRS:=hid hres1;clear HS hM1 hA1 hB1 hW1 hI1 hres1 HJ0;cases hsb:stepM st1 with
  |false=>
   rw[hsb]at HST;have HR1:Hid (res=stepS st1):=by show _=_;rw[HRS.out,lookS_stop _ _ hsb]
   clear hsb;go_wp2_with (first
    |(go_at_call 55;refine HST.out.mono ?_;intro e w2 hr;obtain⟨rfl,-⟩:=id hr;have HRR:=hid hr;clear hr))
   simp only[Exit.jump];refine bodyPost_ret (results_none rfl _ _ _) rfl ?_;rw[HR1.out];exact HRR.out.of HA1.out HB1.out rfl
  |true=>
   rw[hsb,stepS_ok hsb]at HST;have hgo:=lookS_go E V hsb;have hst1:1<=st1.sm-st1.su:=by simpa[stepM]using hsb
   rw[<-HRS.out]at hgo;clear hsb;obtain⟨s,r0,hst⟩:∃s r0,st1.stack=s++[r0]:=⟨st1.stack.dropLast,st1.stack.getLast HW1.out.ne,(List.dropLast_concat_getLast _).symm⟩;have hr0:=HW1.out.s r0 (by rw[hst];simp);obtain⟨r,rfl⟩:∃r:Nat,r0=(r:Int):=⟨r0.toNat,by omega⟩;have hr:r<st1.cells.length:=by omega
   rw[topC_eq hst hr]at hgo;have HGO:=hid hgo;have hck:=HW1.out.c st1.cells[r] (List.getElem_mem _);have HST1:=hid hst;have hsl:=HW1.out.sl;have hcl:=HW1.out.cl;have hmt:=HW1.out.m;have hss:=hmt.su;have hbs:=HW1.out.b;clear hgo hmt;go_upto_region 1 with(first
    |(go_at_call 55;refine HST.out.mono ?_;rintro e w2 ⟨rfl,hA2,B2,⟨cs,ds,cv,sv,kv,dv,tv,hM2,hB2e⟩,hB2⟩))
   subst hB2e;have hA:=HA1.out.trans hA2 HB1.out;have hBB:∀b∈mB M cv sv dv tv,b∈B∨w.heap.size<=b:=λb hb=>(hB2 b hb).elim (HB1.out b) λh=>by right;omega
   have hz2:=hA.size;obtain⟨g,c,hsv,-,hsc⟩:=stack_slice hM2.sk (by show 0<st1.stack.length;rw[hst];simp);obtain⟨cg,cc,fp,fn,fc,hcv,k0,k1,k2,k3,k4,-⟩:=hM2.cellAt (r:=r) hr;subst hsv hcv;have HM2:=hid hM2;have HA:=hid hA;have HBB:=hid hBB;have hlenS:({st1 with su:=st1.su+1}:MSt).stack.length=st1.stack.length:=rfl;have HT:=hid (top_any 0 (hM2.m.at 2 rfl) (by rw[hlenS,hst];simp) (by rw[hlenS];omega));have et:w2.drew.drew.cell? ⟨g,st1.stack.length-1,none⟩=some (.int .i32 (r:Int)):=by
    show w2.cell? _=_;rw[hsc _ (by rw[hlenS,hst];simp)];show(rfC st1.stack)[st1.stack.length-1]?=_;rw[hst];simp[rfC]
   have e1:w2.drew.drew.cell? ⟨M,1,none⟩=some (.slice (some ⟨cg,0,none⟩) st1.cells.length cc):=hM2.m.at 1 rfl;have x0:w2.drew.drew.cell? ⟨cg,r*5,none⟩=some (.int .u8 st1.cells[r].kind):=k0;have x1:w2.drew.drew.cell? ⟨cg,r*5+1,none⟩=some (.int .i64 st1.cells[r].n):=k1;have x2:w2.drew.drew.cell? ⟨cg,r*5+2,none⟩=some (.int .i32 st1.cells[r].left):=k2;have ri0:(0:Int)<=(r:Int):=by omega
   have ri1:(r:Int)<(st1.cells.length:Int):=by omega
   clear hM2 hA hBB hA2 hB2 hsc k0 k1 k2 k3 k4 HST hst hr0;rw[hlenS]at HT;clear hlenS;generalize hkd:st1.cells[r].kind=kd at*;generalize hlf:st1.cells[r].left=lf at*;generalize hnn:st1.cells[r].n=nn at*;go_upto_region 2 with(first
    |(go_at_call 99;refine HT.out.mono ?_;rintro e w3 ⟨rfl,rfl⟩))
   go_region
   have hM3:=HM2.out.drew.drew;have HM3:=hid hM3;have hA3:AG B w w2.drew.drew:=HA.out.then (Below.refl _ _).drew.drew;have HA3:=hid hA3;have hWs:=HW1.out.step hst1;have hMM3:MM lo w2.drew.drew M Pb {st1 with su:=st1.su+1} (mB M (.slice (some ⟨cg,0,none⟩) st1.cells.length cc) (.slice (some ⟨g,0,none⟩) st1.stack.length c) dv tv):=⟨_,_,_,_,_,_,_,hM3,rfl⟩;have HMM:=hid hMM3;have hIs3:=HIs.out _ HI1.out;by_cases h5:kd=5
   ·subst h5;have HGO2:Hid (res=lookS E V (st1.sm-(st1.su+1)).toNat (setTopS lf {st1 with su:=st1.su+1})):=by
     have:=HGO.out;rw[if_pos rfl]at this;exact this
    have hlf1:=hck.1 (Or.inl rfl);have ff:=hM3.sk.frozenAt (st1.stack.length-1);have HJ:Hid (LkJ lo M Pb ng E V I B w res (w2.setCell ⟨g,st1.stack.length-1,none⟩ (.int .i32 lf)).drew.drew (setTopS lf {st1 with su:=st1.su+1})∧suOf M (w2.setCell ⟨g,st1.stack.length-1,none⟩ (.int .i32 lf)).drew.drew=st1.su+1):=by
     obtain⟨hW4,hs4⟩:=hWs.top HST1.out hlf1;have hn1:st1.stack.length-1=s.length:=by rw[HST1.out];simp
     have hso:=(HM2.out.sk.stored (st1.stack.length-1) (.int .i32 lf)).1;obtain⟨t1,t2⟩:=HM2.out.rowS (AG.cell (j:=st1.stack.length-1) (v:=.slice (some ⟨g,0,none⟩) st1.stack.length c) rfl (.int .i32 lf)) (s':=s++[lf]) (by
      have e:(s++[lf]).length=st1.stack.length:=by rw[HST1.out];simp
      rw[e,<-rfC_setLast s (r:Int) lf,<-hn1];have e2:({st1 with su:=st1.su+1}:MSt).stack=s++[(r:Int)]:=HST1.out;rw[<-e2];exact hso)
     refine⟨⟨_,⟨cs,ds,_,_,kv,dv,tv,?_,rfl⟩,(HA.out.trans t2 HBB.out).then (Below.refl _ _).drew.drew,HBB.out,hW4,HIt.out _ _ hIs3,HGO2.out⟩,?_⟩
     ·have e3:setTopS lf {st1 with su:=st1.su+1}={({st1 with su:=st1.su+1}:MSt) with stack:=s++[lf]}:=by
       unfold setTopS;rw[show({st1 with su:=st1.su+1}:MSt).stack=s++[(r:Int)] from HST1.out];simp
      rw[e3];exact t1.drew.drew
     ·unfold suOf;rw[t1.drew.drew.m.at 7 rfl];rfl
    clear HGO hWs hIs3 hM3 hA3 hMM3 HM2 HA HBB;go_wp2;go_step3
    refine⟨rfl,?_,?_⟩
    ·rw[hJ];exact⟨setTopS lf {st1 with su:=st1.su+1},_,_,_,_,_,_,_,_,_,_,_,_,_,_,_,_,_,_,_,_,_,_,_,_,_,_,_,_,_,_,_,_,_,_,_,_,_,_,_,_,_,_,_,_,_,_,_,_,_,_,_,_,_,_,_,_,_,_,_,_,_,_,_,_,_,_,_,rfl,hsm1,HJ.out.1⟩
    ·rw[HJ.out.2,HSU1.out];omega
   ·by_cases h2:kd=2
    ·subst h2;have HGO2:Hid (res=lookS E V (st1.sm-(st1.su+1)).toNat (pushS lf {st1 with su:=st1.su+1})):=by
      have:=HGO.out;rw[if_neg (by omega),if_pos rfl]at this;exact this
     have hlf1:=hck.1 (Or.inr rfl);have HPU:=hid (push_any lf hMM3 (by show st1.stack.length<=_;omega));have HJ:Hid (∀w5 B5,AG (mB M (.slice (some ⟨cg,0,none⟩) st1.cells.length cc) (.slice (some ⟨g,0,none⟩) st1.stack.length c) dv tv) w2.drew.drew w5->MM lo w5 M Pb (pushS lf {st1 with su:=st1.su+1}) B5->(∀b∈B5,b∈mB M (.slice (some ⟨cg,0,none⟩) st1.cells.length cc) (.slice (some ⟨g,0,none⟩) st1.stack.length c) dv tv∨w2.drew.drew.heap.size<=b)->LkJ lo M Pb ng E V I B w res w5 (pushS lf {st1 with su:=st1.su+1})∧suOf M w5=st1.su+1):=by
      intro w5 B5 hA5 hM5 hB5;refine⟨⟨B5,hM5,HA3.out.trans hA5 HBB.out,λb hb=>(hB5 b hb).elim (HBB.out b) λh=>Or.inr (Nat.le_trans hz2 h),HW1.out.push hst1 hlf1,HIp.out _ _ hIs3,HGO2.out⟩,?_⟩;obtain⟨cs,ds,cv,sv,kv,dv,tv,hM5,-⟩:=hM5;unfold suOf;rw[hM5.m.at 7 rfl];rfl
     clear HGO hWs hIs3 hM3 hA3 hMM3 HM2 HA HBB;go_wp2_with (first
      |(go_at_call 100;refine HPU.out.mono ?_;rintro e w5 ⟨rfl,hA5,B5,hM5,hB5⟩;have HJ5:=hid (HJ.out w5 B5 hA5 hM5 hB5);clear hA5 hM5 hB5))
     go_step3
     refine⟨rfl,?_,?_⟩
     ·rw[hJ];exact⟨pushS lf {st1 with su:=st1.su+1},_,_,_,_,_,_,_,_,_,_,_,_,_,_,_,_,_,_,_,_,_,_,_,_,_,_,_,_,_,_,_,_,_,_,_,_,_,_,_,_,_,_,_,_,_,_,_,_,_,_,_,_,_,_,_,_,_,_,_,_,_,_,_,_,_,_,_,rfl,hsm1,HJ5.out.1⟩
     ·rw[HJ5.out.2,HSU1.out];omega
    ·have HFIN:Hid (∀(stx:MSt) w5 e,MRes lo M Pb (mB M (.slice (some ⟨cg,0,none⟩) st1.cells.length cc) (.slice (some ⟨g,0,none⟩) st1.stack.length c) dv tv) w2.drew.drew stx (.tuple #[]) e w5->MRes lo M Pb B w stx (.tuple #[]) (.returned (.tuple #[])) w5):=λstx w5 e hr=>hr.of HA3.out HBB.out rfl;by_cases h0:kd=0
     ·subst h0;have HGO2:Hid (res=stopS 7 {st1 with su:=st1.su+1}):=by
       have:=HGO.out;rw[if_neg (by omega),if_neg (by omega),if_pos rfl]at this;exact this
      have HSP:=hid (stop_any 7 hMM3);clear HGO hWs hIs3 hM3 hA3 hMM3 HM2 HA HBB;go_wp2_with (first
       |(go_at_call 79;refine HSP.out.mono ?_;intro e w5 hr;obtain⟨rfl,-⟩:=id hr;have HRR:=hid (HFIN.out _ _ _ hr);clear hr))
      simp only[Exit.jump];refine bE ?_;rw[HGO2.out];exact HRR.out
     ·have hbs2:0<=({st1 with su:=st1.su+1}:MSt).fr.base∧({st1 with su:=st1.su+1}:MSt).fr.base<(({st1 with su:=st1.su+1}:MSt).stack.length:Int)∧({st1 with su:=st1.su+1}:MSt).stack.length<=1000000000:=⟨hbs.1,hbs.2,by show st1.stack.length<=_;omega⟩;by_cases h4:kd=4
      ·subst h4;have HGO2:Hid (res=E nn {st1 with su:=st1.su+1}):=by
        have:=HGO.out;rw[if_neg (by omega),if_neg (by omega),if_neg (by omega),if_pos rfl]at this;exact this
       obtain⟨hn0,hn1⟩:=hck.2.1 rfl;obtain⟨gi,rfl⟩:∃gi:Nat,nn=(gi:Int):=⟨nn.toNat,by omega⟩;have hgi:gi<ng:=by omega
       have hlow3:Below lo w w2.drew.drew:=hA3.low HBL.out hlz;have hpg:=HPG.out.low hlow3;obtain⟨gb,go,-,hgp,z0,z1⟩:=hpg.g gi hgi;have HEN:=hid (HE.out gi hgi w2.drew.drew.drew _ _ (hMM3.keep (Below.refl _ _).drew) hlow3.drew hIs3 hWs hbs2);have y0:w2.drew.drew.drew.cell? ⟨M,0,none⟩=some (.pointer (some ⟨Pb,0,none⟩)):=hM3.m.at 0 rfl;have y1:w2.drew.drew.drew.cell? ⟨Pb,0,none⟩=some (.slice gp ng gc):=hpg.c;have y2:w2.drew.drew.drew.cell? ⟨cg,r*5+1,none⟩=some (.int .i64 (gi:Int)):=x1;have y3:w2.drew.drew.drew.cell? ⟨gb,go+gi*2,none⟩=some (.int .i64 (G gi).1):=z0;have y4:w2.drew.drew.drew.cell? ⟨gb,go+gi*2+1,none⟩=some (.slice (G gi).2.1 (G gi).2.2.1 (G gi).2.2.2):=z1;have gi0:(0:Int)<=(gi:Int):=by omega
       have gi1:(gi:Int)<(ng:Int):=by omega
       subst hgp;clear HGO hWs hIs3 hM3 hA3 hMM3 HM2 HA HBB hpg z0 z1;go_upto_region 14 with fail
       go_region_with (go_at_call 101;refine HEN.out.mono ?_;intro e w5 hr;obtain⟨rfl,-⟩:=id hr;have HRR:=hid (HFIN.out _ _ _ (hr.of (AG.of_below (Below.refl _ _).drew) (λb hb=>Or.inl hb) (e':=.returned (.tuple #[])) (r':=.tuple #[]) rfl));clear hr)
       all_goals(try go_wp2)
       all_goals
        simp only[Exit.jump];refine bE ?_;rw[HGO2.out];exact HRR.out
      ·have HU:=hid (under_any hMM3 (by show st1.stack.length<=_;omega) ⟨hbs.1,by show st1.fr.base<=_;omega⟩);have hund:undr st1=(st1.stack.length:Int)-1-st1.fr.base:=rfl;have HUD:=hid hund;by_cases hu:0<undr st1
       ·have HGO2:Hid (res=stopS 5 {st1 with su:=st1.su+1}):=by
         have:=HGO.out;rw[if_neg (by omega),if_neg (by omega),if_neg (by omega),if_neg (by omega),if_pos hu]at this;exact this
        have HSP:=hid (stop_any 5 (hMM3.keep (Below.refl _ _).drew));have hui:(0:Int)<(st1.stack.length:Int)-1-st1.fr.base:=hu;clear HGO hWs hIs3 hM3 hA3 hMM3 HM2 HA HBB hund hu;obtain⟨d,hd⟩:∃d,(st1.stack.length:Int)-1-st1.fr.base=d:=⟨_,rfl⟩;have HU2:Hid (Calls Tryz.prog 102 #[.pointer (some ⟨M,0,none⟩)] w2.drew.drew λe w'=>e=.returned (.int .i64 d)∧w'=w2.drew.drew.drew):=by
         have:=HU.out;rw[show((({st1 with su:=st1.su+1}:MSt).stack.length:Int)-1-({st1 with su:=st1.su+1}:MSt).fr.base)=d from hd]at this;exact this
        rw[hd]at hui;clear HU hd;go_wp2_with (first
         |(go_at_call 102;refine HU2.out.mono ?_;rintro e w4 ⟨rfl,rfl⟩)
         |(go_at_call 79;refine HSP.out.mono ?_;intro e w5 hr;obtain⟨rfl,-⟩:=id hr;have HRR:=hid (HFIN.out _ _ _ (hr.of (AG.of_below (Below.refl _ _).drew) (λb hb=>Or.inl hb) (e':=.returned (.tuple #[])) (r':=.tuple #[]) rfl));clear hr))
        simp only[Exit.jump];refine bE ?_;rw[HGO2.out];exact HRR.out
       ·have HGO2:Hid (res=V (r:Int) {st1 with su:=st1.su+1}):=by
         have:=HGO.out;rw[if_neg (by omega),if_neg (by omega),if_neg (by omega),if_neg (by omega),if_neg hu,show st1.stack.getLast?.getD 0=(r:Int) by rw[HST1.out];simp]at this;exact this
        have HGV:=hid (HV.out (r:Int) _ _ _ (hMM3.keep (Below.refl _ _).drew) hIs3 hWs hbs2);have hui:¬(0:Int)<(st1.stack.length:Int)-1-st1.fr.base:=hu;have et3:w2.drew.drew.drew.cell? ⟨g,st1.stack.length-1,none⟩=some (.int .i32 (r:Int)):=et;clear HGO hWs hIs3 hM3 hA3 hMM3 HM2 HA HBB hund hu;obtain⟨d,hd⟩:∃d,(st1.stack.length:Int)-1-st1.fr.base=d:=⟨_,rfl⟩;have HU2:Hid (Calls Tryz.prog 102 #[.pointer (some ⟨M,0,none⟩)] w2.drew.drew λe w'=>e=.returned (.int .i64 d)∧w'=w2.drew.drew.drew):=by
         have:=HU.out;rw[show((({st1 with su:=st1.su+1}:MSt).stack.length:Int)-1-({st1 with su:=st1.su+1}:MSt).fr.base)=d from hd]at this;exact this
        rw[hd]at hui;clear HU hd;go_wp2_with (first
         |(go_at_call 102;refine HU2.out.mono ?_;rintro e w4 ⟨rfl,rfl⟩)
         |(go_at_call 103;refine HGV.out.mono ?_;intro e w5 hr;obtain⟨rfl,-⟩:=id hr;have HRR:=hid (HFIN.out _ _ _ (hr.of (AG.of_below (Below.refl _ _).drew) (λb hb=>Or.inl hb) (e':=.returned (.tuple #[])) (r':=.tuple #[]) rfl));clear hr))
        simp only[Exit.jump];refine bE ?_;rw[HGO2.out];exact HRR.out
 case pass=>
  intro a1 w1 hj1;refine wp_seq (wp_skip ?_);rw[hJ]at hj1;obtain⟨st1,u1,u2,u3,u4,u5,u6,u7,u8,u9,u10,u11,u12,u13,u14,u15,u16,u17,u18,u19,u20,u21,u22,u23,u24,u25,u26,u27,u28,u29,u30,u31,u32,u33,u34,u35,u36,u37,u38,u39,u40,u41,u42,u43,u44,u45,u46,u47,u48,u49,u50,u51,u52,u53,u54,u55,u56,u57,u58,u59,u60,u61,u62,u63,u64,u65,u66,u67,rfl,hsm1,HS⟩:=hj1;obtain⟨B1,hM1,hA1,hB1,hW1,hI1,hres1⟩:=HS.out;have hz1:=hA1.size;have HST:=hid (step_any hM1 hW1.m);have hsu1:suOf M w1=st1.su:=by
   obtain⟨cs,ds,cv,sv,kv,dv,tv,hM1,-⟩:=hM1;unfold suOf;rw[hM1.m.at 7 rfl];rfl
  have HSU1:=hid hsu1;clear hsu1;have HA1:=hid hA1;have HB1:=hid hB1;have HW1:=hid hW1;have HI1:=hid hI1;have HRS:=hid hres1;clear HS hM1 hA1 hB1 hW1 hI1 hres1 HJ0;cases hsb:stepM st1 with
  |false=>
   rw[hsb]at HST;have HR1:Hid (res=stepS st1):=by show _=_;rw[HRS.out,lookS_stop _ _ hsb]
   clear hsb;go_wp2_with (first
    |(go_at_call 55;refine HST.out.mono ?_;intro e w2 hr;obtain⟨rfl,-⟩:=id hr;have HRR:=hid hr;clear hr))
   simp only[Exit.jump];refine bodyPost_ret (results_none rfl _ _ _) rfl ?_;rw[HR1.out];exact HRR.out.of HA1.out HB1.out rfl
  |true=>
   rw[hsb,stepS_ok hsb]at HST;have hgo:=lookS_go E V hsb;have hst1:1<=st1.sm-st1.su:=by simpa[stepM]using hsb
   rw[<-HRS.out]at hgo;clear hsb;obtain⟨s,r0,hst⟩:∃s r0,st1.stack=s++[r0]:=⟨st1.stack.dropLast,st1.stack.getLast HW1.out.ne,(List.dropLast_concat_getLast _).symm⟩;have hr0:=HW1.out.s r0 (by rw[hst];simp);obtain⟨r,rfl⟩:∃r:Nat,r0=(r:Int):=⟨r0.toNat,by omega⟩;have hr:r<st1.cells.length:=by omega
   rw[topC_eq hst hr]at hgo;have HGO:=hid hgo;have hck:=HW1.out.c st1.cells[r] (List.getElem_mem _);have HST1:=hid hst;have hsl:=HW1.out.sl;have hcl:=HW1.out.cl;have hmt:=HW1.out.m;have hss:=hmt.su;have hbs:=HW1.out.b;clear hgo hmt;go_upto_region 1 with(first
    |(go_at_call 55;refine HST.out.mono ?_;rintro e w2 ⟨rfl,hA2,B2,⟨cs,ds,cv,sv,kv,dv,tv,hM2,hB2e⟩,hB2⟩))
   subst hB2e;have hA:=HA1.out.trans hA2 HB1.out;have hBB:∀b∈mB M cv sv dv tv,b∈B∨w.heap.size<=b:=λb hb=>(hB2 b hb).elim (HB1.out b) λh=>by right;omega
   have hz2:=hA.size;obtain⟨g,c,hsv,-,hsc⟩:=stack_slice hM2.sk (by show 0<st1.stack.length;rw[hst];simp);obtain⟨cg,cc,fp,fn,fc,hcv,k0,k1,k2,k3,k4,-⟩:=hM2.cellAt (r:=r) hr;subst hsv hcv;have HM2:=hid hM2;have HA:=hid hA;have HBB:=hid hBB;have hlenS:({st1 with su:=st1.su+1}:MSt).stack.length=st1.stack.length:=rfl;have HT:=hid (top_any 0 (hM2.m.at 2 rfl) (by rw[hlenS,hst];simp) (by rw[hlenS];omega));have et:w2.drew.drew.cell? ⟨g,st1.stack.length-1,none⟩=some (.int .i32 (r:Int)):=by
    show w2.cell? _=_;rw[hsc _ (by rw[hlenS,hst];simp)];show(rfC st1.stack)[st1.stack.length-1]?=_;rw[hst];simp[rfC]
   have e1:w2.drew.drew.cell? ⟨M,1,none⟩=some (.slice (some ⟨cg,0,none⟩) st1.cells.length cc):=hM2.m.at 1 rfl;have x0:w2.drew.drew.cell? ⟨cg,r*5,none⟩=some (.int .u8 st1.cells[r].kind):=k0;have x1:w2.drew.drew.cell? ⟨cg,r*5+1,none⟩=some (.int .i64 st1.cells[r].n):=k1;have x2:w2.drew.drew.cell? ⟨cg,r*5+2,none⟩=some (.int .i32 st1.cells[r].left):=k2;have ri0:(0:Int)<=(r:Int):=by omega
   have ri1:(r:Int)<(st1.cells.length:Int):=by omega
   clear hM2 hA hBB hA2 hB2 hsc k0 k1 k2 k3 k4 HST hst hr0;rw[hlenS]at HT;clear hlenS;generalize hkd:st1.cells[r].kind=kd at*;generalize hlf:st1.cells[r].left=lf at*;generalize hnn:st1.cells[r].n=nn at*;go_upto_region 2 with(first
    |(go_at_call 99;refine HT.out.mono ?_;rintro e w3 ⟨rfl,rfl⟩))
   go_region
   have hM3:=HM2.out.drew.drew;have HM3:=hid hM3;have hA3:AG B w w2.drew.drew:=HA.out.then (Below.refl _ _).drew.drew;have HA3:=hid hA3;have hWs:=HW1.out.step hst1;have hMM3:MM lo w2.drew.drew M Pb {st1 with su:=st1.su+1} (mB M (.slice (some ⟨cg,0,none⟩) st1.cells.length cc) (.slice (some ⟨g,0,none⟩) st1.stack.length c) dv tv):=⟨_,_,_,_,_,_,_,hM3,rfl⟩;have HMM:=hid hMM3;have hIs3:=HIs.out _ HI1.out;by_cases h5:kd=5
   ·subst h5;have HGO2:Hid (res=lookS E V (st1.sm-(st1.su+1)).toNat (setTopS lf {st1 with su:=st1.su+1})):=by
     have:=HGO.out;rw[if_pos rfl]at this;exact this
    have hlf1:=hck.1 (Or.inl rfl);have ff:=hM3.sk.frozenAt (st1.stack.length-1);have HJ:Hid (LkJ lo M Pb ng E V I B w res (w2.setCell ⟨g,st1.stack.length-1,none⟩ (.int .i32 lf)).drew.drew (setTopS lf {st1 with su:=st1.su+1})∧suOf M (w2.setCell ⟨g,st1.stack.length-1,none⟩ (.int .i32 lf)).drew.drew=st1.su+1):=by
     obtain⟨hW4,hs4⟩:=hWs.top HST1.out hlf1;have hn1:st1.stack.length-1=s.length:=by rw[HST1.out];simp
     have hso:=(HM2.out.sk.stored (st1.stack.length-1) (.int .i32 lf)).1;obtain⟨t1,t2⟩:=HM2.out.rowS (AG.cell (j:=st1.stack.length-1) (v:=.slice (some ⟨g,0,none⟩) st1.stack.length c) rfl (.int .i32 lf)) (s':=s++[lf]) (by
      have e:(s++[lf]).length=st1.stack.length:=by rw[HST1.out];simp
      rw[e,<-rfC_setLast s (r:Int) lf,<-hn1];have e2:({st1 with su:=st1.su+1}:MSt).stack=s++[(r:Int)]:=HST1.out;rw[<-e2];exact hso)
     refine⟨⟨_,⟨cs,ds,_,_,kv,dv,tv,?_,rfl⟩,(HA.out.trans t2 HBB.out).then (Below.refl _ _).drew.drew,HBB.out,hW4,HIt.out _ _ hIs3,HGO2.out⟩,?_⟩
     ·have e3:setTopS lf {st1 with su:=st1.su+1}={({st1 with su:=st1.su+1}:MSt) with stack:=s++[lf]}:=by
       unfold setTopS;rw[show({st1 with su:=st1.su+1}:MSt).stack=s++[(r:Int)] from HST1.out];simp
      rw[e3];exact t1.drew.drew
     ·unfold suOf;rw[t1.drew.drew.m.at 7 rfl];rfl
    clear HGO hWs hIs3 hM3 hA3 hMM3 HM2 HA HBB;go_wp2;go_step3
    refine⟨rfl,?_,?_⟩
    ·rw[hJ];exact⟨setTopS lf {st1 with su:=st1.su+1},_,_,_,_,_,_,_,_,_,_,_,_,_,_,_,_,_,_,_,_,_,_,_,_,_,_,_,_,_,_,_,_,_,_,_,_,_,_,_,_,_,_,_,_,_,_,_,_,_,_,_,_,_,_,_,_,_,_,_,_,_,_,_,_,_,_,_,rfl,hsm1,HJ.out.1⟩
    ·rw[HJ.out.2,HSU1.out];omega
   ·by_cases h2:kd=2
    ·subst h2;have HGO2:Hid (res=lookS E V (st1.sm-(st1.su+1)).toNat (pushS lf {st1 with su:=st1.su+1})):=by
      have:=HGO.out;rw[if_neg (by omega),if_pos rfl]at this;exact this
     have hlf1:=hck.1 (Or.inr rfl);have HPU:=hid (push_any lf hMM3 (by show st1.stack.length<=_;omega));have HJ:Hid (∀w5 B5,AG (mB M (.slice (some ⟨cg,0,none⟩) st1.cells.length cc) (.slice (some ⟨g,0,none⟩) st1.stack.length c) dv tv) w2.drew.drew w5->MM lo w5 M Pb (pushS lf {st1 with su:=st1.su+1}) B5->(∀b∈B5,b∈mB M (.slice (some ⟨cg,0,none⟩) st1.cells.length cc) (.slice (some ⟨g,0,none⟩) st1.stack.length c) dv tv∨w2.drew.drew.heap.size<=b)->LkJ lo M Pb ng E V I B w res w5 (pushS lf {st1 with su:=st1.su+1})∧suOf M w5=st1.su+1):=by
      intro w5 B5 hA5 hM5 hB5;refine⟨⟨B5,hM5,HA3.out.trans hA5 HBB.out,λb hb=>(hB5 b hb).elim (HBB.out b) λh=>Or.inr (Nat.le_trans hz2 h),HW1.out.push hst1 hlf1,HIp.out _ _ hIs3,HGO2.out⟩,?_⟩;obtain⟨cs,ds,cv,sv,kv,dv,tv,hM5,-⟩:=hM5;unfold suOf;rw[hM5.m.at 7 rfl];rfl
     clear HGO hWs hIs3 hM3 hA3 hMM3 HM2 HA HBB;go_wp2_with (first
      |(go_at_call 100;refine HPU.out.mono ?_;rintro e w5 ⟨rfl,hA5,B5,hM5,hB5⟩;have HJ5:=hid (HJ.out w5 B5 hA5 hM5 hB5);clear hA5 hM5 hB5))
     go_step3
     refine⟨rfl,?_,?_⟩
     ·rw[hJ];exact⟨pushS lf {st1 with su:=st1.su+1},_,_,_,_,_,_,_,_,_,_,_,_,_,_,_,_,_,_,_,_,_,_,_,_,_,_,_,_,_,_,_,_,_,_,_,_,_,_,_,_,_,_,_,_,_,_,_,_,_,_,_,_,_,_,_,_,_,_,_,_,_,_,_,_,_,_,_,rfl,hsm1,HJ5.out.1⟩
     ·rw[HJ5.out.2,HSU1.out];omega
    ·have HFIN:Hid (∀(stx:MSt) w5 e,MRes lo M Pb (mB M (.slice (some ⟨cg,0,none⟩) st1.cells.length cc) (.slice (some ⟨g,0,none⟩) st1.stack.length c) dv tv) w2.drew.drew stx (.tuple #[]) e w5->MRes lo M Pb B w stx (.tuple #[]) (.returned (.tuple #[])) w5):=λstx w5 e hr=>hr.of HA3.out HBB.out rfl;by_cases h0:kd=0
     ·subst h0;have HGO2:Hid (res=stopS 7 {st1 with su:=st1.su+1}):=by
       have:=HGO.out;rw[if_neg (by omega),if_neg (by omega),if_pos rfl]at this;exact this
      have HSP:=hid (stop_any 7 hMM3);clear HGO hWs hIs3 hM3 hA3 hMM3 HM2 HA HBB;go_wp2_with (first
       |(go_at_call 79;refine HSP.out.mono ?_;intro e w5 hr;obtain⟨rfl,-⟩:=id hr;have HRR:=hid (HFIN.out _ _ _ hr);clear hr))
      simp only[Exit.jump];refine bE ?_;rw[HGO2.out];exact HRR.out
     ·have hbs2:0<=({st1 with su:=st1.su+1}:MSt).fr.base∧({st1 with su:=st1.su+1}:MSt).fr.base<(({st1 with su:=st1.su+1}:MSt).stack.length:Int)∧({st1 with su:=st1.su+1}:MSt).stack.length<=1000000000:=⟨hbs.1,hbs.2,by show st1.stack.length<=_;omega⟩;by_cases h4:kd=4
      ·subst h4;have HGO2:Hid (res=E nn {st1 with su:=st1.su+1}):=by
        have:=HGO.out;rw[if_neg (by omega),if_neg (by omega),if_neg (by omega),if_pos rfl]at this;exact this
       obtain⟨hn0,hn1⟩:=hck.2.1 rfl;obtain⟨gi,rfl⟩:∃gi:Nat,nn=(gi:Int):=⟨nn.toNat,by omega⟩;have hgi:gi<ng:=by omega
       have hlow3:Below lo w w2.drew.drew:=hA3.low HBL.out hlz;have hpg:=HPG.out.low hlow3;obtain⟨gb,go,-,hgp,z0,z1⟩:=hpg.g gi hgi;have HEN:=hid (HE.out gi hgi w2.drew.drew.drew _ _ (hMM3.keep (Below.refl _ _).drew) hlow3.drew hIs3 hWs hbs2);have y0:w2.drew.drew.drew.cell? ⟨M,0,none⟩=some (.pointer (some ⟨Pb,0,none⟩)):=hM3.m.at 0 rfl;have y1:w2.drew.drew.drew.cell? ⟨Pb,0,none⟩=some (.slice gp ng gc):=hpg.c;have y2:w2.drew.drew.drew.cell? ⟨cg,r*5+1,none⟩=some (.int .i64 (gi:Int)):=x1;have y3:w2.drew.drew.drew.cell? ⟨gb,go+gi*2,none⟩=some (.int .i64 (G gi).1):=z0;have y4:w2.drew.drew.drew.cell? ⟨gb,go+gi*2+1,none⟩=some (.slice (G gi).2.1 (G gi).2.2.1 (G gi).2.2.2):=z1;have gi0:(0:Int)<=(gi:Int):=by omega
       have gi1:(gi:Int)<(ng:Int):=by omega
       subst hgp;clear HGO hWs hIs3 hM3 hA3 hMM3 HM2 HA HBB hpg z0 z1;go_upto_region 14 with fail
       go_region_with (go_at_call 101;refine HEN.out.mono ?_;intro e w5 hr;obtain⟨rfl,-⟩:=id hr;have HRR:=hid (HFIN.out _ _ _ (hr.of (AG.of_below (Below.refl _ _).drew) (λb hb=>Or.inl hb) (e':=.returned (.tuple #[])) (r':=.tuple #[]) rfl));clear hr)
       all_goals(try go_wp2)
       all_goals
        simp only[Exit.jump];refine bE ?_;rw[HGO2.out];exact HRR.out
      ·have HU:=hid (under_any hMM3 (by show st1.stack.length<=_;omega) ⟨hbs.1,by show st1.fr.base<=_;omega⟩);have hund:undr st1=(st1.stack.length:Int)-1-st1.fr.base:=rfl;have HUD:=hid hund;by_cases hu:0<undr st1
       ·have HGO2:Hid (res=stopS 5 {st1 with su:=st1.su+1}):=by
         have:=HGO.out;rw[if_neg (by omega),if_neg (by omega),if_neg (by omega),if_neg (by omega),if_pos hu]at this;exact this
        have HSP:=hid (stop_any 5 (hMM3.keep (Below.refl _ _).drew));have hui:(0:Int)<(st1.stack.length:Int)-1-st1.fr.base:=hu;clear HGO hWs hIs3 hM3 hA3 hMM3 HM2 HA HBB hund hu;obtain⟨d,hd⟩:∃d,(st1.stack.length:Int)-1-st1.fr.base=d:=⟨_,rfl⟩;have HU2:Hid (Calls Tryz.prog 102 #[.pointer (some ⟨M,0,none⟩)] w2.drew.drew λe w'=>e=.returned (.int .i64 d)∧w'=w2.drew.drew.drew):=by
         have:=HU.out;rw[show((({st1 with su:=st1.su+1}:MSt).stack.length:Int)-1-({st1 with su:=st1.su+1}:MSt).fr.base)=d from hd]at this;exact this
        rw[hd]at hui;clear HU hd;go_wp2_with (first
         |(go_at_call 102;refine HU2.out.mono ?_;rintro e w4 ⟨rfl,rfl⟩)
         |(go_at_call 79;refine HSP.out.mono ?_;intro e w5 hr;obtain⟨rfl,-⟩:=id hr;have HRR:=hid (HFIN.out _ _ _ (hr.of (AG.of_below (Below.refl _ _).drew) (λb hb=>Or.inl hb) (e':=.returned (.tuple #[])) (r':=.tuple #[]) rfl));clear hr))
        simp only[Exit.jump];refine bE ?_;rw[HGO2.out];exact HRR.out
       ·have HGO2:Hid (res=V (r:Int) {st1 with su:=st1.su+1}):=by
         have:=HGO.out;rw[if_neg (by omega),if_neg (by omega),if_neg (by omega),if_neg (by omega),if_neg hu,show st1.stack.getLast?.getD 0=(r:Int) by rw[HST1.out];simp]at this;exact this
        have HGV:=hid (HV.out (r:Int) _ _ _ (hMM3.keep (Below.refl _ _).drew) hIs3 hWs hbs2);have hui:¬(0:Int)<(st1.stack.length:Int)-1-st1.fr.base:=hu;have et3:w2.drew.drew.drew.cell? ⟨g,st1.stack.length-1,none⟩=some (.int .i32 (r:Int)):=et;clear HGO hWs hIs3 hM3 hA3 hMM3 HM2 HA HBB hund hu;obtain⟨d,hd⟩:∃d,(st1.stack.length:Int)-1-st1.fr.base=d:=⟨_,rfl⟩;have HU2:Hid (Calls Tryz.prog 102 #[.pointer (some ⟨M,0,none⟩)] w2.drew.drew λe w'=>e=.returned (.int .i64 d)∧w'=w2.drew.drew.drew):=by
         have:=HU.out;rw[show((({st1 with su:=st1.su+1}:MSt).stack.length:Int)-1-({st1 with su:=st1.su+1}:MSt).fr.base)=d from hd]at this;exact this
        rw[hd]at hui;clear HU hd;go_wp2_with (first
         |(go_at_call 102;refine HU2.out.mono ?_;rintro e w4 ⟨rfl,rfl⟩)
         |(go_at_call 103;refine HGV.out.mono ?_;intro e w5 hr;obtain⟨rfl,-⟩:=id hr;have HRR:=hid (HFIN.out _ _ _ (hr.of (AG.of_below (Below.refl _ _).drew) (λb hb=>Or.inl hb) (e':=.returned (.tuple #[])) (r':=.tuple #[]) rfl));clear hr))
        simp only[Exit.jump];refine bE ?_;rw[HGO2.out];exact HRR.out
end Go.Proofs.YtahmgjjgikgpoaaGreatDoor
