import Derived.Test.YtahmgjjgikgpoaaGreatDoorRnJ
import Derived.Test.YtahmgjjgikgpoaaGreatDoorRkJ
set_option maxRecDepth 100000
set_option maxHeartbeats 4000000
namespace Go.Proofs.YtahmgjjgikgpoaaGreatDoor
open Go.RowKit Go.Sort
def forkS(alts:List LAlt)(st:MSt):MSt:=
 if (topC st).kind≠3 then stopS 3 st
 else match alts.find? (λa=>decide (a.tag=(topC st).n)) with
  |some a=>{st with fr:={st.fr with at_:=a.to}}
  |none=>stopS 4 st
def AlM(lo:Nat)(w:World)(v:Value)(l:List LAlt):Prop:=∃p c,v=.slice p l.length c∧∀i (h:i<l.length),∃b,b<lo∧p=some ⟨b,0,none⟩∧w.cell? ⟨b,i*2,none⟩=some (.int .u8 l[i].tag)∧w.cell? ⟨b,i*2+1,none⟩=some (.int .u16 l[i].to)
theorem AlM.fr{lo:Nat}{w w':World}{v:Value}{l:List LAlt}(h:AlM lo w v l)(hb:Below lo w w'):AlM lo w' v l:=by
 obtain⟨p,c,e,h⟩:=h;refine⟨p,c,e,λi hi=>?_⟩;obtain⟨b,h1,h2,h3,h4⟩:=h i hi;exact⟨b,h1,h2,cell_same (hb.block b h1) h3,cell_same (hb.block b h1) h4⟩
theorem CdAt.alts{lo:Nat}{w:World}{v:Value}{l:List LIns}(h:CdAt lo w v l){k:Nat}(hk:k<l.length):∃b av,b<lo∧v=.slice (some ⟨b,0,none⟩) l.length l.length∧w.cell? ⟨b,k*3+2,none⟩=some av∧AlM lo w av l[k].alts:=by
 rcases h with⟨-,rfl⟩|⟨B,L,hb,hv,hL,hf,hA⟩
 ·simp at hk
 ·have hl:L.length=l.length:=by rw[<-hL,List.length_map]
  have hk':k<L.length:=by omega
  have e:l[k]=L[k].1:=by simp[<-hL]
  obtain⟨B',g1,e2,g3⟩:=hA L[k] (List.getElem_mem _);refine⟨B,L[k].2,hb,hv,?_,?_⟩
  ·have hd:(k*3+2) / 3=k:=by omega
   have hm:(k*3+2) % 3=2:=by omega
   rw[hf.c _ (by omega),rowF_at (by rw[List.length_map,hd];exact hk')];simp only[hd,hm,List.getElem_map];rfl
  ·rw[e];refine⟨_,_,e2,λi hi=>⟨B',g1,rfl,?_,?_⟩⟩
   ·have hd:(i*2) / 2=i:=by omega
    have hm:(i*2) % 2=0:=by omega
    rw[g3.c _ (by omega),rowF_at (by rw[List.length_map,hd];exact hi)];simp only[hd,hm,List.getElem_map];rfl
   ·have hd:(i*2+1) / 2=i:=by omega
    have hm:(i*2+1) % 2=1:=by omega
    rw[g3.c _ (by omega),rowF_at (by rw[List.length_map,hd];exact hi)];simp only[hd,hm,List.getElem_map];rfl
theorem fork_any{lo:Nat}{w:World}{M Pb:Nat}{st:MSt}{B:List Nat}(alts:List LAlt)(av:Value)(hal:AlM lo w av alts)(hg:∀a∈alts,(0<=a.tag∧a.tag<=255)∧0<=a.to∧a.to<=65535)(hll:alts.length<=1000000)(h:MM lo w M Pb st B)(hl:st.stack.length<=1000000000){s:List Int}{r:Nat}(hs:st.stack=s++[(r:Int)])(hr:r<st.cells.length):
 Calls Tryz.prog 111 #[.pointer (some ⟨M,0,none⟩),av] w λe w'=>MRes lo M Pb B w (forkS alts st) (.tuple #[]) e w':=by
 obtain⟨ap,ac,rfl,hac⟩:=id hal;have htop:=topC_eq hs hr;have HAL:=hid hal;have hMM:=h;obtain⟨cs,ds,cv,sv,kv,dv,tv,h,hBe⟩:=h;have hsl:st.stack.length=s.length+1:=by rw[hs];simp
 obtain⟨sg,sc,rfl,-,hsc⟩:=stack_slice h.sk (by omega);obtain⟨cg,cc,fp,fn,fc,rfl,k0,k1,-⟩:=h.cellAt (r:=r) hr;have xs:w.cell? ⟨sg,s.length,none⟩=some (.int .i32 (r:Int)):=by
  rw[hsc _ (by omega),hs];simp[rfC]
 have x1:=h.m.at 1 rfl;have x1d:w.drew.cell? ⟨M,1,none⟩=_:=x1;have xsd:w.drew.cell? ⟨sg,s.length,none⟩=_:=xs;have x1e:w.drew.drew.cell? ⟨M,1,none⟩=_:=x1;have xse:w.drew.drew.cell? ⟨sg,s.length,none⟩=_:=xs;have HTP:Hid (∀w3,w3=w.drew->Calls Tryz.prog 99 #[.pointer (some ⟨M,0,none⟩),.int .i64 0] w3 λe w'=>e=.returned (.pointer (some ⟨sg,s.length,none⟩))∧w'=w3.drew):=λw3 h3=>by
  subst h3;have:=top_any (w:=w.drew) 0 (h.m.at 2 rfl) (by omega) (by omega);rw[show st.stack.length-1-0=s.length by omega]at this;exact this
 have HK:Hid (∀wz,Below w.heap.size w wz->(wz.cell? ⟨cg,r*5,none⟩=some (.int .u8 st.cells[r].kind)∧wz.cell? ⟨cg,r*5+1,none⟩=some (.int .i64 st.cells[r].n))∧(∃v5,wz.cell? ⟨M,5,none⟩=some v5)∧wz.frozen? ⟨M,5,none⟩=false):=λwz hb=>⟨⟨cell_keep hb k0,cell_keep hb k1⟩,⟨_,(h.keep hb).m.at 5 rfl⟩,(h.keep hb).m.fz 5⟩;have HSP:Hid (∀j wz,Below w.heap.size w wz->Calls Tryz.prog 79 #[.pointer (some ⟨M,0,none⟩),.int .i64 j] wz λe w''=>e=.returned (.tuple #[])∧Hid (MRes lo M Pb B w (stopS j st) (.tuple #[]) (.returned (.tuple #[])) w'')):=λj wz hbz=>(stop_any j (hMM.keep hbz)).mono λe w'' hr=>⟨hr.1,hr.of (AG.of_below hbz) (λb hb=>Or.inl hb) rfl⟩;have HJP:Hid (∀(x:Int) wz,Below w.heap.size w wz->MRes lo M Pb B w {st with fr:={st.fr with at_:=x}} (.tuple #[]) (.returned (.tuple #[])) (wz.setCell ⟨M,5,none⟩ (.int .i64 x))):=λx wz hb=>by
  have h1:=(h.keep hb).setM (i:=5) (u:=.int .i64 x) (st':={st with fr:={st.fr with at_:=x}}) (kv':=kv) rfl (by omega) rfl rfl rfl rfl (h.keep hb).cd;exact⟨rfl,(AG.of_below hb).set (Or.inl (by rw[hBe];exact List.mem_cons_self ..)) _,_,⟨cs,ds,_,_,kv,dv,tv,h1,rfl⟩,λb hb=>Or.inl (by rw[hBe];exact hb)⟩
 have hlz:=h.lz;have HG:=hid hg;have i0:(0:Int)<=(r:Int):=by omega
 have i1:(r:Int)<(st.cells.length:Int):=by omega
 have HFS:Hid (forkS alts st=if st.cells[r].kind≠3 then stopS 3 st else match alts.find? (λa=>decide (a.tag=st.cells[r].n)) with|some a=>{st with fr:={st.fr with at_:=a.to}}|none=>stopS 4 st):=by
  show _=_;unfold forkS;rw[htop]
 generalize st.cells[r].kind=kd at*;generalize st.cells[r].n=nn at*;clear h hMM hsc k0 k1 hBe hal htop hg hs;go_enter Tryz.func111,Tryz.ntmps111;go_upto_region 0 with fail
 go_region_held_law (λw'=>w'.cell? ⟨M,1,none⟩=some (.slice (some ⟨cg,0,none⟩) st.cells.length cc)∧w'.cell? ⟨sg,s.length,none⟩=some (.int .i32 (r:Int))) (first|(with_reducible exact⟨x1d,xsd⟩)|(with_reducible exact⟨x1e,xse⟩))
  (first
   |(go_at_call 99;with_reducible refine(HTP.out _ rfl).mono ?_;rintro e w3 ⟨rfl,rfl⟩))
 obtain⟨w1,hw1⟩:∃w1,w.drew.drew=w1:=⟨_,rfl⟩;have HB1:Hid (Below w.heap.size w w1):=by rw[<-hw1];exact(Below.refl _ _).drew.drew
 rw[hw1];obtain⟨⟨y0,y1⟩,-⟩:=HK.out w1 HB1.out;clear x1 xs x1d xsd x1e xse HTP hw1;by_cases h3:kd=3
 ·subst h3;have HFS2:Hid (forkS alts st=match alts.find? (λa=>decide (a.tag=nn)) with|some a=>{st with fr:={st.fr with at_:=a.to}}|none=>stopS 4 st):=by
   show _=_;rw[HFS.out,if_neg (by simp)]
  clear HFS;go_wp2;go_loopw [25] (λjv wr=>∃j:Nat,j<=alts.length∧jv=.int .i64 (j:Int)∧Hid (Below w1.heap.size w1 wr)∧Hid (∀i (hi:i<alts.length),i<j->alts[i].tag≠nn)) (λjv _=>alts.length-(intOf jv).toNat)
  case atStart=>exact⟨0,Nat.zero_le _,rfl,Below.refl _ _,λi _ hi=>absurd hi (by omega)⟩
  case round=>
   clear y0 y1;rename World=>wr
   obtain⟨j,hjl,rfl,HBr,HNO⟩:=hrel;have HBw:=hid (HB1.out.trans (HBr.out.mono HB1.out.size));by_cases hj:j<alts.length
   ·have hji:(j:Int)<(alts.length:Int):=by omega
    have hj0:(0:Int)<=(j:Int):=by omega
    obtain⟨b,hblo,rfl,-⟩:=hac j hj;obtain⟨p',c',e',hx⟩:=HAL.out.fr (HBw.out.mono hlz);cases e';obtain⟨b',hb',eb,z0,z1⟩:=hx j hj;cases eb;obtain⟨⟨t0,t1⟩,to0,to1⟩:=HG.out _ (List.getElem_mem hj);have hwt:IntKind.i64.wrap alts[j].tag=alts[j].tag:=i64w (by omega);have hwo:IntKind.i64.wrap alts[j].to=alts[j].to:=i64w (by omega);have HB5:Hid (∀o,Below wr.heap.size wr (wr.alloc o).drew):=λo=>((Below.refl _ _).alloc (Nat.le_refl _) _).drew;have HBx:Hid (∀o,Below w.heap.size w (wr.alloc o).drew):=λo=>HBw.out.trans ((HB5.out o).mono HBw.out.size);have q:=λo=>HK.out _ (HBx.out o);have q1:=λo=>(q o).1.2;have q5:=λo=>(q o).2.1;have qf:=λo=>(q o).2.2;obtain⟨TG,hTG⟩:∃TG,alts[j].tag=TG:=⟨_,rfl⟩;obtain⟨TO,hTO⟩:∃TO,alts[j].to=TO:=⟨_,rfl⟩;have HTG:=hid hTG;have HTO:=hid hTO;rw[hTG]at z0 hwt;rw[hTO]at z1 hwo;clear q hx hac hTG hTO t0 t1 to0 to1;obtain⟨v5,k5⟩:=q5 (.cells #[.int .u8 TG,.int .u16 TO] 207);have kf:=qf (.cells #[.int .u8 TG,.int .u16 TO] 207);have kn:=q1 (.cells #[.int .u8 TG,.int .u16 TO] 207);have kn0:(wr.alloc (.cells #[.int .u8 TG,.int .u16 TO] 207)).cell? ⟨cg,r*5+1,none⟩=some (.int .i64 nn):=kn;clear q1 q5 qf;go_upto_region 6 with fail
    go_region
    all_goals
     by_cases hn:TG=nn
     ·subst hn;go_wp2;refine bE ?_;have hfind:alts.find? (λa=>decide (a.tag=TG))=some alts[j]:=by
       rw[List.find?_eq_some_iff_getElem];exact⟨by simp[HTG.out],j,hj,rfl,λi hi=>by simpa using HNO.out i (by omega) hi⟩
      have:=HFS2.out;rw[hfind]at this;rw[this];show MRes lo M Pb B w {st with fr:={st.fr with at_:=alts[j].to}} _ _ _;rw[HTO.out];exact HJP.out _ _ (HBx.out _)
     ·go_wp2;refine⟨⟨j+1,by omega,by go_num,HBr.out.trans ((HB5.out _).mono HBr.out.size),λi hi hij=>?_⟩,by simp[intOf];omega⟩;by_cases e:i=j
      ·subst e;rw[HTG.out];exact hn
      ·exact HNO.out i hi (by omega)
   ·obtain rfl:j=alts.length:=by omega
    have hji:¬((alts.length:Int)<(alts.length:Int)):=by omega
    have HS4:=hid (HSP.out 4 wr HBw.out);go_wp2_with (first
     |(go_at_call 79;refine HS4.out.mono ?_;rintro e w5 ⟨rfl,HRR⟩))
    refine bE ?_;have hfind:alts.find? (λa=>decide (a.tag=nn))=none:=by
     rw[List.find?_eq_none];intro a ha;obtain⟨i,hi,rfl⟩:=List.getElem_of_mem ha;simpa using HNO.out i hi hi
    have:=HFS2.out;rw[hfind]at this;rw[this];exact HRR.out
 ·have HS3:=hid (HSP.out 3 w1 HB1.out);have HFS2:Hid (forkS alts st=stopS 3 st):=by
   show _=_;rw[HFS.out,if_pos h3]
  clear HFS;go_wp2_with (first
   |(go_at_call 79;refine HS3.out.mono ?_;rintro e w5 ⟨rfl,HRR⟩))
  refine bE ?_;rw[HFS2.out];exact HRR.out
section
variable {lo:Nat} {w w4:World} {M Pb:Nat} {st:MSt} {cs:List (MCl×Value)} {ds:List (MFr×Value)} {cv sv kv dv tv:Value}
theorem MMem.turnD(h:MMem lo w M Pb st cs ds cv sv kv dv tv)(hA:AG (vB dv) w w4){dv':Value}{ds':List (MFr×Value)}(hown:w4.ownsRow lo 116 3 dv' ds'.length (ds'.flatMap frC))(hdc:∀x∈ds',CdAt lo w x.2 x.1.code)(hv:∀b∈vB dv',b∈vB dv∨w.heap.size<=b):
 MMem lo (w4.setCell ⟨M,6,none⟩ dv') M Pb {st with dump:=ds'.map (·.1)} cs ds' cv sv kv dv' tv∧AG (mB M cv sv dv tv) w (w4.setCell ⟨M,6,none⟩ dv')∧∀b∈mB M cv sv dv' tv,b∈mB M cv sv dv tv∨w.heap.size<=b:=by
 have hrg:=h.rg;have eB:∀v,mB M cv sv v tv=(M::(vB cv++vB sv))++(vB v++vB tv):=λv=>by simp[mB]
 have hnd:((M::(vB cv++vB sv))++(vB dv++vB tv)).Nodup:=by rw[<-eB];exact h.nd
 have hnd':((M::(vB cv++vB sv))++(vB dv'++vB tv)).Nodup:=nd_swap hnd (vB_nd _) hv λb hb=>(hrg b (by rw[eB];exact hb)).2;have hd:=List.nodup_append.1 hnd;have hd2:=List.nodup_append.1 hd.2.1;have hnD:∀b,b∈(M::(vB cv++vB sv))∨b∈vB tv->b∉vB dv:=λb hb hm=>by
  rcases hb with hb|hb
  ·exact hd.2.2 b hb b (List.mem_append_left _ hm) rfl
  ·exact hd2.2.2 b hm b hb rfl
 have hMn:∀b,b∈(vB cv++vB sv)++(vB dv'++vB tv)->b≠M:=λb hb e=>by
  rw[List.cons_append]at hnd';exact(List.nodup_cons.1 hnd').1 (e▸hb)
 have hz:=hA.size;have hblk:∀b,b<w.heap.size->b∉vB dv->b≠M->(w4.setCell ⟨M,6,none⟩ dv').heap[b]?=w.heap[b]?:=λb h1 h2 h3=>by rw[Below.heap_setCell _ _ _ _ h3];exact hA.block b h1 h2
 have hin:∀b,b∈vB cv++vB sv∨b∈vB tv->b∈mB M cv sv dv tv:=λb hb=>by
  rw[eB];rcases hb with hb|hb
  ·exact List.mem_append_left _ (List.mem_cons_of_mem _ hb)
  ·exact List.mem_append_right _ (List.mem_append_right _ hb)
 have hfr:∀v,(∀b∈vB v,b∈vB cv++vB sv∨b∈vB tv)->Fr (vB v) w (w4.setCell ⟨M,6,none⟩ dv'):=λv hv b hb=>hblk b (hrg b (hin b (hv b hb))).2 (hnD b ((hv b hb).imp (List.mem_cons_of_mem _) id)) (hMn b ((hv b hb).elim (λh=>List.mem_append_left _ h) λh=>List.mem_append_right _ (List.mem_append_right _ h)));have hDin:∀b,b∈vB dv->b∈mB M cv sv dv tv:=λb hb=>by rw[eB];exact List.mem_append_right _ (List.mem_append_left _ hb)
 have hAG:AG (mB M cv sv dv tv) w (w4.setCell ⟨M,6,none⟩ dv'):=AG.set ⟨hA.os,hA.tape,hA.output,hA.size,λk hk hX=>hA.block k hk λhm=>hX (hDin k hm)⟩ (Or.inl (List.mem_cons_self ..)) _;have hlow:Below lo w (w4.setCell ⟨M,6,none⟩ dv'):=hAG.low (λb hb=>(hrg b hb).1) h.lz;have hm4:FBL w4 M (mL Pb cv sv kv dv tv st):=h.m.of_block (hA.block M h.m.lt (hnD M (Or.inl (List.mem_cons_self ..)))) hz;have hnew:∀b∈mB M cv sv dv' tv,b∈mB M cv sv dv tv∨w.heap.size<=b:=λb hb=>by
  rw[eB]at hb;rcases List.mem_append.1 hb with hb|hb
  ·exact Or.inl (by rw[eB];exact List.mem_append_left _ hb)
  ·rcases List.mem_append.1 hb with hb|hb
   ·exact(hv b hb).imp (hDin b) id
   ·exact Or.inl (hin b (Or.inr hb))
 refine⟨⟨hm4.set (i:=6) (by simp[mL]) dv',row_fr h.cl (hfr cv λb hb=>Or.inl (List.mem_append_left _ hb)),λx hx=>(h.fl x hx).fr λb ⟨g1,g2⟩ hbl=>⟨⟨g1,λhm=>?_⟩,hblk b hbl (λhm=>g2 (hDin b hm)) (λe=>g2 (e▸List.mem_cons_self ..))⟩,row_fr h.sk (hfr sv λb hb=>Or.inl (List.mem_append_right _ hb)),?_,λx hx=>(hdc x hx).fr hlow,h.cd.fr hlow,row_fr h.tx (hfr tv λb hb=>Or.inr hb),h.hcs,rfl,by rw[eB];exact hnd',h.ml⟩,hAG,hnew⟩
 ·rcases hnew b hm with h1|h1
  ·exact g2 h1
  ·omega
 ·exact row_fr hown λb hb=>Below.heap_setCell _ _ _ _ (hMn b (List.mem_append_right _ (List.mem_append_left _ hb)))
end
def evalS(st:MSt):MSt:={st with dump:=st.dump++[st.fr],fr:={st.fr with base:=(st.stack.length:Int)-1}}
def DpC(lo M Pb:Nat)(B:List Nat)(w:World)(st:MSt)(wx:World):Prop:=∃B1,MM lo wx M Pb st B1∧AG B w wx∧∀b∈B1,b∈B∨w.heap.size<=b
theorem DpC.drew{lo M Pb:Nat}{B:List Nat}{w:World}{st:MSt}{wx:World}(h:DpC lo M Pb B w st wx):DpC lo M Pb B w st wx.drew:=by
 obtain⟨B1,h1,h2,h3⟩:=h;exact⟨B1,h1.keep (Below.refl _ _).drew,h2.then (Below.refl _ _).drew,h3⟩
theorem do8_any{lo:Nat}{w:World}{M Pb:Nat}{st:MSt}{B:List Nat}(R:MSt->Prop)(h:MM lo w M Pb st B)(hm:Mtr st)(hsb:stepM st=true){k:Nat}(hat:st.fr.at_=(k:Int))(hk:k<st.fr.code.length)(hkb:k<=1000000000)(hop:st.fr.code[k].op=8)(hne:0<st.stack.length)(hl:st.stack.length<=1000000000)(hdl:st.dump.length<=1000000000)
 (hL:∀w' B',MM lo w' M Pb (evalS (nextS (stepS st))) B'->Below lo w w'->Calls Tryz.prog 76 #[.pointer (some ⟨M,0,none⟩)] w' λe w''=>∃st2,R st2∧MRes lo M Pb B' w' st2 (.tuple #[]) e w''):
 Calls Tryz.prog 77 #[.pointer (some ⟨M,0,none⟩)] w λe w'=>∃st2,R st2∧MRes lo M Pb B w st2 (.tuple #[]) e w':=by
 obtain⟨fi,hfi,hfj⟩:=Option.map_eq_some_iff.1 Tryz.frameJ;simp only[Prod.mk.injEq]at hfj;obtain⟨hf0,hf1,hf2⟩:=hfj;have HS:=hid (step_next h hm hsb hat hk);have HLO:=hid h.lows;have hstk:(nextS (stepS st)).stack=st.stack:=by rw[stepS_ok hsb];rfl
 have hdmp:(nextS (stepS st)).dump=st.dump:=by rw[stepS_ok hsb];rfl
 have hfrk:(nextS (stepS st)).fr.at_=(k:Int)+1:=by rw[stepS_ok hsb];simp[nextS,hat]
 obtain⟨s1,hs1⟩:∃s1,nextS (stepS st)=s1:=⟨_,rfl⟩;rw[hs1]at hstk hdmp hfrk hL;have HX:Hid (∀w1,NxF lo M Pb B w st k w1->∃b n c:Nat,(k:Int)<(n:Int)∧w1.cell? ⟨M,4,none⟩=some (.slice (some ⟨b,0,none⟩) n c)∧w1.cell? ⟨M,5,none⟩=some (.int .i64 (k:Int))∧w1.frozen? ⟨M,5,none⟩=false∧(w1.setCell ⟨M,5,none⟩ (.int .i64 ((k:Int)+1))).cell? ⟨b,k*3,none⟩=some (.int .i64 8)∧Hid (DpC lo M Pb B w s1 (w1.setCell ⟨M,5,none⟩ (.int .i64 ((k:Int)+1))).drew)):=by
  rintro w1 ⟨b,n,c,B1,hkn,e4,e5,f5,c0,c1,hbB,hbw,hN,hA,hB1⟩;rw[List.getElem?_eq_getElem hk,Option.getD_some,hop]at c0;rw[hs1]at hN;exact⟨b,n,c,hkn,e4,e5,f5,c0,B1,hN,hA,hB1⟩
 have HD:Hid (∀W,DpC lo M Pb B w s1 W->∃(dp:Option Addr) (dc dn:Nat) (kp:Option Addr) (kn kc:Nat) (fs:List Value),fs.length=dn*3∧dn<=1000000000∧lo<=W.heap.size∧(W.cell? ⟨M,3,none⟩=some (.int .i64 s1.fr.base)∧W.cell? ⟨M,4,none⟩=some (.slice kp kn kc)∧W.cell? ⟨M,5,none⟩=some (.int .i64 ((k:Int)+1))∧W.cell? ⟨M,6,none⟩=some (.slice dp dn dc))∧Hid (W.ownsRow lo 116 3 (.slice dp dn dc) dn fs)∧Hid (∀Z w2 G c',Below W.heap.size W Z->Z.grownBy w2 (Value.slice dp dn dc).ownBlock->((Value.slice dp dn dc).ownBlock=some G∨G=Z.heap.size)->w2.ownsRow lo 116 3 (.slice (some ⟨G,0,none⟩) (dn+1) c') (dn+1) (fs++[.int .i64 s1.fr.base,.slice kp kn kc,.int .i64 ((k:Int)+1)])->(w2.cell? ⟨M,6,none⟩=some (.slice dp dn dc)∧w2.frozen? ⟨M,6,none⟩=false)∧Hid (DpC lo M Pb B w {s1 with dump:=s1.dump++[s1.fr]} (w2.setCell ⟨M,6,none⟩ (.slice (some ⟨G,0,none⟩) (dn+1) c'))))):=by
  rintro W ⟨B1,hM,hA,hB1⟩;obtain⟨cs,ds,cv,sv,kv,dv,tv,hM,hBe⟩:=hM;obtain⟨dp,dc,rfl⟩:=row_slice hM.dp;obtain⟨kp,kn,kc,rfl⟩:∃kp kn kc,kv=.slice kp kn kc:=by
   rcases hM.cd with⟨e,-⟩|⟨b,L,-,e,-⟩
   ·exact⟨_,_,_,e⟩
   ·exact⟨_,_,_,e⟩
  have hfl:∀l:List (MFr×Value),(l.flatMap frC).length=l.length*3:=λl=>by
   induction l with
   |nil=>rfl
   |cons a r ih=>rw[List.flatMap_cons,List.length_append,ih];simp[frC];omega
  have hdn:ds.length=st.dump.length:=by rw[<-hdmp,<-hM.hds,List.length_map]
  refine⟨dp,dc,ds.length,kp,kn,kc,ds.flatMap frC,hfl ds,by omega,hM.lz,⟨hM.m.at 3 rfl,hM.m.at 4 rfl,by rw[<-hfrk];exact hM.m.at 5 rfl,hM.m.at 6 rfl⟩,hM.dp,λZ w2 G c' hbz hg hat hown=>?_⟩;have hAd:AG (vB (.slice dp ds.length dc)) W w2:=AG.append hbz hg;have hz:=hbz.size;have hnM:M∉vB (.slice dp ds.length dc):=λhm=>(List.nodup_cons.1 hM.nd).1 (List.mem_append_right _ (List.mem_append_right _ (List.mem_append_left _ hm)));have hbM:=hAd.block M hM.m.lt hnM;obtain⟨t1,t2,t3⟩:=hM.turnD hAd (dv':=.slice (some ⟨G,0,none⟩) (ds.length+1) c') (ds':=ds++[(s1.fr,.slice kp kn kc)]) (by
   rw[List.length_append,List.flatMap_append];simp only[List.length_cons,List.length_nil,List.flatMap_cons,List.flatMap_nil,List.append_nil,frC,hfrk];exact hown) (λx hx=>by
   rcases List.mem_append.1 hx with hx|hx
   ·exact hM.dc x hx
   ·obtain rfl:=List.mem_singleton.1 hx;exact hM.cd) (λb hb'=>by
   rw[vB_slice]at hb';obtain rfl:=List.mem_singleton.1 hb';rcases hat with e|e
   ·exact Or.inl (mem_vB.2 e)
   ·right;omega)
  rw[List.map_append,hM.hds]at t1;rw[<-hBe]at t2 t3;exact⟨⟨cell_same hbM (hM.m.at 6 rfl),by rw[World.frozen?_of_block (a:=⟨M,6,none⟩) hbM];exact hM.m.fz 6⟩,_,⟨_,_,_,_,_,_,_,t1,rfl⟩,hA.trans t2 hB1,λb hb=>(t3 b hb).elim (hB1 b) λh1=>Or.inr (Nat.le_trans hA.size h1)⟩
 have HE:Hid (∀wx,DpC lo M Pb B w {s1 with dump:=s1.dump++[s1.fr]} wx->∃sp,∃sc:Nat,∃v3,wx.cell? ⟨M,2,none⟩=some (.slice sp st.stack.length sc)∧wx.cell? ⟨M,3,none⟩=some v3∧wx.frozen? ⟨M,3,none⟩=false∧Hid (Calls Tryz.prog 76 #[.pointer (some ⟨M,0,none⟩)] (wx.setCell ⟨M,3,none⟩ (.int .i64 ((st.stack.length:Int)-1))) λe w''=>e=.returned (.tuple #[])∧Hid (∃st2,R st2∧MRes lo M Pb B w st2 (.tuple #[]) (.returned (.tuple #[])) w''))):=by
  rintro wx ⟨B1,hM,hA,hB1⟩;obtain⟨cs,ds,cv,sv,kv,dv,tv,hM,hBe⟩:=hM;have hself:M∈B1:=by rw[hBe];exact List.mem_cons_self ..
  obtain⟨sp,sc,rfl⟩:=row_slice hM.sk;have h2:=hM.m.at 2 rfl;rw[show({s1 with dump:=s1.dump++[s1.fr]}:MSt).stack.length=st.stack.length from congrArg List.length hstk]at h2;refine⟨sp,sc,_,h2,hM.m.at 3 rfl,hM.m.fz 3,?_⟩;have h3:=hM.setM (i:=3) (u:=.int .i64 ((st.stack.length:Int)-1)) (st':=evalS s1) (kv':=kv) (by simp[mL,evalS,hstk]) (by omega) rfl rfl rfl rfl hM.cd;have hMM:MM lo (wx.setCell ⟨M,3,none⟩ (.int .i64 ((st.stack.length:Int)-1))) M Pb (evalS s1) B1:=⟨_,_,_,_,_,_,_,h3,hBe⟩;have hA3:AG B w (wx.setCell ⟨M,3,none⟩ (.int .i64 ((st.stack.length:Int)-1))):=hA.set (hB1 M hself) _;refine(hL _ _ hMM (hA3.low HLO.out.2 HLO.out.1)).mono ?_;rintro e w'' ⟨st2,hR,hr⟩;have he:=hr.1;exact⟨he,st2,hR,hr.of hA3 hB1 rfl⟩
 have i3:IntKind.i64.wrap ((st.stack.length:Int)-1)=(st.stack.length:Int)-1:=i64w (by omega);clear h hsb hm hat hL hs1 hstk hdmp hfrk;go_enter Tryz.func77,Tryz.ntmps77;go_wp2_with (first
  |(go_at_call 55;refine HS.out.mono ?_;rintro e w1 ⟨rfl,hx⟩;obtain⟨b,n,c,hkn,e4,e5,f5,c0,HW⟩:=HX.out w1 hx;clear hx HX HS))
 go_region
 go_upto_region 26 with fail
 obtain⟨W,hW⟩:∃W,(w1.setCell ⟨M,5,none⟩ (.int .i64 ((k:Int)+1))).drew=W:=⟨_,rfl⟩;rw[hW]at HW ⊢;clear hW e4 e5 f5 c0;obtain⟨dp,dc,dn,kp,kn,kc,fs,hfs,hdn,hlz,⟨m3,m4,m5,m6⟩,HOW,HNX⟩:=HD.out W HW.out;have m3a:=λo=>alloc_old W o _ _ _ m3;have m4a:=λo=>alloc_old W o _ _ _ m4;have m5a:=λo=>alloc_old W o _ _ _ m5;have m6a:=λo=>alloc_old W o _ _ _ m6;clear HD HW;go_cut [] (λwx=>Hid (DpC lo M Pb B w {s1 with dump:=s1.dump++[s1.fr]} wx))
 case first=>
  go_region_law
   (first
    |(refine step_append_lies _ rfl (.tmp 135) (.tmp 140) 117 rfl lo 116 fi _ 3 40 Tryz.underlying117 hfi hf0 hf1 hf2 rfl (by omega) (.slice dp dn dc) dn fs (by first|(simp[Act.eval];done)|(simp[Act.eval,Act.put];done)) (HOW.out.alloc _) ⟨W.heap.size,0,none⟩ 1 1 [.int .i64 s1.fr.base,.slice kp kn kc,.int .i64 ((k:Int)+1)] (by first|(simp[Act.eval];done)|(simp[Act.eval,Act.put];done)) rfl (by have h:=World.news_of_block (heap_alloc_new W (Obj.cells #[.int .i64 s1.fr.base,.slice kp kn kc,.int .i64 ((k:Int)+1)] 116));simpa using h) (by intro u hu;simp at hu;rcases hu with rfl|rfl|rfl<;>rfl) (by omega) (by unfold maxLen;omega) (by omega) (by simp;omega) _ rfl ?_;intro G1 c1 w7 hown hgrow hat hlt1;obtain⟨⟨k7,f7⟩,HC⟩:=HNX.out _ _ _ _ (by first|exact(Below.refl _ _).alloc (Nat.le_refl _) _|exact((Below.refl _ _).alloc (Nat.le_refl _) _).drew) hgrow hat hown;clear hown hgrow hat hlt1))
  all_goals(try go_wp2)
  all_goals
   go_meet
   first|exact HC|exact DpC.drew HC.out|exact DpC.drew (DpC.drew HC.out)
 case rest=>
  rename World=>wx
  obtain⟨sp,sc,v3,k2,k3,f3,HLK⟩:=HE.out wx hcut.out;clear hcut HE HNX HOW m3 m4 m5 m6 m3a m4a m5a m6a;go_wp2_with (first
   |(go_at_call 76;refine HLK.out.mono ?_;rintro e w5 ⟨rfl,HRR⟩))
  refine bE ?_;exact HRR.out
end Go.Proofs.YtahmgjjgikgpoaaGreatDoor
