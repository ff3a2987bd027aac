import Derived.Test.YtdpodpjdcfjfgaaGreatDoorRcJ
import Derived.Test.YtdpodpjdcfjfgaaGreatDoorKaJ
import Derived.Test.YtdpodpjdcfjfgaaGreatDoorTdJ
set_option maxRecDepth 100000
set_option maxHeartbeats 4000000
namespace Go.Proofs.YtdpodpjdcfjfgaaGreatDoor
open Go.RowKit Go.Sort
theorem give_any{lo:Nat}{w:World}{M Pb:Nat}{st:MSt}{B:List Nat}(x:Int)(h:MM lo w M Pb st B)(hb:0<=st.fr.base∧st.fr.base<(st.stack.length:Int))(hl:st.stack.length<=1000000000000)(hdl:st.dump.length<=1000000000000):
 Calls Tryz.prog 280 #[.pointer (some ⟨M,0,none⟩),.int .i32 x] w λe w'=>MRes lo M Pb B w (giveS x st) (.tuple #[]) e w':=by
 by_cases hd:st.dump=[]
 ·exact give0_any x st.fr.base.toNat h hd (by omega) (by omega) hl
 ·exact give1_any x st.fr.base.toNat h hd (by omega) (by omega) hl hdl
structure ImG (lo:Nat) (w:World) (Pb:Nat) (gs:List LGlob) (gp:Option Addr) (gc:Nat) (G:Nat->Int×Option Addr×Nat×Nat):Prop where
 pg:Pg lo w Pb gs.length gp gc G
 ar:∀i (h:i<gs.length),(G i).1=gs[i].arity∧0<=gs[i].arity∧gs[i].arity<=255
 cd:∀i (h:i<gs.length),CdAt lo w (.slice (G i).2.1 (G i).2.2.1 (G i).2.2.2) gs[i].code
theorem ImG.low{lo:Nat}{w w':World}{Pb:Nat}{gs:List LGlob}{gp:Option Addr}{gc:Nat}{G:Nat->Int×Option Addr×Nat×Nat}(h:ImG lo w Pb gs gp gc G)(hb:Below lo w w'):ImG lo w' Pb gs gp gc G:=⟨h.pg.low hb,h.ar,λi hi=>(h.cd i hi).fr hb⟩
def glS(gs:List LGlob)(i:Int)(st:MSt):MSt:=enterS giveS ((gs[i.toNat]?).getD ⟨⟨#[]⟩,0,false,[]⟩).arity.toNat ((gs[i.toNat]?).getD ⟨⟨#[]⟩,0,false,[]⟩).code st
def lookM(gs:List LGlob)(st:MSt):MSt:=lookS (glS gs) giveS (st.sm-st.su).toNat st
theorem lookG{lo:Nat}{w:World}{M Pb:Nat}{st:MSt}{B:List Nat}{gs:List LGlob}{gp:Option Addr}{gc:Nat}{G:Nat->Int×Option Addr×Nat×Nat}(h:MM lo w M Pb st B)(hP:ImG lo w Pb gs gp gc G)(hW:Wf gs.length st)(hd:st.dump.length<=1000000000):
 Calls Tryz.prog 224 #[.pointer (some ⟨M,0,none⟩)] w λe w'=>MRes lo M Pb B w (lookM gs st) (.tuple #[]) e w':=by
 refine look_any2 (glS gs) giveS (λst=>st.dump.length<=1000000000) h hP.pg hW hd (λst h=>h) (λst x h=>h) (λst x h=>h) (λi hi w' st' B' hM hb hI hW' hs=>?_) (λx w' st' B' hM hI hW' hs=>?_)
 ·obtain⟨h1,h2,h3⟩:=hP.ar i hi;have hg:glS gs (i:Int) st'=enterS giveS gs[i].arity.toNat gs[i].code st':=by
   unfold glS;rw[Int.toNat_natCast,List.getElem?_eq_getElem hi];rfl
  rw[hg,h1];have:=enter_any giveS gs[i].arity.toNat gs[i].code (G i).2.1 (G i).2.2.1 (G i).2.2.2 ((hP.cd i hi).fr hb) hM hs.2.2 ⟨hs.1,hs.2.1⟩ hW'.s (by omega) (λx w2 B2 hM2=>give_any x hM2 ⟨hs.1,hs.2.1⟩ (by omega) (by have:=hI;omega));rw[show((gs[i].arity.toNat:Nat):Int)=gs[i].arity by omega]at this;exact this
 ·exact give_any x hM ⟨hs.1,hs.2.1⟩ (by omega) (by have:=hI;omega)
def forkS(alts:List LAlt)(st:MSt):MSt:=
 if (topC st).kind≠3 then stopS 3 st
 else match alts.find? (λa=>decide (a.tag=(topC st).n)) with
  |some a=>{st with fr:={st.fr with at_:=a.to}}
  |none=>stopS 4 st
def AlM(lo:Nat)(w:World)(v:Value)(l:List LAlt):Prop:=∃p c,v=.slice p l.length c∧∀i (h:i<l.length),∃b,b<lo∧p=some ⟨b,0,none⟩∧w.cell? ⟨b,i*2,none⟩=some (.int .u8 l[i].tag)∧w.cell? ⟨b,i*2+1,none⟩=some (.int .u16 l[i].to)
theorem AlM.fr{lo:Nat}{w w':World}{v:Value}{l:List LAlt}(h:AlM lo w v l)(hb:Below lo w w'):AlM lo w' v l:=by
 obtain⟨p,c,e,h⟩:=h;refine⟨p,c,e,λi hi=>?_⟩;obtain⟨b,h1,h2,h3,h4⟩:=h i hi;exact⟨b,h1,h2,cell_same (hb.block b h1) h3,cell_same (hb.block b h1) h4⟩
theorem CdAt.alts{lo:Nat}{w:World}{v:Value}{l:List LIns}(h:CdAt lo w v l){k:Nat}(hk:k<l.length):∃b av,b<lo∧v=.slice (some ⟨b,0,none⟩) l.length l.length∧w.cell? ⟨b,k*3+2,none⟩=some av∧AlM lo w av l[k].alts:=by
 rcases h with⟨-,rfl⟩|⟨B,L,hb,hv,hL,hf,hA⟩
 ·simp at hk
 ·have hl:L.length=l.length:=by rw[<-hL,List.length_map]
  have hk':k<L.length:=by omega
  have e:l[k]=L[k].1:=by simp[<-hL]
  obtain⟨B',g1,e2,g3⟩:=hA L[k] (List.getElem_mem _);refine⟨B,L[k].2,hb,hv,?_,?_⟩
  ·have hd:(k*3+2) / 3=k:=by omega
   have hm:(k*3+2) % 3=2:=by omega
   rw[hf.c _ (by omega),rowF_at (by rw[List.length_map,hd];exact hk')];simp only[hd,hm,List.getElem_map];rfl
  ·rw[e];refine⟨_,_,e2,λi hi=>⟨B',g1,rfl,?_,?_⟩⟩
   ·have hd:(i*2) / 2=i:=by omega
    have hm:(i*2) % 2=0:=by omega
    rw[g3.c _ (by omega),rowF_at (by rw[List.length_map,hd];exact hi)];simp only[hd,hm,List.getElem_map];rfl
   ·have hd:(i*2+1) / 2=i:=by omega
    have hm:(i*2+1) % 2=1:=by omega
    rw[g3.c _ (by omega),rowF_at (by rw[List.length_map,hd];exact hi)];simp only[hd,hm,List.getElem_map];rfl
theorem fork_any{lo:Nat}{w:World}{M Pb:Nat}{st:MSt}{B:List Nat}(alts:List LAlt)(av:Value)(hal:AlM lo w av alts)(hg:∀a∈alts,(0<=a.tag∧a.tag<=255)∧0<=a.to∧a.to<=65535)(hll:alts.length<=1000000)(h:MM lo w M Pb st B)(hl:st.stack.length<=1000000000){s:List Int}{r:Nat}(hs:st.stack=s++[(r:Int)])(hr:r<st.cells.length):
 Calls Tryz.prog 288 #[.pointer (some ⟨M,0,none⟩),av] w λe w'=>MRes lo M Pb B w (forkS alts st) (.tuple #[]) e w':=by
 obtain⟨ap,ac,rfl,hac⟩:=id hal;have htop:=topC_eq hs hr;have HAL:=hid hal;have hMM:=h;obtain⟨cs,ds,cv,sv,kv,dv,tv,h,hBe⟩:=h;have hsl:st.stack.length=s.length+1:=by rw[hs];simp
 obtain⟨sg,sc,rfl,-,hsc⟩:=stack_slice h.sk (by omega);obtain⟨cg,cc,fp,fn,fc,rfl,k0,k1,-⟩:=h.cellAt (r:=r) hr;have xs:w.cell? ⟨sg,s.length,none⟩=some (.int .i32 (r:Int)):=by
  rw[hsc _ (by omega),hs];simp[rfC]
 have x1:=h.m.at 1 rfl;have x1d:w.drew.cell? ⟨M,1,none⟩=_:=x1;have xsd:w.drew.cell? ⟨sg,s.length,none⟩=_:=xs;have x1e:w.drew.drew.cell? ⟨M,1,none⟩=_:=x1;have xse:w.drew.drew.cell? ⟨sg,s.length,none⟩=_:=xs;have HTP:Hid (∀w3,w3=w.drew->Calls Tryz.prog 276 #[.pointer (some ⟨M,0,none⟩),.int .i64 0] w3 λe w'=>e=.returned (.pointer (some ⟨sg,s.length,none⟩))∧w'=w3.drew):=λw3 h3=>by
  subst h3;have:=top_any (w:=w.drew) 0 (h.m.at 2 rfl) (by omega) (by omega);rw[show st.stack.length-1-0=s.length by omega]at this;exact this
 have HK:Hid (∀wz,Below w.heap.size w wz->(wz.cell? ⟨cg,r*5,none⟩=some (.int .u8 st.cells[r].kind)∧wz.cell? ⟨cg,r*5+1,none⟩=some (.int .i64 st.cells[r].n))∧(∃v5,wz.cell? ⟨M,5,none⟩=some v5)∧wz.frozen? ⟨M,5,none⟩=false):=λwz hb=>⟨⟨cell_keep hb k0,cell_keep hb k1⟩,⟨_,(h.keep hb).m.at 5 rfl⟩,(h.keep hb).m.fz 5⟩;have HSP:Hid (∀j wz,Below w.heap.size w wz->Calls Tryz.prog 227 #[.pointer (some ⟨M,0,none⟩),.int .i64 j] wz λe w''=>e=.returned (.tuple #[])∧Hid (MRes lo M Pb B w (stopS j st) (.tuple #[]) (.returned (.tuple #[])) w'')):=λj wz hbz=>(stop_any j (hMM.keep hbz)).mono λe w'' hr=>⟨hr.1,hr.of (AG.of_below hbz) (λb hb=>Or.inl hb) rfl⟩;have HJP:Hid (∀(x:Int) wz,Below w.heap.size w wz->MRes lo M Pb B w {st with fr:={st.fr with at_:=x}} (.tuple #[]) (.returned (.tuple #[])) (wz.setCell ⟨M,5,none⟩ (.int .i64 x))):=λx wz hb=>by
  have h1:=(h.keep hb).setM (i:=5) (u:=.int .i64 x) (st':={st with fr:={st.fr with at_:=x}}) (kv':=kv) rfl (by omega) rfl rfl rfl rfl (h.keep hb).cd;exact⟨rfl,(AG.of_below hb).set (Or.inl (by rw[hBe];exact List.mem_cons_self ..)) _,_,⟨cs,ds,_,_,kv,dv,tv,h1,rfl⟩,λb hb=>Or.inl (by rw[hBe];exact hb)⟩
 have hlz:=h.lz;have HG:=hid hg;have i0:(0:Int)<=(r:Int):=by omega
 have i1:(r:Int)<(st.cells.length:Int):=by omega
 have HFS:Hid (forkS alts st=if st.cells[r].kind≠3 then stopS 3 st else match alts.find? (λa=>decide (a.tag=st.cells[r].n)) with|some a=>{st with fr:={st.fr with at_:=a.to}}|none=>stopS 4 st):=by
  show _=_;unfold forkS;rw[htop]
 generalize st.cells[r].kind=kd at*;generalize st.cells[r].n=nn at*;clear h hMM hsc k0 k1 hBe hal htop hg hs;go_enter Tryz.func288,Tryz.ntmps288;go_upto_region 0 with fail
 go_region_held_law (λw'=>w'.cell? ⟨M,1,none⟩=some (.slice (some ⟨cg,0,none⟩) st.cells.length cc)∧w'.cell? ⟨sg,s.length,none⟩=some (.int .i32 (r:Int))) (first|(with_reducible exact⟨x1d,xsd⟩)|(with_reducible exact⟨x1e,xse⟩))
  (first
   |(go_at_call 276;with_reducible refine(HTP.out _ rfl).mono ?_;rintro e w3 ⟨rfl,rfl⟩))
 obtain⟨w1,hw1⟩:∃w1,w.drew.drew=w1:=⟨_,rfl⟩;have HB1:Hid (Below w.heap.size w w1):=by rw[<-hw1];exact(Below.refl _ _).drew.drew
 rw[hw1];obtain⟨⟨y0,y1⟩,-⟩:=HK.out w1 HB1.out;clear x1 xs x1d xsd x1e xse HTP hw1;by_cases h3:kd=3
 ·subst h3;have HFS2:Hid (forkS alts st=match alts.find? (λa=>decide (a.tag=nn)) with|some a=>{st with fr:={st.fr with at_:=a.to}}|none=>stopS 4 st):=by
   show _=_;rw[HFS.out,if_neg (by simp)]
  clear HFS;go_wp2;go_loopw [25] (λjv wr=>∃j:Nat,j<=alts.length∧jv=.int .i64 (j:Int)∧Hid (Below w1.heap.size w1 wr)∧Hid (∀i (hi:i<alts.length),i<j->alts[i].tag≠nn)) (λjv _=>alts.length-(intOf jv).toNat)
  case atStart=>exact⟨0,Nat.zero_le _,rfl,Below.refl _ _,λi _ hi=>absurd hi (by omega)⟩
  case round=>
   clear y0 y1;rename World=>wr
   obtain⟨j,hjl,rfl,HBr,HNO⟩:=hrel;have HBw:=hid (HB1.out.trans (HBr.out.mono HB1.out.size));by_cases hj:j<alts.length
   ·have hji:(j:Int)<(alts.length:Int):=by omega
    have hj0:(0:Int)<=(j:Int):=by omega
    obtain⟨b,hblo,rfl,-⟩:=hac j hj;obtain⟨p',c',e',hx⟩:=HAL.out.fr (HBw.out.mono hlz);cases e';obtain⟨b',hb',eb,z0,z1⟩:=hx j hj;cases eb;obtain⟨⟨t0,t1⟩,to0,to1⟩:=HG.out _ (List.getElem_mem hj);have hwt:IntKind.i64.wrap alts[j].tag=alts[j].tag:=i64w (by omega);have hwo:IntKind.i64.wrap alts[j].to=alts[j].to:=i64w (by omega);have HB5:Hid (∀o,Below wr.heap.size wr (wr.alloc o).drew):=λo=>((Below.refl _ _).alloc (Nat.le_refl _) _).drew;have HBx:Hid (∀o,Below w.heap.size w (wr.alloc o).drew):=λo=>HBw.out.trans ((HB5.out o).mono HBw.out.size);have q:=λo=>HK.out _ (HBx.out o);have q1:=λo=>(q o).1.2;have q5:=λo=>(q o).2.1;have qf:=λo=>(q o).2.2;obtain⟨TG,hTG⟩:∃TG,alts[j].tag=TG:=⟨_,rfl⟩;obtain⟨TO,hTO⟩:∃TO,alts[j].to=TO:=⟨_,rfl⟩;have HTG:=hid hTG;have HTO:=hid hTO;rw[hTG]at z0 hwt;rw[hTO]at z1 hwo;clear q hx hac hTG hTO t0 t1 to0 to1;obtain⟨v5,k5⟩:=q5 (.cells #[.int .u8 TG,.int .u16 TO] 460);have kf:=qf (.cells #[.int .u8 TG,.int .u16 TO] 460);have kn:=q1 (.cells #[.int .u8 TG,.int .u16 TO] 460);have kn0:(wr.alloc (.cells #[.int .u8 TG,.int .u16 TO] 460)).cell? ⟨cg,r*5+1,none⟩=some (.int .i64 nn):=kn;clear q1 q5 qf;go_upto_region 6 with fail
    go_region
    all_goals
     by_cases hn:TG=nn
     ·subst hn;go_wp2;refine bE ?_;have hfind:alts.find? (λa=>decide (a.tag=TG))=some alts[j]:=by
       rw[List.find?_eq_some_iff_getElem];exact⟨by simp[HTG.out],j,hj,rfl,λi hi=>by simpa using HNO.out i (by omega) hi⟩
      have:=HFS2.out;rw[hfind]at this;rw[this];show MRes lo M Pb B w {st with fr:={st.fr with at_:=alts[j].to}} _ _ _;rw[HTO.out];exact HJP.out _ _ (HBx.out _)
     ·go_wp2;refine⟨⟨j+1,by omega,by go_num,HBr.out.trans ((HB5.out _).mono HBr.out.size),λi hi hij=>?_⟩,by simp[intOf];omega⟩;by_cases e:i=j
      ·subst e;rw[HTG.out];exact hn
      ·exact HNO.out i hi (by omega)
   ·obtain rfl:j=alts.length:=by omega
    have hji:¬((alts.length:Int)<(alts.length:Int)):=by omega
    have HS4:=hid (HSP.out 4 wr HBw.out);go_wp2_with (first
     |(go_at_call 227;refine HS4.out.mono ?_;rintro e w5 ⟨rfl,HRR⟩))
    refine bE ?_;have hfind:alts.find? (λa=>decide (a.tag=nn))=none:=by
     rw[List.find?_eq_none];intro a ha;obtain⟨i,hi,rfl⟩:=List.getElem_of_mem ha;simpa using HNO.out i hi hi
    have:=HFS2.out;rw[hfind]at this;rw[this];exact HRR.out
 ·have HS3:=hid (HSP.out 3 w1 HB1.out);have HFS2:Hid (forkS alts st=stopS 3 st):=by
   show _=_;rw[HFS.out,if_pos h3]
  clear HFS;go_wp2_with (first
   |(go_at_call 227;refine HS3.out.mono ?_;rintro e w5 ⟨rfl,HRR⟩))
  refine bE ?_;rw[HFS2.out];exact HRR.out
def NxF(lo M Pb:Nat)(B:List Nat)(w:World)(st:MSt)(k:Nat)(w1:World):Prop:=∃b n c:Nat,∃B1,(k:Int)<(n:Int)∧w1.cell? ⟨M,4,none⟩=some (.slice (some ⟨b,0,none⟩) n c)∧w1.cell? ⟨M,5,none⟩=some (.int .i64 (k:Int))∧w1.frozen? ⟨M,5,none⟩=false∧(w1.setCell ⟨M,5,none⟩ (.int .i64 ((k:Int)+1))).cell? ⟨b,k*3,none⟩=some (.int .i64 ((st.fr.code[k]?).getD ⟨0,0,[]⟩).op)∧(w1.setCell ⟨M,5,none⟩ (.int .i64 ((k:Int)+1))).cell? ⟨b,k*3+1,none⟩=some (.int .i64 ((st.fr.code[k]?).getD ⟨0,0,[]⟩).a)∧b∉B1∧b<(w1.setCell ⟨M,5,none⟩ (.int .i64 ((k:Int)+1))).drew.heap.size∧MM lo (w1.setCell ⟨M,5,none⟩ (.int .i64 ((k:Int)+1))).drew M Pb (nextS (stepS st)) B1∧AG B w (w1.setCell ⟨M,5,none⟩ (.int .i64 ((k:Int)+1))).drew∧∀b∈B1,b∈B∨w.heap.size<=b
theorem step_next{lo:Nat}{w:World}{M Pb:Nat}{st:MSt}{B:List Nat}(h:MM lo w M Pb st B)(hm:Mtr st)(hsb:stepB st=true){k:Nat}(hat:st.fr.at_=(k:Int))(hk:k<st.fr.code.length):
 Calls Tryz.prog 167 #[.pointer (some ⟨M,0,none⟩)] w λe w1=>e=.returned (.bool true)∧NxF lo M Pb B w st k w1:=by
 refine(step_any h hm).mono λe w1 hr=>?_;have he:=hr.1;obtain⟨-,hag,B1,hM,hB1⟩:=hr;rw[hsb]at he;have hat':(stepS st).fr.at_=(k:Int):=by rw[stepS_ok hsb];exact hat
 have hcd:(stepS st).fr.code=st.fr.code:=by rw[stepS_ok hsb]
 obtain⟨b,n,c,ap,an,ac,hkn,e4,e5,f5,⟨c0,c1,c2⟩,hbB,hbw,hN,hA⟩:=hM.next (k:=k) hat' (by rw[hcd];exact hk);simp only[hcd]at c0 c1;refine⟨he,b,n,c,B1,by omega,e4,e5,f5,?_,?_,hbB,by simpa using hbw,hN.keep (Below.refl _ _).drew,(hag.trans hA hB1).then (Below.refl _ _).drew,hB1⟩
 ·rw[List.getElem?_eq_getElem hk];exact c0
 ·rw[List.getElem?_eq_getElem hk];exact c1
theorem do2_any{lo:Nat}{w:World}{M Pb:Nat}{st:MSt}{B:List Nat}(h:MM lo w M Pb st B)(hm:Mtr st)(hsb:stepB st=true){k:Nat}(hat:st.fr.at_=(k:Int))(hk:k<st.fr.code.length)(hkb:k<=1000000000)(hop:st.fr.code[k].op=2)(hl:st.stack.length<=1000000000){j:Nat}(hj:st.fr.code[k].a=(j:Int))(hjl:j<st.stack.length):
 Calls Tryz.prog 225 #[.pointer (some ⟨M,0,none⟩)] w λe w'=>MRes lo M Pb B w (pushS (st.stack[st.stack.length-1-j]'(by omega)) (nextS (stepS st))) (.tuple #[]) e w':=by
 have HS:=hid (step_next h hm hsb hat hk);have hstk:(nextS (stepS st)).stack=st.stack:=by rw[stepS_ok hsb];rfl
 obtain⟨x,hx⟩:∃x,st.stack[st.stack.length-1-j]'(by omega)=x:=⟨_,rfl⟩;rw[hx];have HX:Hid (∀w1,NxF lo M Pb B w st k w1->∃b n c sg:Nat,(k:Int)<(n:Int)∧w1.cell? ⟨M,4,none⟩=some (.slice (some ⟨b,0,none⟩) n c)∧w1.cell? ⟨M,5,none⟩=some (.int .i64 (k:Int))∧w1.frozen? ⟨M,5,none⟩=false∧(w1.setCell ⟨M,5,none⟩ (.int .i64 ((k:Int)+1))).cell? ⟨b,k*3,none⟩=some (.int .i64 2)∧(w1.setCell ⟨M,5,none⟩ (.int .i64 ((k:Int)+1))).cell? ⟨b,k*3+1,none⟩=some (.int .i64 (j:Int))∧Hid (Calls Tryz.prog 276 #[.pointer (some ⟨M,0,none⟩),.int .i64 (j:Int)] (w1.setCell ⟨M,5,none⟩ (.int .i64 ((k:Int)+1))).drew λe w'=>e=.returned (.pointer (some ⟨sg,st.stack.length-1-j,none⟩))∧w'=(w1.setCell ⟨M,5,none⟩ (.int .i64 ((k:Int)+1))).drew.drew)∧(w1.setCell ⟨M,5,none⟩ (.int .i64 ((k:Int)+1))).cell? ⟨sg,st.stack.length-1-j,none⟩=some (.int .i32 x)∧Hid (Calls Tryz.prog 277 #[.pointer (some ⟨M,0,none⟩),.int .i32 x] (w1.setCell ⟨M,5,none⟩ (.int .i64 ((k:Int)+1))).drew.drew λe w'=>e=.returned (.tuple #[])∧Hid (MRes lo M Pb B w (pushS x (nextS (stepS st))) (.tuple #[]) (.returned (.tuple #[])) w'))):=by
  rintro w1 ⟨b,n,c,B1,hkn,e4,e5,f5,c0,c1,hbB,hbw,hN,hA,hB1⟩;rw[List.getElem?_eq_getElem hk,Option.getD_some]at c0 c1;rw[hop]at c0;rw[hj]at c1;have hN2:=hN.keep (Below.refl _ _).drew;obtain⟨cs,ds,cv,sv,kv,dv,tv,hN,hBe⟩:=hN;obtain⟨sg,sc,rfl,-,hsc⟩:=stack_slice hN.sk (by rw[hstk];omega);refine⟨b,n,c,sg,hkn,e4,e5,f5,c0,c1,?_,?_,?_⟩
  ·have:=top_any j (hN.m.at 2 rfl) (by rw[hstk];omega) (by rw[hstk];omega);rw[hstk]at this;exact this
  ·have:=hsc (st.stack.length-1-j) (by rw[hstk];omega);rw[hstk]at this;refine this.trans ?_;rw[<-hx];simp[rfC]
  ·refine(push_any x hN2 (by rw[hstk];omega)).mono λe w' hr=>?_;have he:=hr.1;exact⟨he,hr.of (hA.then (Below.refl _ _).drew) hB1 rfl⟩
 clear h hsb hm hat hx;go_enter Tryz.func225,Tryz.ntmps225;go_wp2_with (first
  |(go_at_call 167;refine HS.out.mono ?_;rintro e w1 ⟨rfl,hx⟩;obtain⟨b,n,c,sg,hkn,e4,e5,f5,c0,c1,HT,xs,HP⟩:=HX.out w1 hx;clear hx HX HS))
 go_region
 go_wp2_with (first
  |(go_at_call 276;refine HT.out.mono ?_;rintro e w2 ⟨rfl,rfl⟩)
  |(go_at_call 277;refine HP.out.mono ?_;rintro e w3 ⟨rfl,HRR⟩))
 refine bE ?_;exact HRR.out
theorem do34_any{lo:Nat}{w:World}{M Pb:Nat}{st:MSt}{B:List Nat}(h:MM lo w M Pb st B)(hm:Mtr st)(hsb:stepB st=true){k:Nat}(hat:st.fr.at_=(k:Int))(hk:k<st.fr.code.length)(hkb:k<=1000000000)(hl:st.stack.length<=1000000000)(hcl:st.cells.length<=1000000000)(res:MSt)(hop:(st.fr.code[k].op=3∧∃s x f,st.stack=s++[x,f]∧res=putS ⟨2,0,f,x,[]⟩ (dropS 1 (dropS 1 (nextS (stepS st)))))∨(st.fr.code[k].op=4∧∃s x,∃j:Nat,st.stack=s++[x]∧st.fr.code[k].a=(j:Int)∧j<=s.length∧res=pushS x (dropS j (dropS 1 (nextS (stepS st)))))):
 Calls Tryz.prog 225 #[.pointer (some ⟨M,0,none⟩)] w λe w'=>MRes lo M Pb B w res (.tuple #[]) e w':=by
 have HS:=hid (step_next h hm hsb hat hk);have hstk:(nextS (stepS st)).stack=st.stack:=by rw[stepS_ok hsb];rfl
 have hcls:(nextS (stepS st)).cells=st.cells:=by rw[stepS_ok hsb];rfl
 have hmt:Mtr (nextS (stepS st)):=by
  rw[stepS_ok hsb];have h1:1<=st.sm-st.su:=by simpa[stepB]using hsb
  have:=hm.su;exact⟨by simp only[nextS];omega,hm.sm,hm.mu,hm.mm⟩
 rcases hop with⟨hop,s,x,f,hs,hres⟩|⟨hop,s,x,j,hs,hj,hjl,hres⟩
 ·have HX:Hid (∀w1,NxF lo M Pb B w st k w1->∃b n c:Nat,(k:Int)<(n:Int)∧w1.cell? ⟨M,4,none⟩=some (.slice (some ⟨b,0,none⟩) n c)∧w1.cell? ⟨M,5,none⟩=some (.int .i64 (k:Int))∧w1.frozen? ⟨M,5,none⟩=false∧(w1.setCell ⟨M,5,none⟩ (.int .i64 ((k:Int)+1))).cell? ⟨b,k*3,none⟩=some (.int .i64 3)∧Hid (Calls Tryz.prog 282 #[.pointer (some ⟨M,0,none⟩)] (w1.setCell ⟨M,5,none⟩ (.int .i64 ((k:Int)+1))).drew λe w2=>e=.returned (.int .i32 f)∧Hid (Calls Tryz.prog 282 #[.pointer (some ⟨M,0,none⟩)] w2 λe w3=>e=.returned (.int .i32 x)∧Hid (Calls Tryz.prog 281 #[.pointer (some ⟨M,0,none⟩),.agg #[.int .u8 2,.int .i64 0,.int .i32 f,.int .i32 x,.slice none 0 0]] w3 λe w4=>e=.returned (.tuple #[])∧Hid (MRes lo M Pb B w res (.tuple #[]) (.returned (.tuple #[])) w4))))):=by
   rintro w1 ⟨b,n,c,B1,hkn,e4,e5,f5,c0,c1,hbB,hbw,hN,hA,hB1⟩;rw[List.getElem?_eq_getElem hk,Option.getD_some,hop]at c0;refine⟨b,n,c,hkn,e4,e5,f5,c0,?_⟩;refine(pop_any hN (s:=s++[x]) (x:=f) (by rw[hstk,hs];simp) (by rw[hstk];omega)).mono λe w2 hr2=>?_;have he2:=hr2.1;obtain⟨-,hA2,B2,hM2,hB2⟩:=hr2;have hA2':=hA.trans hA2 hB1;have hB2':∀b∈B2,b∈B∨w.heap.size<=b:=λb hb=>(hB2 b hb).elim (hB1 b) λh1=>Or.inr (Nat.le_trans hA.size h1);have hs2:(dropS 1 (nextS (stepS st))).stack=s++[x]:=by
    show(nextS (stepS st)).stack.take _=_;rw[hstk,hs,show s++[x,f]=(s++[x])++[f] by simp];exact List.take_left' (by simp)
   have hsl:st.stack.length=s.length+2:=by rw[hs];simp
   refine⟨he2,(pop_any hM2 (s:=s) (x:=x) hs2 (by rw[hs2];simp;omega)).mono λe w3 hr3=>?_⟩;have he3:=hr3.1;obtain⟨-,hA3,B3,hM3,hB3⟩:=hr3;have hA3':=hA2'.trans hA3 hB2';have hB3':∀b∈B3,b∈B∨w.heap.size<=b:=λb hb=>(hB3 b hb).elim (hB2' b) λh1=>Or.inr (Nat.le_trans hA2'.size h1);have hs3:(dropS 1 (dropS 1 (nextS (stepS st)))).stack=s:=by
    show(dropS 1 (nextS (stepS st))).stack.take _=_;rw[hs2];simp
   refine⟨he3,(put_any2 ⟨2,0,f,x,[]⟩ (.slice none 0 0) ⟨none,0,rfl,λi hi=>absurd hi (by simp)⟩ ⟨_,_,_,rfl⟩ hM3 ⟨hmt.su,hmt.sm,hmt.mu,hmt.mm⟩ (by rw[hs3];omega) (by show(nextS (stepS st)).cells.length<=_;rw[hcls];exact hcl)).mono λe w4 hr4=>?_⟩;have he4:=hr4.1;rw[<-hres]at hr4;exact⟨he4,hr4.of hA3' hB3' rfl⟩
  clear h hsb hm hat hmt hres;go_enter Tryz.func225,Tryz.ntmps225;go_wp2_with (first
   |(go_at_call 167;refine HS.out.mono ?_;rintro e w1 ⟨rfl,hx⟩;obtain⟨b,n,c,hkn,e4,e5,f5,c0,HP⟩:=HX.out w1 hx;clear hx HX HS))
  go_region
  go_wp2_with (first
   |(go_at_call 282;first|(refine HQ.out.mono ?_;rintro e w3 ⟨rfl,HU⟩)|(refine HP.out.mono ?_;rintro e w2 ⟨rfl,HQ⟩))
   |(go_at_call 281;refine HU.out.mono ?_;rintro e w4 ⟨rfl,HRR⟩))
  refine bE ?_;exact HRR.out
 ·have HX:Hid (∀w1,NxF lo M Pb B w st k w1->∃b n c:Nat,(k:Int)<(n:Int)∧w1.cell? ⟨M,4,none⟩=some (.slice (some ⟨b,0,none⟩) n c)∧w1.cell? ⟨M,5,none⟩=some (.int .i64 (k:Int))∧w1.frozen? ⟨M,5,none⟩=false∧(w1.setCell ⟨M,5,none⟩ (.int .i64 ((k:Int)+1))).cell? ⟨b,k*3,none⟩=some (.int .i64 4)∧Hid (Calls Tryz.prog 282 #[.pointer (some ⟨M,0,none⟩)] (w1.setCell ⟨M,5,none⟩ (.int .i64 ((k:Int)+1))).drew λe w2=>e=.returned (.int .i32 x)∧w2.cell? ⟨b,k*3+1,none⟩=some (.int .i64 (j:Int))∧Hid (Calls Tryz.prog 283 #[.pointer (some ⟨M,0,none⟩),.int .i64 (j:Int)] w2 λe w3=>e=.returned (.tuple #[])∧Hid (Calls Tryz.prog 277 #[.pointer (some ⟨M,0,none⟩),.int .i32 x] w3 λe w4=>e=.returned (.tuple #[])∧Hid (MRes lo M Pb B w res (.tuple #[]) (.returned (.tuple #[])) w4))))):=by
   rintro w1 ⟨b,n,c,B1,hkn,e4,e5,f5,c0,c1,hbB,hbw,hN,hA,hB1⟩;rw[List.getElem?_eq_getElem hk,Option.getD_some]at c0 c1;rw[hop]at c0;rw[hj]at c1;refine⟨b,n,c,hkn,e4,e5,f5,c0,?_⟩;refine(pop_any hN (s:=s) (x:=x) (by rw[hstk,hs]) (by rw[hstk];omega)).mono λe w2 hr2=>?_;have he2:=hr2.1;obtain⟨-,hA2,B2,hM2,hB2⟩:=hr2;have hA2':=hA.trans hA2 hB1;have hB2':∀b∈B2,b∈B∨w.heap.size<=b:=λb hb=>(hB2 b hb).elim (hB1 b) λh1=>Or.inr (Nat.le_trans hA.size h1);have hs2:(dropS 1 (nextS (stepS st))).stack=s:=by simp[dropS,hstk,hs]
   have hsl:st.stack.length=s.length+1:=by rw[hs];simp
   refine⟨he2,cell_same (hA2.block b hbw hbB) c1,(drop_any j hM2 (by rw[hs2];exact hjl) (by rw[hs2];omega)).mono λe w3 hr3=>?_⟩;have he3:=hr3.1;obtain⟨-,hA3,B3,hM3,hB3⟩:=hr3;have hA3':=hA2'.trans hA3 hB2';have hB3':∀b∈B3,b∈B∨w.heap.size<=b:=λb hb=>(hB3 b hb).elim (hB2' b) λh1=>Or.inr (Nat.le_trans hA2'.size h1);refine⟨he3,(push_any x hM3 (by show((dropS 1 (nextS (stepS st))).stack.take _).length<=_;rw[hs2];simp;omega)).mono λe w4 hr4=>?_⟩;have he4:=hr4.1;rw[<-hres]at hr4;exact⟨he4,hr4.of hA3' hB3' rfl⟩
  clear h hsb hm hat hmt hres;go_enter Tryz.func225,Tryz.ntmps225;go_wp2_with (first
   |(go_at_call 167;refine HS.out.mono ?_;rintro e w1 ⟨rfl,hx⟩;obtain⟨b,n,c,hkn,e4,e5,f5,c0,HP⟩:=HX.out w1 hx;clear hx HX HS))
  go_region
  go_wp2_with (first
   |(go_at_call 282;refine HP.out.mono ?_;rintro e w2 ⟨rfl,y1,HQ⟩)
   |(go_at_call 283;refine HQ.out.mono ?_;rintro e w3 ⟨rfl,HU⟩)
   |(go_at_call 277;refine HU.out.mono ?_;rintro e w4 ⟨rfl,HRR⟩))
  refine bE ?_;exact HRR.out
section
variable {lo:Nat} {w w4:World} {M Pb:Nat} {st:MSt} {cs:List (MCl×Value)} {ds:List (MFr×Value)} {cv sv kv dv tv:Value}
theorem MMem.turnD(h:MMem lo w M Pb st cs ds cv sv kv dv tv)(hA:AG (vB dv) w w4){dv':Value}{ds':List (MFr×Value)}(hown:w4.ownsRow lo 246 3 dv' ds'.length (ds'.flatMap frC))(hdc:∀x∈ds',CdAt lo w x.2 x.1.code)(hv:∀b∈vB dv',b∈vB dv∨w.heap.size<=b):
 MMem lo (w4.setCell ⟨M,6,none⟩ dv') M Pb {st with dump:=ds'.map (·.1)} cs ds' cv sv kv dv' tv∧AG (mB M cv sv dv tv) w (w4.setCell ⟨M,6,none⟩ dv')∧∀b∈mB M cv sv dv' tv,b∈mB M cv sv dv tv∨w.heap.size<=b:=by
 have hrg:=h.rg;have eB:∀v,mB M cv sv v tv=(M::(vB cv++vB sv))++(vB v++vB tv):=λv=>by simp[mB]
 have hnd:((M::(vB cv++vB sv))++(vB dv++vB tv)).Nodup:=by rw[<-eB];exact h.nd
 have hnd':((M::(vB cv++vB sv))++(vB dv'++vB tv)).Nodup:=nd_swap hnd (vB_nd _) hv λb hb=>(hrg b (by rw[eB];exact hb)).2;have hd:=List.nodup_append.1 hnd;have hd2:=List.nodup_append.1 hd.2.1;have hnD:∀b,b∈(M::(vB cv++vB sv))∨b∈vB tv->b∉vB dv:=λb hb hm=>by
  rcases hb with hb|hb
  ·exact hd.2.2 b hb b (List.mem_append_left _ hm) rfl
  ·exact hd2.2.2 b hm b hb rfl
 have hMn:∀b,b∈(vB cv++vB sv)++(vB dv'++vB tv)->b≠M:=λb hb e=>by
  rw[List.cons_append]at hnd';exact(List.nodup_cons.1 hnd').1 (e▸hb)
 have hz:=hA.size;have hblk:∀b,b<w.heap.size->b∉vB dv->b≠M->(w4.setCell ⟨M,6,none⟩ dv').heap[b]?=w.heap[b]?:=λb h1 h2 h3=>by rw[Below.heap_setCell _ _ _ _ h3];exact hA.block b h1 h2
 have hin:∀b,b∈vB cv++vB sv∨b∈vB tv->b∈mB M cv sv dv tv:=λb hb=>by
  rw[eB];rcases hb with hb|hb
  ·exact List.mem_append_left _ (List.mem_cons_of_mem _ hb)
  ·exact List.mem_append_right _ (List.mem_append_right _ hb)
 have hfr:∀v,(∀b∈vB v,b∈vB cv++vB sv∨b∈vB tv)->Fr (vB v) w (w4.setCell ⟨M,6,none⟩ dv'):=λv hv b hb=>hblk b (hrg b (hin b (hv b hb))).2 (hnD b ((hv b hb).imp (List.mem_cons_of_mem _) id)) (hMn b ((hv b hb).elim (λh=>List.mem_append_left _ h) λh=>List.mem_append_right _ (List.mem_append_right _ h)));have hDin:∀b,b∈vB dv->b∈mB M cv sv dv tv:=λb hb=>by rw[eB];exact List.mem_append_right _ (List.mem_append_left _ hb)
 have hAG:AG (mB M cv sv dv tv) w (w4.setCell ⟨M,6,none⟩ dv'):=AG.set ⟨hA.os,hA.tape,hA.output,hA.size,λk hk hX=>hA.block k hk λhm=>hX (hDin k hm)⟩ (Or.inl (List.mem_cons_self ..)) _;have hlow:Below lo w (w4.setCell ⟨M,6,none⟩ dv'):=hAG.low (λb hb=>(hrg b hb).1) h.lz;have hm4:FBL w4 M (mL Pb cv sv kv dv tv st):=h.m.of_block (hA.block M h.m.lt (hnD M (Or.inl (List.mem_cons_self ..)))) hz;have hnew:∀b∈mB M cv sv dv' tv,b∈mB M cv sv dv tv∨w.heap.size<=b:=λb hb=>by
  rw[eB]at hb;rcases List.mem_append.1 hb with hb|hb
  ·exact Or.inl (by rw[eB];exact List.mem_append_left _ hb)
  ·rcases List.mem_append.1 hb with hb|hb
   ·exact(hv b hb).imp (hDin b) id
   ·exact Or.inl (hin b (Or.inr hb))
 refine⟨⟨hm4.set (i:=6) (by simp[mL]) dv',row_fr h.cl (hfr cv λb hb=>Or.inl (List.mem_append_left _ hb)),λx hx=>(h.fl x hx).fr λb ⟨g1,g2⟩ hbl=>⟨⟨g1,λhm=>?_⟩,hblk b hbl (λhm=>g2 (hDin b hm)) (λe=>g2 (e▸List.mem_cons_self ..))⟩,row_fr h.sk (hfr sv λb hb=>Or.inl (List.mem_append_right _ hb)),?_,λx hx=>(hdc x hx).fr hlow,h.cd.fr hlow,row_fr h.tx (hfr tv λb hb=>Or.inr hb),h.hcs,rfl,by rw[eB];exact hnd',h.ml⟩,hAG,hnew⟩
 ·rcases hnew b hm with h1|h1
  ·exact g2 h1
  ·omega
 ·exact row_fr hown λb hb=>Below.heap_setCell _ _ _ _ (hMn b (List.mem_append_right _ (List.mem_append_left _ hb)))
end
def evalS(st:MSt):MSt:={st with dump:=st.dump++[st.fr],fr:={st.fr with base:=(st.stack.length:Int)-1}}
def DpC(lo M Pb:Nat)(B:List Nat)(w:World)(st:MSt)(wx:World):Prop:=∃B1,MM lo wx M Pb st B1∧AG B w wx∧∀b∈B1,b∈B∨w.heap.size<=b
theorem do8_any{lo:Nat}{w:World}{M Pb:Nat}{st:MSt}{B:List Nat}(R:MSt->Prop)(h:MM lo w M Pb st B)(hm:Mtr st)(hsb:stepB st=true){k:Nat}(hat:st.fr.at_=(k:Int))(hk:k<st.fr.code.length)(hkb:k<=1000000000)(hop:st.fr.code[k].op=8)(hne:0<st.stack.length)(hl:st.stack.length<=1000000000)(hdl:st.dump.length<=1000000000)
 (hL:∀w' B',MM lo w' M Pb (evalS (nextS (stepS st))) B'->Below lo w w'->Calls Tryz.prog 224 #[.pointer (some ⟨M,0,none⟩)] w' λe w''=>∃st2,R st2∧MRes lo M Pb B' w' st2 (.tuple #[]) e w''):
 Calls Tryz.prog 225 #[.pointer (some ⟨M,0,none⟩)] w λe w'=>∃st2,R st2∧MRes lo M Pb B w st2 (.tuple #[]) e w':=by
 obtain⟨fi,hfi,hfj⟩:=Option.map_eq_some_iff.1 Tryz.frameJ;simp only[Prod.mk.injEq]at hfj;obtain⟨hf0,hf1,hf2⟩:=hfj;have HS:=hid (step_next h hm hsb hat hk);have HLO:=hid h.lows;have hstk:(nextS (stepS st)).stack=st.stack:=by rw[stepS_ok hsb];rfl
 have hdmp:(nextS (stepS st)).dump=st.dump:=by rw[stepS_ok hsb];rfl
 have hfrk:(nextS (stepS st)).fr.at_=(k:Int)+1:=by rw[stepS_ok hsb];simp[nextS,hat]
 obtain⟨s1,hs1⟩:∃s1,nextS (stepS st)=s1:=⟨_,rfl⟩;rw[hs1]at hstk hdmp hfrk hL;have HX:Hid (∀w1,NxF lo M Pb B w st k w1->∃b n c:Nat,(k:Int)<(n:Int)∧w1.cell? ⟨M,4,none⟩=some (.slice (some ⟨b,0,none⟩) n c)∧w1.cell? ⟨M,5,none⟩=some (.int .i64 (k:Int))∧w1.frozen? ⟨M,5,none⟩=false∧(w1.setCell ⟨M,5,none⟩ (.int .i64 ((k:Int)+1))).cell? ⟨b,k*3,none⟩=some (.int .i64 8)∧Hid (DpC lo M Pb B w s1 (w1.setCell ⟨M,5,none⟩ (.int .i64 ((k:Int)+1))).drew)):=by
  rintro w1 ⟨b,n,c,B1,hkn,e4,e5,f5,c0,c1,hbB,hbw,hN,hA,hB1⟩;rw[List.getElem?_eq_getElem hk,Option.getD_some,hop]at c0;rw[hs1]at hN;exact⟨b,n,c,hkn,e4,e5,f5,c0,B1,hN,hA,hB1⟩
 have HD:Hid (∀W,DpC lo M Pb B w s1 W->∃(dp:Option Addr) (dc dn:Nat) (kp:Option Addr) (kn kc:Nat) (fs:List Value),fs.length=dn*3∧dn<=1000000000∧lo<=W.heap.size∧(W.cell? ⟨M,3,none⟩=some (.int .i64 s1.fr.base)∧W.cell? ⟨M,4,none⟩=some (.slice kp kn kc)∧W.cell? ⟨M,5,none⟩=some (.int .i64 ((k:Int)+1))∧W.cell? ⟨M,6,none⟩=some (.slice dp dn dc))∧Hid (W.ownsRow lo 246 3 (.slice dp dn dc) dn fs)∧Hid (∀Z w2 G c',Below W.heap.size W Z->Z.grownBy w2 (Value.slice dp dn dc).ownBlock->((Value.slice dp dn dc).ownBlock=some G∨G=Z.heap.size)->w2.ownsRow lo 246 3 (.slice (some ⟨G,0,none⟩) (dn+1) c') (dn+1) (fs++[.int .i64 s1.fr.base,.slice kp kn kc,.int .i64 ((k:Int)+1)])->(w2.cell? ⟨M,6,none⟩=some (.slice dp dn dc)∧w2.frozen? ⟨M,6,none⟩=false)∧Hid (DpC lo M Pb B w {s1 with dump:=s1.dump++[s1.fr]} (w2.setCell ⟨M,6,none⟩ (.slice (some ⟨G,0,none⟩) (dn+1) c'))))):=by
  rintro W ⟨B1,hM,hA,hB1⟩;obtain⟨cs,ds,cv,sv,kv,dv,tv,hM,hBe⟩:=hM;obtain⟨dp,dc,rfl⟩:=row_slice hM.dp;obtain⟨kp,kn,kc,rfl⟩:∃kp kn kc,kv=.slice kp kn kc:=by
   rcases hM.cd with⟨e,-⟩|⟨b,L,-,e,-⟩
   ·exact⟨_,_,_,e⟩
   ·exact⟨_,_,_,e⟩
  have hfl:∀l:List (MFr×Value),(l.flatMap frC).length=l.length*3:=λl=>by
   induction l with
   |nil=>rfl
   |cons a r ih=>rw[List.flatMap_cons,List.length_append,ih];simp[frC];omega
  have hdn:ds.length=st.dump.length:=by rw[<-hdmp,<-hM.hds,List.length_map]
  refine⟨dp,dc,ds.length,kp,kn,kc,ds.flatMap frC,hfl ds,by omega,hM.lz,⟨hM.m.at 3 rfl,hM.m.at 4 rfl,by rw[<-hfrk];exact hM.m.at 5 rfl,hM.m.at 6 rfl⟩,hM.dp,λZ w2 G c' hbz hg hat hown=>?_⟩;have hAd:AG (vB (.slice dp ds.length dc)) W w2:=AG.append hbz hg;have hz:=hbz.size;have hnM:M∉vB (.slice dp ds.length dc):=λhm=>(List.nodup_cons.1 hM.nd).1 (List.mem_append_right _ (List.mem_append_right _ (List.mem_append_left _ hm)));have hbM:=hAd.block M hM.m.lt hnM;obtain⟨t1,t2,t3⟩:=hM.turnD hAd (dv':=.slice (some ⟨G,0,none⟩) (ds.length+1) c') (ds':=ds++[(s1.fr,.slice kp kn kc)]) (by
   rw[List.length_append,List.flatMap_append];simp only[List.length_cons,List.length_nil,List.flatMap_cons,List.flatMap_nil,List.append_nil,frC,hfrk];exact hown) (λx hx=>by
   rcases List.mem_append.1 hx with hx|hx
   ·exact hM.dc x hx
   ·obtain rfl:=List.mem_singleton.1 hx;exact hM.cd) (λb hb'=>by
   rw[vB_slice]at hb';obtain rfl:=List.mem_singleton.1 hb';rcases hat with e|e
   ·exact Or.inl (mem_vB.2 e)
   ·right;omega)
  rw[List.map_append,hM.hds]at t1;rw[<-hBe]at t2 t3;exact⟨⟨cell_same hbM (hM.m.at 6 rfl),by rw[World.frozen?_of_block (a:=⟨M,6,none⟩) hbM];exact hM.m.fz 6⟩,_,⟨_,_,_,_,_,_,_,t1,rfl⟩,hA.trans t2 hB1,λb hb=>(t3 b hb).elim (hB1 b) λh1=>Or.inr (Nat.le_trans hA.size h1)⟩
 have HE:Hid (∀wx,DpC lo M Pb B w {s1 with dump:=s1.dump++[s1.fr]} wx->∃sp,∃sc:Nat,∃v3,wx.cell? ⟨M,2,none⟩=some (.slice sp st.stack.length sc)∧wx.cell? ⟨M,3,none⟩=some v3∧wx.frozen? ⟨M,3,none⟩=false∧Hid (Calls Tryz.prog 224 #[.pointer (some ⟨M,0,none⟩)] (wx.setCell ⟨M,3,none⟩ (.int .i64 ((st.stack.length:Int)-1))) λe w''=>e=.returned (.tuple #[])∧Hid (∃st2,R st2∧MRes lo M Pb B w st2 (.tuple #[]) (.returned (.tuple #[])) w''))):=by
  rintro wx ⟨B1,hM,hA,hB1⟩;obtain⟨cs,ds,cv,sv,kv,dv,tv,hM,hBe⟩:=hM;have hself:M∈B1:=by rw[hBe];exact List.mem_cons_self ..
  obtain⟨sp,sc,rfl⟩:=row_slice hM.sk;have h2:=hM.m.at 2 rfl;rw[show({s1 with dump:=s1.dump++[s1.fr]}:MSt).stack.length=st.stack.length from congrArg List.length hstk]at h2;refine⟨sp,sc,_,h2,hM.m.at 3 rfl,hM.m.fz 3,?_⟩;have h3:=hM.setM (i:=3) (u:=.int .i64 ((st.stack.length:Int)-1)) (st':=evalS s1) (kv':=kv) (by simp[mL,evalS,hstk]) (by omega) rfl rfl rfl rfl hM.cd;have hMM:MM lo (wx.setCell ⟨M,3,none⟩ (.int .i64 ((st.stack.length:Int)-1))) M Pb (evalS s1) B1:=⟨_,_,_,_,_,_,_,h3,hBe⟩;have hA3:AG B w (wx.setCell ⟨M,3,none⟩ (.int .i64 ((st.stack.length:Int)-1))):=hA.set (hB1 M hself) _;refine(hL _ _ hMM (hA3.low HLO.out.2 HLO.out.1)).mono ?_;rintro e w'' ⟨st2,hR,hr⟩;have he:=hr.1;exact⟨he,st2,hR,hr.of hA3 hB1 rfl⟩
 have i3:IntKind.i64.wrap ((st.stack.length:Int)-1)=(st.stack.length:Int)-1:=i64w (by omega);clear h hsb hm hat hL hs1 hstk hdmp hfrk;go_enter Tryz.func225,Tryz.ntmps225;go_wp2_with (first
  |(go_at_call 167;refine HS.out.mono ?_;rintro e w1 ⟨rfl,hx⟩;obtain⟨b,n,c,hkn,e4,e5,f5,c0,HW⟩:=HX.out w1 hx;clear hx HX HS))
 go_region
 go_upto_region 26 with fail
 obtain⟨W,hW⟩:∃W,(w1.setCell ⟨M,5,none⟩ (.int .i64 ((k:Int)+1))).drew=W:=⟨_,rfl⟩;rw[hW]at HW ⊢;clear hW e4 e5 f5 c0;obtain⟨dp,dc,dn,kp,kn,kc,fs,hfs,hdn,hlz,⟨m3,m4,m5,m6⟩,HOW,HNX⟩:=HD.out W HW.out;have m3a:=λo=>alloc_old W o _ _ _ m3;have m4a:=λo=>alloc_old W o _ _ _ m4;have m5a:=λo=>alloc_old W o _ _ _ m5;have m6a:=λo=>alloc_old W o _ _ _ m6;clear HD HW;go_cut [] (λwx=>Hid (DpC lo M Pb B w {s1 with dump:=s1.dump++[s1.fr]} wx))
 case first=>
  go_region_law
   (first
    |(refine step_append_lies _ rfl (.tmp 135) (.tmp 140) 247 rfl lo 246 fi _ 3 40 Tryz.underlying247 hfi hf0 hf1 hf2 rfl (by omega) (.slice dp dn dc) dn fs (by first|(simp[Act.eval];done)|(simp[Act.eval,Act.put];done)) (HOW.out.alloc _) ⟨W.heap.size,0,none⟩ 1 1 [.int .i64 s1.fr.base,.slice kp kn kc,.int .i64 ((k:Int)+1)] (by first|(simp[Act.eval];done)|(simp[Act.eval,Act.put];done)) rfl (by have h:=World.news_of_block (heap_alloc_new W (Obj.cells #[.int .i64 s1.fr.base,.slice kp kn kc,.int .i64 ((k:Int)+1)] 246));simpa using h) (by intro u hu;simp at hu;rcases hu with rfl|rfl|rfl<;>rfl) (by omega) (by unfold maxLen;omega) (by omega) (by simp;omega) _ rfl ?_;intro G1 c1 w7 hown hgrow hat hlt1;obtain⟨⟨k7,f7⟩,HC⟩:=HNX.out _ _ _ _ (by first|exact(Below.refl _ _).alloc (Nat.le_refl _) _|exact((Below.refl _ _).alloc (Nat.le_refl _) _).drew) hgrow hat hown;clear hown hgrow hat hlt1))
  all_goals(try go_wp2)
  all_goals
   go_meet
   first|exact HC|exact DpC.drew HC.out|exact DpC.drew (DpC.drew HC.out)
 case rest=>
  rename World=>wx
  obtain⟨sp,sc,v3,k2,k3,f3,HLK⟩:=HE.out wx hcut.out;clear hcut HE HNX HOW m3 m4 m5 m6 m3a m4a m5a m6a;go_wp2_with (first
   |(go_at_call 224;refine HLK.out.mono ?_;rintro e w5 ⟨rfl,HRR⟩))
  refine bE ?_;exact HRR.out
def frs(gs:List LGlob):Nat->List AFr->List MFr
 |_,[]=>[]
 |n,f::r=>⟨(n:Int),(gAt gs f.g).code,f.at_⟩::frs gs (n+f.s.length) r
theorem frs_snoc(gs:List LGlob):∀(l:List AFr) (n:Nat) (f:AFr),frs gs n (l++[f])=frs gs n l++[⟨((n+(l.flatMap (·.s)).length:Nat):Int),(gAt gs f.g).code,f.at_⟩]
 |[],n,f=>by simp[frs]
 |x::l,n,f=>by
  rw[List.cons_append,frs,frs_snoc gs l,frs,List.cons_append,List.flatMap_cons,List.length_append];simp only[List.cons.injEq,List.append_cancel_left_eq,MFr.mk.injEq,and_true,true_and];omega
structure Sim0 (gs:List LGlob) (t:List UInt8) (a:ASt) (m:MSt):Prop where
 cells:m.cells=a.cells
 stack:m.stack=flat a++a.now.s
 base:m.fr.base=((flat a).length:Int)
 dump:m.dump=frs gs 0 a.dump
 su:m.su=a.steps
 sm:m.sm=a.fuel
 mu:m.mu=a.used
 mm:m.mm=a.spare
 state:m.state=0
 kind:m.kind=a.kind
 text:m.text=t
structure Sim (gs:List LGlob) (t:List UInt8) (a:ASt) (m:MSt):Prop extends Sim0 gs t a m where
 code:m.fr.code=(gAt gs a.now.g).code
 at_:m.fr.at_=a.now.at_
structure SimE (t:List UInt8) (a:ASt) (m:MSt):Prop where
 state:m.state=2
 kind:m.kind=a.kind
 su:m.su=a.steps
 sm:m.sm=a.fuel
 mu:m.mu=a.used
 mm:m.mm=a.spare
 text:m.text=t
structure SimV (t:List UInt8) (v:Int) (a:ASt) (m:MSt):Prop where
 cells:m.cells=a.cells
 stack:m.stack=[v]
 su:m.su=a.steps
 sm:m.sm=a.fuel
 mu:m.mu=a.used
 mm:m.mm=a.spare
 state:m.state=1
 kind:m.kind=a.kind
 text:m.text=t
def SimR(gs:List LGlob)(t:List UInt8)(r:AR)(m:MSt):Prop:=match r.2 with
 |some v=>SimV t v r.1 m
 |none=>if r.1.ended then SimE t r.1 m else Sim gs t r.1 m
theorem simE_of{gs:List LGlob}{t:List UInt8}{a:ASt}{m:MSt}{k:Int}(h:a.ended=false)(hs:m.state=2)(hk:m.kind=k)(h1:m.su=a.steps)(h2:m.sm=a.fuel)(h3:m.mu=a.used)(h4:m.mm=a.spare)(h5:m.text=t):SimR gs t (rEnd k a,none) m:=by
 have e:rEnd k a={a with ended:=true,kind:=k}:=by unfold rEnd;rw[h];rfl
 rw[e];exact⟨hs,hk,h1,h2,h3,h4,h5⟩
theorem simA_of{gs:List LGlob}{t:List UInt8}{a:ASt}{m:MSt}(h:a.ended=false)(hs:Sim gs t a m):SimR gs t (a,none) m:=by
 unfold SimR;show if a.ended then _ else _
 rw[h];exact hs
theorem step_sim{gs:List LGlob}{a:ASt}{m:MSt}(hw:WfB gs a)(h1:m.su=a.steps)(h2:m.sm=a.fuel):stepB m=rStepB a:=by
 have:=hw.steps;unfold stepB rStepB;rw[hw.live,h1,h2,Bool.eq_iff_iff];simp;omega
theorem give_sim{gs:List LGlob}{D:Nat->Nat->Int}{t:List UInt8}{a:ASt}{m:MSt}(hw:WfC gs D a)(h:Sim0 gs t a m)(v:Int):SimR gs t (rVal v a) (giveS v m):=by
 have hs:m.stack.take m.fr.base.toNat=flat a:=by rw[h.stack,h.base];simp
 unfold giveS;simp only[hs];rcases List.eq_nil_or_concat a.dump with e|⟨l,f,e⟩
 ·have hd:=h.dump;have hf:flat a=[]:=by unfold flat;rw[e];rfl
  rw[e]at hd;rw[rVal_nil v e,hd,hf];exact⟨h.cells,rfl,h.su,h.sm,h.mu,h.mm,rfl,h.kind,h.text⟩
 ·rw[List.concat_eq_append]at e;have hd:=h.dump;have hf:flat a=l.flatMap (·.s)++f.s:=by unfold flat;rw[e,flat_snoc]
  rw[e,frs_snoc]at hd;rw[rVal_snoc v e,hd,hf];simp only[List.getLast?_append,List.getLast?_singleton,Option.some_or,List.dropLast_concat];refine simA_of hw.b.live ⟨⟨h.cells,?_,?_,rfl,h.su,h.sm,h.mu,h.mm,h.state,h.kind,h.text⟩,rfl,rfl⟩
  ·show _=l.flatMap (·.s)++(f.s++[v]);rw[List.append_assoc]
  ·show(((0+(l.flatMap (·.s)).length:Nat):Nat):Int)=((l.flatMap (·.s)).length:Int);omega
theorem last_app(l s:List Int)(h:0<s.length):(l++s).getLast?=s.getLast?:=by
 rw[List.getLast?_append];cases hs:s.getLast? with
 |none=>rw[List.getLast?_eq_none_iff]at hs;subst hs;simp at h
 |some x=>rfl
theorem topC_sim{gs:List LGlob}{t:List UInt8}{a:ASt}{m:MSt}(h:Sim0 gs t a m)(hp:0<a.now.s.length):topC m=cAt a ((a.now.s.getLast?).getD 0)∧m.stack.getLast?=a.now.s.getLast?:=by
 have e:m.stack.getLast?=a.now.s.getLast?:=by rw[h.stack,last_app _ _ hp]
 refine⟨?_,e⟩;unfold topC cAt;rw[e,h.cells]
theorem stk_app(f:Int->Int)(l s:List Int)(k:Nat)(hk:k<s.length):stk f (l++s) k=l++stk f s k:=by
 unfold stk;have e1:(l++s).length-k=l.length+(s.length-k):=by simp;omega
 have e2:(l++s).length-1-k=l.length+(s.length-1-k):=by simp;omega
 rw[e1,e2,List.take_append,List.drop_append];simp[List.take_of_length_le,List.drop_eq_nil_of_le]
theorem enter_sim{gs:List LGlob}{D:Nat->Nat->Int}(hG:ImgOk gs D){t:List UInt8}{a:ASt}{m:MSt}(hw:WfC gs D a)(h:Sim0 gs t a m){g:Int}(hg:0<=g∧g<(gs.length:Int)):SimR gs t (if (gAt gs g).arity<(a.now.s.length:Int) then (rEnter gs g a,none) else rVal (a.now.s.headD 0) a) (glS gs g m):=by
 obtain⟨hi,eg⟩:=gAt_eq hg;obtain⟨a0,a1⟩:=hG.ar _ hi;have hp:=hw.ne;have eg':(gs[g.toNat]?).getD ⟨⟨#[]⟩,0,false,[]⟩=gAt gs g:=rfl;unfold glS enterS;rw[eg'];have hu:undr m=(a.now.s.length:Int)-1:=by
  unfold undr;rw[h.stack,h.base];simp;omega
 rw[hu];by_cases ha:(gAt gs g).arity<(a.now.s.length:Int)
 ·rw[eg]at ha ⊢;rw[if_pos ha,if_neg (by omega)];have hargs:argsS gs[g.toNat].arity.toNat m=rArgs gs[g.toNat].arity.toNat a:=by
   unfold argsS rArgs;rw[h.stack];have e2:(flat a++a.now.s).length-1-gs[g.toNat].arity.toNat=(flat a).length+(a.now.s.length-1-gs[g.toNat].arity.toNat):=by simp;omega
   rw[e2,List.drop_append];simp[List.drop_eq_nil_of_le]
  have hk:∀r,knd m r=(cAt a r).kind:=λr=>by unfold knd cAt;rw[h.cells]
  have hr:rgt m=λr=>(cAt a r).right:=by funext r;unfold rgt cAt;rw[h.cells]
  unfold rEnter;rw[eg];simp only[hargs,hk];split
  ·refine simA_of hw.b.live ⟨⟨h.cells,?_,h.base,h.dump,h.su,h.sm,h.mu,h.mm,h.state,h.kind,h.text⟩,?_,rfl⟩
   ·show stk (rgt m) m.stack _=flat a++stk _ _ _;rw[h.stack,hr,stk_app _ _ _ _ (by omega)]
   ·show gs[g.toNat].code=(gAt gs g).code;rw[eg]
  ·exact simE_of hw.b.live rfl rfl h.su h.sm h.mu h.mm h.text
 ·rw[if_neg ha,if_pos (by omega)];have e:(m.stack[m.fr.base.toNat]?).getD 0=a.now.s.headD 0:=by
   rw[h.stack,h.base,Int.toNat_natCast,List.getElem?_append_right (Nat.le_refl _),Nat.sub_self,List.headD_eq_head?_getD,List.head?_eq_getElem?]
  rw[e];exact give_sim hw h _
theorem Sim0.stepped{gs:List LGlob}{t:List UInt8}{a:ASt}{m:MSt}(h:Sim0 gs t a m):Sim0 gs t {a with steps:=a.steps+1} {m with su:=m.su+1}:=
 ⟨h.cells,h.stack,h.base,h.dump,by show m.su+1=a.steps+1;rw[h.su],h.sm,h.mu,h.mm,h.state,h.kind,h.text⟩
theorem look_sim{gs:List LGlob}{D:Nat->Nat->Int}(hG:ImgOk gs D){t:List UInt8}:∀(n:Nat) {a:ASt} {m:MSt},WfC gs D a->Sim0 gs t a m->(a.fuel-a.steps).toNat=n->SimR gs t (aLook gs n a) (lookS (glS gs) giveS n m)
 |0,a,m,hw,h,hn=>by
  have h1:=hw.b.steps;have hb:=(rStep_no hw.b).1.2 (by omega);rw[aLook,(rStep_no hw.b).2 hb,lookS];have hsb:=step_sim hw.b h.su h.sm;rw[hb]at hsb;unfold stepS;rw[hsb];exact simE_of hw.b.live rfl rfl h.su h.sm h.mu h.mm h.text
 |n+1,a,m,hw,h,hn=>by
  have h1:=hw.b.steps;have hne:a.steps≠a.fuel:=by omega
  have hb:rStepB a=true:=by
   cases hb:rStepB a with
   |true=>rfl
   |false=>exact absurd ((rStep_no hw.b).1.1 hb) hne
  have hsb:=step_sim hw.b h.su h.sm;rw[hb]at hsb;obtain⟨ti,te,tc⟩:=cAt_ok hw.b hw.top;have hpos:=hw.ne;obtain⟨e1,e2⟩:=topC_sim h hpos;have hself:WfC gs D {a with steps:=a.steps+1}:=hw.stepped hne (s:=a.now.s) hw.s hw.ne (by omega);have hS:=h.stepped;have hdl:RefOk a.cells.length a.now.s.dropLast:=by rw[List.dropLast_eq_take];exact hw.s.take _
  have hu:undr m=(a.now.s.length:Int)-1:=by
   unfold undr;rw[h.stack,h.base];simp;omega
  rw[aLook,lookS,if_pos hb,if_pos hsb,stepS_ok hsb];simp only[e1,e2,hu];split
  ·rename_i hk
   have:=hw.stepped hne (s:=a.now.s.dropLast++[(cAt a ((a.now.s.getLast?).getD 0)).left]) (hdl.app (RefOk.one (tc.l (Or.inl hk)))) (by simp) (by simp;omega);refine look_sim hG n this ⟨h.cells,?_,h.base,h.dump,hS.su,h.sm,h.mu,h.mm,h.state,h.kind,h.text⟩ (by show(a.fuel-(a.steps+1)).toNat=n;omega);show m.stack.dropLast++_=flat a++(a.now.s.dropLast++_);rw[h.stack,List.dropLast_append_of_ne_nil (by intro e;rw[e]at hpos;simp at hpos),List.append_assoc]
  ·split
   ·rename_i hk
    have:=hw.stepped hne (s:=a.now.s++[(cAt a ((a.now.s.getLast?).getD 0)).left]) (hw.s.app (RefOk.one (tc.l (Or.inr hk)))) (by simp) (by simp);refine look_sim hG n this ⟨h.cells,?_,h.base,h.dump,hS.su,h.sm,h.mu,h.mm,h.state,h.kind,h.text⟩ (by show(a.fuel-(a.steps+1)).toNat=n;omega);show m.stack++_=flat a++(a.now.s++_);rw[h.stack,List.append_assoc]
   ·split
    ·exact simE_of hw.b.live rfl rfl hS.su h.sm h.mu h.mm h.text
    ·split
     ·rename_i hk
      exact enter_sim hG hself hS (tc.g hk)
     ·by_cases hl:1<a.now.s.length
      ·rw[if_pos hl,if_pos (by omega)];exact simE_of hw.b.live rfl rfl hS.su h.sm h.mu h.mm h.text
      ·rw[if_neg hl,if_neg (by omega)];exact give_sim hself hS _
section
variable {gs:List LGlob} {D:Nat->Nat->Int} {st:ASt}
def mu(st:ASt):Nat:=(st.fuel-st.steps).toNat
theorem rStep_yes(h:WfB gs st):(rStepB st=true↔st.steps≠st.fuel)∧(rStepB st=true->st.steps<st.fuel):=by
 have h1:=rStep_no h;have h2:=h.steps;constructor
 ·constructor
  ·intro h3 h4;rw[h1.1.2 h4]at h3;cases h3
  ·intro h3;cases h4:rStepB st with
   |true=>rfl
   |false=>exact absurd (h1.1.1 h4) h3
 ·intro h3;rcases Int.lt_or_eq_of_le h2.2 with h4|h4
  ·exact h4
  ·rw[h1.1.2 h4]at h3;cases h3
theorem unwind_wf{i:LIns}{d:Int}(hA:AtI gs D st i d)(h:WfA gs D st)(hne:st.steps≠st.fuel)(hop:i.op=19):WfC gs D (rNext st):=by
 have h1:=h.b.steps;have h2:=h.size;have h3:=h.dl;have hw:=(wr_need hA.w).2 (by omega);have hd:=hA.dl;exact⟨⟨⟨h.b.cells,h.b.nc,by show 0<=st.steps+1∧st.steps+1<=st.fuel;omega,h.b.fuel,h.b.used,h.b.spare,h.b.live⟩,h.s,h.ds,by show((flat st).length:Int)+(st.now.s.length:Int)<=256*(st.steps+1+1)+st.used;omega,by show(st.dump.length:Int)<=st.steps+1;omega⟩,by show 0<st.now.s.length;omega⟩
theorem eval_wf{i:LIns}{d:Int}(hA:AtI gs D st i d)(h:WfA gs D st)(hne:st.steps≠st.fuel)(hop:i.op=8):WfC gs D (rEval (rNext st)):=by
 have h1:=h.b.steps;have h2:=h.size;have h3:=h.dl;have hn:=(wr_need hA.w).1;rw[show i.op.toNat=8 by omega]at hn;simp[needR]at hn;have hd:=hA.dl;have hpos:0<st.now.s.length:=by omega
 obtain⟨k1,k2,k3⟩:=hA.nx _ (succ_next (k:=st.now.at_) (by omega) h.f.a.1);rw[show i.op.toNat=8 by omega]at k2;simp[moreR]at k2;refine⟨⟨⟨h.b.cells,h.b.nc,by show 0<=st.steps+1∧st.steps+1<=st.fuel;omega,h.b.fuel,h.b.used,h.b.spare,h.b.live⟩,RefOk.one ?_,λf hf=>?_,?_,?_⟩,by show 0<1;omega⟩
 ·rw[List.getLast?_eq_getElem?];exact h.s.at (by show st.now.s.length-1<st.now.s.length;omega)
 ·rcases List.mem_append.1 (show f∈st.dump++[{(rNext st).now with s:=(rNext st).now.s.dropLast}] from hf) with hf|hf
  ·exact h.ds f hf
  ·rw[List.mem_singleton.1 hf];refine⟨?_,⟨h.f.g,⟨by show 0<=st.now.at_+1;have:=h.f.a.1;omega,k1⟩,⟨k3,?_⟩⟩⟩
   ·show RefOk _ st.now.s.dropLast;rw[List.dropLast_eq_take];exact h.s.take _
   ·show D st.now.g.toNat (st.now.at_+1).toNat<=((st.now.s.dropLast.length+1:Nat):Int);rw[k2,List.length_dropLast];omega
 ·show(((st.dump++[({(rNext st).now with s:=(rNext st).now.s.dropLast}:AFr)]).flatMap (λf:AFr=>f.s)).length:Int)+1<=256*(st.steps+1+1)+st.used;rw[flat_snoc,List.length_append];show(((flat st).length+st.now.s.dropLast.length:Nat):Int)+1<=_;rw[List.length_dropLast];omega
 ·show((st.dump++[_]).length:Int)<=st.steps+1;rw[List.length_append,List.length_singleton];omega
theorem aDo_res(hG:ImgOk gs D)(h:WfA gs D st):ResOk gs D st (aDo gs st):=by
 unfold aDo;have hA:=at_ins hG h;cases hb:rStepB st with
 |false=>
  rw[(rStep_no h.b).2 hb];exact rEnd_res 1 (by decide) h.b.live rfl rfl (Int.le_refl _)
 |true=>
  have hne:=(rStep_yes h.b).1.1 hb;simp only[if_true];split
  ·rename_i hop
   exact(aLook_res hG _ (unwind_wf hA h hne hop) rfl).after rfl rfl (by show st.steps<=st.steps+1;omega)
  ·split
   ·rename_i hop
    exact(aLook_res hG _ (eval_wf hA h hne hop) rfl).after rfl rfl (by show st.steps<=st.steps+1;omega)
   ·rename_i h1 h2
    exact does_res hG h hne h1 h2
theorem rEnd_steps(k:Int)(st:ASt):(rEnd k st).steps=st.steps:=by unfold rEnd;split<;>rfl
theorem ite_P{P:ASt->Prop}{c:Prop}[Decidable c]{a b:ASt}(ha:P a)(hb:P b):P (if c then a else b):=by split<;>assumption
theorem rRoomS_steps(n:Int)(s:ASt):(rRoomS n s).steps=s.steps:=by
 unfold rRoomS;exact ite_P (P:=λt=>t.steps=s.steps) rfl (rEnd_steps _ _)
theorem rSplit_steps(n:Int)(s:ASt):(rSplit n s).steps=s.steps:=by
 unfold rSplit;exact ite_P (P:=λt=>t.steps=s.steps) (rEnd_steps _ _) rfl
theorem rFork_steps(l:List LAlt)(s:ASt):(rFork l s).steps=s.steps:=by
 unfold rFork;refine ite_P (P:=λt=>t.steps=s.steps) (rEnd_steps _ _) ?_;cases l.find? _ with
 |none=>exact rEnd_steps _ _
 |some a=>rfl
theorem rMakeN_steps(n:Nat)(s:ASt):(rMakeN n s).steps=s.steps:=by rw[rMakeN_eq]
theorem rDoes_steps(i:LIns)(s:ASt):(rDoes i s).steps=s.steps:=by
 unfold rDoes rReck;repeat' (first|exact rEnd_steps _ _|exact rSplit_steps _ _|exact rFork_steps _ _|exact rRoomS_steps _ _|exact(rMakeN_steps _ _).trans (rRoomS_steps _ _)|refine ite_P (P:=λt=>t.steps=s.steps) ?_ ?_|exact rfl)
theorem aDo_steps(hG:ImgOk gs D)(h:WfA gs D st)(hb:rStepB st=true):st.steps+1<=(aDo gs st).1.steps:=by
 unfold aDo;have hA:=at_ins hG h;have hne:=(rStep_yes h.b).1.1 hb;rw[hb];simp only[if_true];split
 ·rename_i hop
  exact(aLook_res hG _ (unwind_wf hA h hne hop) rfl).1.2.2
 ·split
  ·rename_i hop
   exact(aLook_res hG _ (eval_wf hA h hne hop) rfl).1.2.2
  ·rw[rDoes_steps];exact Int.le_refl _
theorem aGo_done{r:AR}(h:r.2≠none∨r.1.ended=true):∀n,aGo gs n r=r
 |0=>rfl
 |n+1=>by
  obtain⟨s,o⟩:=r;cases o with
  |some v=>rfl
  |none=>
   rcases h with h|h
   ·exact absurd rfl h
   ·rw[aGo,if_pos h]
theorem aGo_stable(hG:ImgOk gs D):∀(k n:Nat) {a:ASt} {r:AR},ResOk gs D a r->mu r.1+1<=k->mu r.1+1<=n->aGo gs k r=aGo gs n r∧((aGo gs k r).2≠none∨(aGo gs k r).1.ended=true)∧ResOk gs D a (aGo gs k r)
 |0,_,_,_,_,hk,_=>by omega
 |_+1,0,_,_,_,_,hn=>by omega
 |k+1,n+1,a,(s,some v),hR,hk,hn=>⟨rfl,Or.inl (by simp[aGo]),hR⟩
 |k+1,n+1,a,(s,none),hR,hk,hn=>by
  cases he:s.ended with
  |true=>
   rw[aGo_done (r:=(s,none)) (Or.inr he),aGo_done (r:=(s,none)) (Or.inr he)];exact⟨rfl,Or.inr he,hR⟩
  |false=>
   have hw:WfA gs D s:=by
    have:=hR.2;simp only[he]at this;exact this
   have hres:=aDo_res hG hw;have hsf:=hR.1.1;cases hb:rStepB s with
   |false=>
    have e:aDo gs s=(rEnd 1 s,none):=by unfold aDo;rw[hb,(rStep_no hw.b).2 hb];rfl
    have ee:(rEnd 1 s).ended=true:=by unfold rEnd;rw[he];rfl
    rw[aGo,aGo,he];simp only[Bool.false_eq_true,if_false];rw[e,aGo_done (Or.inr ee),aGo_done (Or.inr ee)];refine⟨rfl,Or.inr ee,?_⟩;rw[<-e];exact hres.after hR.1.1 hR.1.2.1 hR.1.2.2
   |true=>
    have hst:=aDo_steps hG hw hb;have hlt:=(rStep_yes hw.b).2 hb;have hfu:=hres.1.1;rw[aGo,aGo,he];simp only[Bool.false_eq_true,if_false];have hmu:mu (aDo gs s).1+1<=mu s:=by
     unfold mu;rw[hfu];omega
    have hk':mu s+1<=k+1:=hk;have hn':mu s+1<=n+1:=hn;exact aGo_stable hG k n (hres.after hR.1.1 hR.1.2.1 hR.1.2.2) (by omega) (by omega)
def aEnd(gs:List LGlob)(r:AR):AR:=aGo gs (mu r.1+1) r
theorem aEnd_next(hG:ImgOk gs D)(h:WfA gs D st):aEnd gs (st,none)=aEnd gs (aDo gs st):=by
 have hres:=aDo_res hG h;unfold aEnd;show aGo gs (mu st+1) (st,none)=_;rw[aGo,if_neg (by rw[h.b.live];decide)];cases hb:rStepB st with
 |false=>
  have e:aDo gs st=(rEnd 1 st,none):=by unfold aDo;rw[hb,(rStep_no h.b).2 hb];rfl
  have ee:(rEnd 1 st).ended=true:=by unfold rEnd;rw[h.b.live];rfl
  rw[e,aGo_done (Or.inr ee),aGo_done (Or.inr ee)]
 |true=>
  have hst:=aDo_steps hG h hb;have hlt:=(rStep_yes h.b).2 hb;have hfu:=hres.1.1;exact(aGo_stable hG _ _ hres (by unfold mu;rw[hfu];omega) (Nat.le_refl _)).1
theorem aEnd_done{r:AR}(h:r.2≠none∨r.1.ended=true):aEnd gs r=r:=aGo_done h _
theorem begin_wf(h:WfB gs st){c:Int}(hc:0<=c∧c<(st.cells.length:Int)):WfC gs D (aBegin c st):=by
 have h1:=h.steps;have h2:=h.used;exact⟨⟨⟨h.cells,h.nc,h.steps,h.fuel,h.used,h.spare,h.live⟩,RefOk.one hc,λf hf=>(by cases hf),(by show(([]:List Int).length:Int)+1<=256*(st.steps+1)+st.used;simp;omega),(by show(([]:List AFr).length:Int)<=st.steps;simp;omega)⟩,(by show 0<1;omega)⟩
theorem aWork_end(hG:ImgOk gs D)(h:WfB gs st){c:Int}(hc:0<=c∧c<(st.cells.length:Int)):aWork gs c st=aEnd gs (aLookF gs (aBegin c st))∧ResOk gs D st (aWork gs c st)∧((aWork gs c st).2≠none∨(aWork gs c st).1.ended=true):=by
 have hr:=aLook_res hG _ (begin_wf (D:=D) h hc) rfl;have hr2:ResOk gs D st (aLookF gs (aBegin c st)):=hr.after rfl rfl (Int.le_refl _);have hfu:=hr2.1.1;have hst:=hr2.1.2.2;obtain⟨k1,k2,k3⟩:=aGo_stable hG ((st.fuel-st.steps).toNat+1) (mu (aLookF gs (aBegin c st)).1+1) hr2 (by unfold mu;rw[hfu];omega) (Nat.le_refl _);exact⟨k1,k3,k2⟩
end
end Go.Proofs.YtdpodpjdcfjfgaaGreatDoor
