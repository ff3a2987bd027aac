import Derived.Test.YtahmgjjgikgpoaaGreatDoorKaJ
import Derived.Test.YtahmgjjgikgpoaaGreatDoorJz5J
set_option maxRecDepth 100000
set_option maxHeartbeats 2000000
namespace Go.Proofs.YtahmgjjgikgpoaaGreatDoor
open Go.RowKit Go.Sort
section
variable {lo:Nat} {w:World} {M Pb:Nat} {st:MSt} {cs:List (MCl×Value)} {ds:List (MFr×Value)} {cv sv kv tv:Value}
theorem flat3_take:∀(l:List (MFr×Value)) (m:Nat),(l.flatMap frC).take (m*3)=(l.take m).flatMap frC
 |[],m=>by simp
 |x::r,0=>by simp
 |x::r,m+1=>by
  rw[List.take_succ_cons,List.flatMap_cons,List.flatMap_cons,<-flat3_take r m,show(m+1)*3=(frC x).length+m*3 by simp[frC];omega,List.take_length_add_append]
theorem MMem.cutTo{dp:Option Addr}{dc m:Nat}(h:MMem lo w M Pb st cs ds cv sv kv (.slice dp ds.length dc) tv)(hm:m<=ds.length):MMem lo (w.setCell ⟨M,6,none⟩ (.slice dp m dc)) M Pb {st with dump:=st.dump.take m} cs (ds.take m) cv sv kv (.slice dp m dc) tv:=by
 have hv:vB (.slice dp m dc)=vB (.slice dp ds.length dc):=by unfold vB;cases dp<;>rfl
 have hmb:mB M cv sv (.slice dp m dc) tv=mB M cv sv (.slice dp ds.length dc) tv:=by unfold mB;rw[hv]
 have hnd:=List.nodup_cons.1 h.nd;have hne:∀b,b≠M->(w.setCell ⟨M,6,none⟩ (.slice dp m dc)).heap[b]?=w.heap[b]?:=λb hb=>Below.heap_setCell _ _ _ _ hb;have hr:∀v,(∀b∈vB v,b∈vB cv++(vB sv++(vB (.slice dp ds.length dc)++vB tv)))->Fr (vB v) w (w.setCell ⟨M,6,none⟩ (.slice dp m dc)):=λv hv b hb=>hne b λe=>hnd.1 (e▸hv b hb);have hbl:Below lo w (w.setCell ⟨M,6,none⟩ (.slice dp m dc)):=(Below.refl _ _).setCell h.ml _;have hl:(ds.take m).length=m:=by rw[List.length_take];omega
 have hd:=owns_tk h.dp (m:=m) hm;rw[flat3_take]at hd;refine⟨h.m.set (i:=6) (by simp[mL]) (.slice dp m dc),row_fr h.cl (hr cv λb hb=>List.mem_append_left _ hb),λx hx=>(h.fl x hx).fr λb hx _=>⟨by rw[hmb];exact hx,hne b λe=>hx.2 (e▸List.mem_cons_self ..)⟩,row_fr h.sk (hr sv λb hb=>List.mem_append_right _ (List.mem_append_left _ hb)),?_,λx hx=>(h.dc x (List.mem_of_mem_take hx)).fr hbl,h.cd.fr hbl,row_fr h.tx (hr tv λb hb=>List.mem_append_right _ (List.mem_append_right _ (List.mem_append_right _ hb))),h.hcs,by rw[List.map_take,h.hds],by rw[hmb];exact h.nd,h.ml⟩;rw[hl];exact row_fr hd (hr _ λb hb=>List.mem_append_right _ (List.mem_append_right _ (List.mem_append_left _ (hv▸hb))))
theorem MMem.resume{dp:Option Addr}{dc:Nat}{f:MFr}{fv:Value}(h:MMem lo w M Pb st cs (ds++[(f,fv)]) cv sv kv (.slice dp (ds.length+1) dc) tv):MMem lo ((((w.setCell ⟨M,3,none⟩ (.int .i64 f.base)).setCell ⟨M,4,none⟩ fv).setCell ⟨M,5,none⟩ (.int .i64 f.at_)).setCell ⟨M,6,none⟩ (.slice dp ds.length dc)) M Pb {st with fr:=f,dump:=st.dump.dropLast} cs ds cv sv fv (.slice dp ds.length dc) tv:=by
 have hfc:CdAt lo w fv f.code:=h.dc (f,fv) (by simp);have hlen:(ds++[(f,fv)]).length=ds.length+1:=by simp
 rw[<-hlen]at h;have h1:=h.setM (i:=3) (u:=.int .i64 f.base) (st':={st with fr:=⟨f.base,st.fr.code,st.fr.at_⟩}) (kv':=kv) rfl (by omega) rfl rfl rfl rfl h.cd;have h2:=h1.setM (i:=4) (u:=fv) (st':={st with fr:=⟨f.base,f.code,st.fr.at_⟩}) (kv':=fv) rfl (by omega) rfl rfl rfl rfl (hfc.fr ((Below.refl _ _).setCell h.ml _));have h3:=h2.setM (i:=5) (u:=.int .i64 f.at_) (st':={st with fr:=f}) (kv':=fv) rfl (by omega) rfl rfl rfl rfl h2.cd;have h4:=h3.cutTo (m:=ds.length) (by simp);rw[List.take_left' rfl]at h4;have e:st.dump.take ds.length=st.dump.dropLast:=by
  rw[<-h.hds,List.map_append,List.map_cons,List.map_nil,List.dropLast_concat,List.take_left' (by simp)]
 have h5:MMem lo _ M Pb {st with fr:=f,dump:=st.dump.take ds.length} cs ds cv sv fv (.slice dp ds.length dc) tv:=h4;rw[e]at h5;exact h5
end
def GvC(lo M Pb:Nat)(B:List Nat)(w:World)(st:MSt)(cs:List (MCl×Value))(ds:List (MFr×Value))(cv kv dv tv:Value)(wx:World):Prop:=∃sv',MMem lo wx M Pb st cs ds cv sv' kv dv tv∧AG B w wx∧∀b∈mB M cv sv' dv tv,b∈B∨w.heap.size<=b
theorem GvC.drew{lo M Pb:Nat}{B:List Nat}{w:World}{st:MSt}{cs:List (MCl×Value)}{ds:List (MFr×Value)}{cv kv dv tv:Value}{wx:World}(h:GvC lo M Pb B w st cs ds cv kv dv tv wx):GvC lo M Pb B w st cs ds cv kv dv tv wx.drew:=by
 obtain⟨sv',h1,h2,h3⟩:=h;exact⟨sv',h1.drew,h2.then (Below.refl _ _).drew,h3⟩
theorem give1_any{lo:Nat}{w:World}{M Pb:Nat}{st:MSt}{B:List Nat}(x:Int)(bn:Nat)(h:MM lo w M Pb st B)(hd:st.dump≠[])(hb:st.fr.base=(bn:Int))(hbn:bn<st.stack.length)(hl:st.stack.length<=1000000000000)(hdl:st.dump.length<=1000000000000):
 Calls Tryz.prog 103 #[.pointer (some ⟨M,0,none⟩),.int .i32 x] w λe w'=>MRes lo M Pb B w (giveS x st) (.tuple #[]) e w':=by
 obtain⟨ii,hii,hij⟩:=Option.map_eq_some_iff.1 Tryz.refJ;simp only[Prod.mk.injEq]at hij;obtain⟨hi0,hi1,hi2⟩:=hij;obtain⟨cs,ds,cv,sv,kv,dv,tv,h,hBe⟩:=h;obtain⟨sg,sc,rfl,hcap,-⟩:=stack_slice h.sk (by omega);obtain⟨ds0,f,hds⟩:∃ds0 f,ds=ds0++[f]:=by
  rcases List.eq_nil_or_concat ds with h0|⟨ds0,f,h0⟩
  ·refine absurd ?_ hd;rw[<-h.hds,h0];rfl
  ·exact⟨ds0,f,by simpa using h0⟩
 subst hds;obtain⟨f,fv⟩:=f;have hdl2:ds0.length+1<=1000000000000:=by
  have:=congrArg List.length h.hds;simp at this;omega
 obtain⟨dg,dc,cur,hdv,-,-,hdc,-⟩:∃g c cur,dv=.slice (some ⟨g,0,none⟩) (ds0.length+1) c∧True∧True∧ds0.length+1<=c∧cur=0:=by
  rcases h.dp.2 with⟨h1,h2⟩|⟨g,cap,cur,hv,-,-,h4,-⟩
  ·simp at h2
  ·exact⟨g,cap,0,by simpa using hv,trivial,trivial,by simpa using h4,rfl⟩
 subst hdv;have e2:=h.m.at 2 rfl;have e3:=h.m.at 3 rfl;have hMl:=h.m.lt;rw[hb]at e3;have hgs:giveS x st={st with stack:=st.stack.take bn++[x],fr:=f,dump:=st.dump.dropLast}:=by
  have hg:st.dump.getLast?=some f:=by rw[<-h.hds];simp
  unfold giveS;rw[hg,hb];simp
 have HOW:Hid (w.ownsRow lo 111 1 (.slice (some ⟨sg,0,none⟩) bn sc) bn (rfC (st.stack.take bn))):=by
  have:=owns_tk h.sk (Nat.le_of_lt hbn);rw[rfC_take]at this;exact this
 have hvb:vB (.slice (some ⟨sg,0,none⟩) bn sc)=vB (.slice (some ⟨sg,0,none⟩) st.stack.length sc):=rfl;have HNX:Hid (∀Z w2 G c,Below w.heap.size w Z->Z.grownBy w2 (Value.slice (some ⟨sg,0,none⟩) bn sc).ownBlock->((Value.slice (some ⟨sg,0,none⟩) bn sc).ownBlock=some G∨G=Z.heap.size)->w2.ownsRow lo 111 1 (.slice (some ⟨G,0,none⟩) (bn+1) c) (bn+1) (rfC (st.stack.take bn)++[.int .i32 x])->(w2.cell? ⟨M,2,none⟩=some (.slice (some ⟨sg,0,none⟩) st.stack.length sc)∧w2.frozen? ⟨M,2,none⟩=false)∧Hid (GvC lo M Pb B w {st with stack:=st.stack.take bn++[x]} cs (ds0++[(f,fv)]) cv kv (.slice (some ⟨dg,0,none⟩) (ds0.length+1) dc) tv (w2.setCell ⟨M,2,none⟩ (.slice (some ⟨G,0,none⟩) (bn+1) c)))):=by
  intro Z w2 G c hbz hg hat hown;have hA:AG (vB (.slice (some ⟨sg,0,none⟩) st.stack.length sc)) w w2:=AG.append hbz hg;have hz:=hbz.size;have hnM:M∉vB (.slice (some ⟨sg,0,none⟩) st.stack.length sc):=λhm=>(List.nodup_cons.1 h.nd).1 (List.mem_append_right _ (List.mem_append_left _ hm));have hbM:=hA.block M hMl hnM;have hlt:(st.stack.take bn++[x]).length=bn+1:=by simp;omega
  obtain⟨t1,t2,t3⟩:=h.turnS hA (sv':=.slice (some ⟨G,0,none⟩) (bn+1) c) (s':=st.stack.take bn++[x]) (by rw[hlt,rfC_snoc];exact hown) (λb hb'=>by
   rw[vB_slice]at hb';obtain rfl:=List.mem_singleton.1 hb';rcases hat with e|e
   ·exact Or.inl (mem_vB.2 e)
   ·right;omega)
  rw[<-hBe]at t2 t3;exact⟨⟨cell_same hbM e2,by rw[World.frozen?_of_block (a:=⟨M,2,none⟩) hbM];exact h.m.fz 2⟩,_,t1,t2,t3⟩
 have HFIN:Hid (∀wx,GvC lo M Pb B w {st with stack:=st.stack.take bn++[x]} cs (ds0++[(f,fv)]) cv kv (.slice (some ⟨dg,0,none⟩) (ds0.length+1) dc) tv wx->(∃v3 v4 v5,wx.cell? ⟨M,3,none⟩=some v3∧wx.cell? ⟨M,4,none⟩=some v4∧wx.cell? ⟨M,5,none⟩=some v5)∧wx.cell? ⟨M,6,none⟩=some (.slice (some ⟨dg,0,none⟩) (ds0.length+1) dc)∧(wx.frozen? ⟨M,3,none⟩=false∧wx.frozen? ⟨M,4,none⟩=false∧wx.frozen? ⟨M,5,none⟩=false∧wx.frozen? ⟨M,6,none⟩=false)∧(wx.cell? ⟨dg,ds0.length*3,none⟩=some (.int .i64 f.base)∧wx.cell? ⟨dg,ds0.length*3+1,none⟩=some fv∧wx.cell? ⟨dg,ds0.length*3+2,none⟩=some (.int .i64 f.at_))∧Hid (MRes lo M Pb B w (giveS x st) (.tuple #[]) (.returned (.tuple #[])) ((((wx.setCell ⟨M,3,none⟩ (.int .i64 f.base)).setCell ⟨M,4,none⟩ fv).setCell ⟨M,5,none⟩ (.int .i64 f.at_)).setCell ⟨M,6,none⟩ (.slice (some ⟨dg,0,none⟩) ds0.length dc)))):=by
  rintro wx ⟨sv',h1,h2,h3⟩;have hc:∀j,j<3->wx.cell? ⟨dg,ds0.length*3+j,none⟩=(frC (f,fv))[j]?:=λj hj=>by
   have hfl:∀l:List (MFr×Value),(l.flatMap frC).length=l.length*3:=λl=>by
    induction l with
    |nil=>rfl
    |cons a r ih=>rw[List.flatMap_cons,List.length_append,ih];simp[frC];omega
   have hlen:=hfl ds0;have hdp:=h1.dp;rw[List.length_append]at hdp;have:=World.ownsRow.cellAt (n:=ds0.length+1) hdp (ds0.length*3+j) (by omega);rw[this,List.flatMap_append,List.getElem?_append_right (by omega),hlen,Nat.add_sub_cancel_left];simp
  have hself:M∈B:=by rw[hBe];exact List.mem_cons_self ..
  have h4:=h1.resume;refine⟨⟨_,_,_,h1.m.at 3 rfl,h1.m.at 4 rfl,h1.m.at 5 rfl⟩,h1.m.at 6 rfl,⟨h1.m.fz 3,h1.m.fz 4,h1.m.fz 5,h1.m.fz 6⟩,⟨hc 0 (by omega),hc 1 (by omega),hc 2 (by omega)⟩,rfl,(((h2.set (Or.inl hself) _).set (Or.inl hself) _).set (Or.inl hself) _).set (Or.inl hself) _,_,⟨cs,ds0,cv,sv',fv,.slice (some ⟨dg,0,none⟩) ds0.length dc,tv,by rw[hgs];exact h4,rfl⟩,λb hb=>h3 b hb⟩
 have hcf:∃kp kn kc,fv=.slice kp kn kc:=by
  rcases h.dc (f,fv) (by simp) with⟨e,-⟩|⟨b,L,-,e,-⟩
  ·exact⟨_,_,_,e⟩
  ·exact⟨_,_,_,e⟩
 obtain⟨kp,kn,kc,rfl⟩:=hcf;have e2a:=λo=>alloc_old w o _ _ _ e2;have e3a:=λo=>alloc_old w o _ _ _ e3;have hlz:=h.lz;have i0:(0:Int)<=(bn:Int):=by omega
 have i1:(bn:Int)<=(sc:Int):=by omega
 have i2:(0:Int)<=(ds0.length:Int):=by omega
 have i3:(ds0.length:Int)<((ds0.length+1:Nat):Int):=by omega
 have i4:(ds0.length:Int)<=(dc:Int):=by omega
 clear h hgs hvb hBe;go_enter Tryz.func103,Tryz.ntmps103;go_upto_region 0 with fail
 go_cut [] (λwx=>Hid (GvC lo M Pb B w {st with stack:=st.stack.take bn++[x]} cs (ds0++[(f,.slice kp kn kc)]) cv kv (.slice (some ⟨dg,0,none⟩) (ds0.length+1) dc) tv wx))
 case first=>
  go_region_law
   (first
    |(refine step_append_lies _ rfl (.tmp 15) (.tmp 17) 113 rfl lo 111 ii _ 1 4 Tryz.underlying113 hii hi0 hi1 hi2 rfl (by omega) (.slice (some ⟨sg,0,none⟩) bn sc) bn (rfC (st.stack.take bn)) (by first|(simp[Act.eval];done)|(simp[Act.eval,Act.put];done)) (HOW.out.alloc _) ⟨w.heap.size,0,none⟩ 1 1 [.int .i32 x] (by first|(simp[Act.eval];done)|(simp[Act.eval,Act.put];done)) rfl (by have h:=World.news_of_block (heap_alloc_new w (Obj.cells #[.int .i32 x] 111));simpa using h) (by intro u hu;simp at hu;rcases hu with rfl;rfl) (by omega) (by unfold maxLen;omega) (by omega) (by simp;omega) _ rfl ?_;intro G1 c1 w7 hown hgrow hat hlt1;obtain⟨⟨k7,f7⟩,HC⟩:=HNX.out _ _ _ _ (by first|exact(Below.refl _ _).alloc (Nat.le_refl _) _|exact((Below.refl _ _).alloc (Nat.le_refl _) _).drew) hgrow hat hown;clear hown hgrow hat hlt1))
  all_goals(try go_wp2)
  all_goals
   go_meet
   first|exact HC|exact GvC.drew HC.out|exact GvC.drew (GvC.drew HC.out)
 case rest=>
  rename World=>wx
  obtain⟨⟨v3,v4,v5,k3,k4,k5⟩,k6,⟨f3,f4,f5,f6⟩,⟨c0,c1,c2⟩,HR⟩:=HFIN.out wx hcut.out;clear hcut HFIN HNX HOW e2 e3 e2a e3a;go_wp2;go_region
  all_goals(try go_wp2)
  all_goals
   refine bE ?_;first|(with_reducible exact HR.out.drew)|(with_reducible exact HR.out)|(with_reducible exact HR.out.drew.drew)
def knd(st:MSt)(r:Int):Int:=((st.cells[r.toNat]?).getD ⟨0,0,0,0,[]⟩).kind
def rgt(st:MSt)(r:Int):Int:=((st.cells[r.toNat]?).getD ⟨0,0,0,0,[]⟩).right
def argsS(a:Nat)(st:MSt):List Int:=(st.stack.drop (st.stack.length-1-a)).take a
def stk(f:Int->Int)(l:List Int)(k:Nat):List Int:=l.take (l.length-k)++((l.drop (l.length-1-k)).take k).map f
theorem stk_get(f:Int->Int)(l:List Int)(k i:Nat)(hk:k<l.length):(stk f l k)[i]?=if i<l.length-k then l[i]? else if i<l.length then (l[i-1]?).map f else none:=by
 unfold stk;by_cases h1:i<l.length-k
 ·rw[if_pos h1,List.getElem?_append_left (by rw[List.length_take];omega),List.getElem?_take,if_pos h1]
 ·rw[if_neg h1,List.getElem?_append_right (by rw[List.length_take];omega),List.length_take,Nat.min_eq_left (by omega),List.getElem?_map,List.getElem?_take,List.getElem?_drop];by_cases h2:i<l.length
  ·rw[if_pos h2,if_pos (by omega),show l.length-1-k+(i-(l.length-k))=i-1 by omega]
  ·rw[if_neg h2,if_neg (by omega)];rfl
theorem stk_len(f:Int->Int)(l:List Int)(k:Nat)(hk:k<l.length):(stk f l k).length=l.length:=by
 unfold stk;simp;omega
theorem stk_succ(f:Int->Int)(l:List Int)(k:Nat)(hk:k+1<l.length):stk f l (k+1)=(stk f l k).set (l.length-1-k) (f (l[l.length-2-k]'(by omega))):=by
 apply List.ext_getElem?;intro i;rw[stk_get f l (k+1) i hk,List.getElem?_set,stk_get f l k i (by omega),stk_len f l k (by omega)];by_cases h1:l.length-1-k=i
 ·have a1:¬i<l.length-(k+1):=by omega
  have a2:i<l.length:=by omega
  rw[if_pos h1,if_neg a1,if_pos a2,show i-1=l.length-2-k by omega,List.getElem?_eq_getElem (by omega)];rw[if_pos (by omega)];rfl
 ·rw[if_neg h1];by_cases h2:i<l.length-(k+1)
  ·have a1:i<l.length-k:=by omega
   rw[if_pos h2,if_pos a1]
  ·have a1:¬i<l.length-k:=by omega
   rw[if_neg h2,if_neg a1]
theorem stk_zero(f:Int->Int)(l:List Int):stk f l 0=l:=by simp[stk]
def enterS(V:Int->MSt->MSt)(a:Nat)(code:List LIns)(st:MSt):MSt:=
 if undr st<(a:Int) then V ((st.stack[st.fr.base.toNat]?).getD 0) st
 else if (argsS a st).all (λr=>decide (knd st r=2)) then {st with stack:=stk (rgt st) st.stack a,fr:=⟨st.fr.base,code,0⟩} else stopS 3 st
theorem args_get{a:Nat}{st:MSt}{j:Nat}(ha:a<st.stack.length)(hj:j<a):st.stack[st.stack.length-2-j]?=(argsS a st)[a-1-j]?:=by
 unfold argsS;rw[List.getElem?_take,if_pos (by omega),List.getElem?_drop];congr 1
 omega
def addN:Nat->MSt->MSt
 |0,st=>st
 |n+1,st=>addS ⟨0,0,0,0,[]⟩ (addN n st)
theorem addN_len(n:Nat)(st:MSt):(addN n st).stack.length=st.stack.length+n∧(addN n st).cells.length=st.cells.length+n:=by
 induction n with
 |zero=>exact⟨rfl,rfl⟩
 |succ n ih=>simp[addN,addS,ih.1,ih.2];omega
def allocS(n:Nat)(st:MSt):MSt:=if roomB n st then addN n (roomS n st) else roomS n st
theorem roomS_lenN(n:Int)(st:MSt):(roomS n st).stack=st.stack∧(roomS n st).cells=st.cells:=by unfold roomS;split<;>exact⟨rfl,rfl⟩
theorem MRes.mm{lo M Pb:Nat}{B:List Nat}{w:World}{st:MSt}{r:Value}{e:Ending}{w':World}(h:MRes lo M Pb B w st r e w'):∃B1,MM lo w' M Pb st B1∧AG B w w'∧∀b∈B1,b∈B∨w.heap.size<=b:=by
 obtain⟨-,h1,B1,h2,h3⟩:=h;exact⟨B1,h2,h1,h3⟩
theorem alloc_any{lo:Nat}{w:World}{M Pb:Nat}{st:MSt}{B:List Nat}(n:Nat)(hn:n<=1000000)(h:MM lo w M Pb st B)(hm:Mtr st)(hl:st.stack.length<=1000000000)(hcl:st.cells.length<=100000000):
 Calls Tryz.prog 107 #[.pointer (some ⟨M,0,none⟩),.int .i64 (n:Int)] w λe w'=>MRes lo M Pb B w (allocS n st) (.tuple #[]) e w':=by
 have HR:=hid (room_any (n:Int) (by omega) h hm);cases hrb:roomB n st with
 |false=>
  rw[hrb]at HR;have hS:allocS n st=roomS n st:=by unfold allocS;rw[hrb];rfl
  rw[hS];clear h hrb hS;go_enter Tryz.func107,Tryz.ntmps107;go_wp2_with (first
   |(go_at_call 125;refine HR.out.mono ?_;intro e w1 hr;obtain⟨rfl,-⟩:=id hr;have HRR:=hid (hr.of (AG.refl _ _) (λb hb=>Or.inl hb) (r':=.tuple #[]) (e':=.returned (.tuple #[])) rfl);clear hr))
  refine bE ?_;exact HRR.out
 |true=>
  rw[hrb]at HR;have hS:allocS n st=addN n (roomS n st):=by unfold allocS;rw[hrb];rfl
  rw[hS];obtain⟨q1,q2⟩:=roomS_lenN n st;have HADD:Hid (∀k wr,k<n->MRes lo M Pb B w (addN k (roomS n st)) (.tuple #[]) (.returned (.tuple #[])) wr->Calls Tryz.prog 126 #[.pointer (some ⟨M,0,none⟩),.agg #[.int .u8 0,.int .i64 0,.int .i32 0,.int .i32 0,.slice none 0 0]] wr λe w'=>e=.returned (.tuple #[])∧Hid (MRes lo M Pb B w (addN (k+1) (roomS n st)) (.tuple #[]) (.returned (.tuple #[])) w')):=λk wr hk hr=>by
   obtain⟨B1,h1,h2,h3⟩:=hr.mm;obtain⟨l1,l2⟩:=addN_len k (roomS n st);rw[q1]at l1;rw[q2]at l2;refine(add_any2 ⟨0,0,0,0,[]⟩ (.slice none 0 0) ⟨none,0,rfl,λi hi=>absurd hi (by simp)⟩ ⟨_,_,_,rfl⟩ h1 (by omega) (by omega)).mono λe w' hr=>?_;have he:=hr.1;exact⟨he,hr.of h2 h3 rfl⟩
  clear h hrb hS q1 q2;go_enter Tryz.func107,Tryz.ntmps107;go_wp2_with (first
   |(go_at_call 125;refine HR.out.mono ?_;intro e w1 hr;obtain⟨rfl,-⟩:=id hr;have HRR:=hid (hr.of (AG.refl _ _) (λb hb=>Or.inl hb) (r':=.tuple #[]) (e':=.returned (.tuple #[])) rfl);clear hr))
  go_loopw [9] (λkv wr=>∃k:Nat,k<=n∧kv=.int .i64 (k:Int)∧Hid (MRes lo M Pb B w (addN k (roomS n st)) (.tuple #[]) (.returned (.tuple #[])) wr)) (λkv _=>n-(intOf kv).toNat)
  case atStart=>exact⟨0,Nat.zero_le _,rfl,HRR.out⟩
  case round=>
   rename World=>wr
   clear HRR;obtain⟨k,hkn,rfl,HM⟩:=hrel;by_cases hk:k<n
   ·have hki:(k:Int)<(n:Int):=by omega
    have HA:=hid (HADD.out k wr hk HM.out);go_wp2_with (first
     |(go_at_call 126;refine HA.out.mono ?_;rintro e w2 ⟨rfl,HM2⟩))
    exact⟨⟨k+1,by omega,by go_num,HM2.out⟩,by simp[intOf];omega⟩
   ·obtain rfl:k=n:=by omega
    have hki:¬((k:Int)<(k:Int)):=by omega
    go_wp2;refine bE ?_;exact HM.out
theorem truth_any(b:Bool)(w:World):Calls Tryz.prog 127 #[.bool b] w λe w'=>e=.returned (.agg #[.int .u8 3,.int .i64 (if b then 1 else 0),.int .i32 0,.int .i32 0,.slice none 0 0])∧Below w.heap.size w w':=by
 cases b
 ·go_enter Tryz.func127,Tryz.ntmps127;go_wp2;have d:=λj v hv=>alloc_cell w #[.int .u8 3,.int .i64 0,.int .i32 0,.int .i32 0,.slice none 0 0] 154 j v hv;refine bodyPost_ret (v:=.agg #[.int .u8 3,.int .i64 0,.int .i32 0,.int .i32 0,.slice none 0 0]) (by simp[results,Tryz.results127,go_sem,d 0 _ rfl,d 1 _ rfl,d 2 _ rfl,d 3 _ rfl,d 4 _ rfl]) rfl ⟨rfl,(Below.refl _ _).alloc (Nat.le_refl _) _⟩
 ·go_enter Tryz.func127,Tryz.ntmps127;go_wp2;have d:=λj v hv=>alloc_cell w #[.int .u8 3,.int .i64 1,.int .i32 0,.int .i32 0,.slice none 0 0] 154 j v hv;refine bodyPost_ret (v:=.agg #[.int .u8 3,.int .i64 1,.int .i32 0,.int .i32 0,.slice none 0 0]) (by simp[results,Tryz.results127,go_sem,d 0 _ rfl,d 1 _ rfl,d 2 _ rfl,d 3 _ rfl,d 4 _ rfl]) rfl ⟨rfl,(Below.refl _ _).alloc (Nat.le_refl _) _⟩
structure Bw (w X:World) (M:Nat) (L:List Value):Prop where
 os:X.os=w.os
 tape:X.tape=w.tape
 output:X.output=w.output
 size:w.heap.size<=X.heap.size
 block:∀b,b<w.heap.size->b≠M->X.heap[b]?=w.heap[b]?
 lt:M<w.heap.size
 m:FBL X M L
theorem Bw.drew{w X:World}{M:Nat}{L:List Value}(h:Bw w X M L):Bw w X.drew M L:=⟨h.os,h.tape,h.output,h.size,h.block,h.lt,h.m.of_block rfl (Nat.le_refl _)⟩
theorem Bw.alloc{w X:World}{M:Nat}{L:List Value}{o:Obj}(h:Bw w X M L):Bw w (X.alloc o) M L:=
 have hb:Below X.heap.size X (X.alloc o):=(Below.refl _ _).alloc (Nat.le_refl _) _
 ⟨hb.os.trans h.os,hb.tape.trans h.tape,hb.output.trans h.output,Nat.le_trans h.size hb.size,λb h1 h2=>(hb.block b (Nat.lt_of_lt_of_le h1 h.size)).trans (h.block b h1 h2),h.lt,h.m.of_block (hb.block M (Nat.lt_of_lt_of_le h.lt h.size)) hb.size⟩
theorem Bw.set2{w X:World}{M:Nat}{L:List Value}{v:Value}(h:Bw w X M L)(hl:2<L.length):Bw w (X.setCell ⟨M,2,none⟩ v) M (L.set 2 v):=
 ⟨h.os,h.tape,h.output,by simpa using h.size,λb h1 h2=>(Below.heap_setCell _ _ _ _ h2).trans (h.block b h1 h2),h.lt,h.m.set hl v⟩
theorem Bw.fresh{w X:World}{M b j:Nat}{L:List Value}{v:Value}(h:Bw w X M L)(hb:w.heap.size<=b):Bw w (X.setCell ⟨b,j,none⟩ v) M L:=
 have hl:=h.lt
 ⟨h.os,h.tape,h.output,by simpa using h.size,λc h1 h2=>(Below.heap_setCell _ _ _ _ (by show c≠b;omega)).trans (h.block c h1 h2),h.lt,h.m.of_block (Below.heap_setCell _ _ _ _ (by show M≠b;omega)) (by simp)⟩
theorem Bw.cell{w X:World}{M b j:Nat}{L:List Value}{v:Value}(h:Bw w X M L)(hb:b≠M)(hc:w.cell? ⟨b,j,none⟩=some v):X.cell? ⟨b,j,none⟩=some v:=cell_same (h.block b (block_lt_of_cell hc) hb) hc
theorem Bw.start{lo:Nat}{w:World}{M Pb:Nat}{st:MSt}{cs:List (MCl×Value)}{ds:List (MFr×Value)}{cv sv kv dv tv:Value}(h:MMem lo w M Pb st cs ds cv sv kv dv tv):Bw w w M (mL Pb cv sv kv dv tv st):=⟨rfl,rfl,rfl,Nat.le_refl _,λ_ _ _=>rfl,h.m.lt,h.m⟩
theorem MMem.less{lo:Nat}{w X:World}{M Pb m c:Nat}{p:Option Addr}{st:MSt}{cs:List (MCl×Value)}{ds:List (MFr×Value)}{cv kv dv tv:Value}(h:MMem lo w M Pb st cs ds cv (.slice p st.stack.length c) kv dv tv)(hm:m<=st.stack.length)(hX:Bw w X M (mL Pb cv (.slice p m c) kv dv tv {st with stack:=st.stack.take m})):
 MMem lo X M Pb {st with stack:=st.stack.take m} cs ds cv (.slice p m c) kv dv tv∧AG (mB M cv (.slice p st.stack.length c) dv tv) w X∧mB M cv (.slice p m c) dv tv=mB M cv (.slice p st.stack.length c) dv tv:=by
 have hv:vB (.slice p m c)=vB (.slice p st.stack.length c):=by unfold vB;cases p<;>rfl
 have hmb:mB M cv (.slice p m c) dv tv=mB M cv (.slice p st.stack.length c) dv tv:=by unfold mB;rw[hv]
 have hnd:=List.nodup_cons.1 h.nd;have hrg:=h.rg;have hne:∀b,b∈vB cv++(vB (.slice p st.stack.length c)++(vB dv++vB tv))->X.heap[b]?=w.heap[b]?:=λb hb=>hX.block b (hrg b (List.mem_cons_of_mem _ hb)).2 λe=>hnd.1 (e▸hb);have hbl:Below lo w X:=⟨hX.os,hX.tape,hX.output,hX.size,λb hb=>hX.block b (Nat.lt_of_lt_of_le hb h.lz) (by have:=h.ml;omega)⟩;have hl:(st.stack.take m).length=m:=by rw[List.length_take];omega
 have hd:=owns_tk h.sk hm;rw[rfC_take]at hd;refine⟨⟨hX.m,row_fr h.cl λb hb=>hne b (List.mem_append_left _ hb),λx hx=>(h.fl x hx).fr λb h1 h2=>⟨by rw[hmb];exact h1,hX.block b h2 λe=>h1.2 (e▸List.mem_cons_self ..)⟩,?_,row_fr h.dp λb hb=>hne b (List.mem_append_right _ (List.mem_append_right _ (List.mem_append_left _ hb))),λx hx=>(h.dc x hx).fr hbl,h.cd.fr hbl,row_fr h.tx λb hb=>hne b (List.mem_append_right _ (List.mem_append_right _ (List.mem_append_right _ hb))),h.hcs,h.hds,by rw[hmb];exact h.nd,h.ml⟩,⟨hX.os,hX.tape,hX.output,hX.size,λb h1 h2=>hX.block b h1 λe=>h2 (e▸List.mem_cons_self ..)⟩,hmb⟩;show X.ownsRow lo _ 1 _ (st.stack.take m).length _;rw[hl];exact row_fr hd λb hb=>hne b (List.mem_append_right _ (List.mem_append_left _ (hv▸hb)))
theorem popX{w:World}{M g n c:Nat}{x:Int}(h:w.cell? ⟨M,2,none⟩=some (.slice (some ⟨g,0,none⟩) (n+1) c))(hf:w.frozen? ⟨M,2,none⟩=false)(hx:w.cell? ⟨g,n,none⟩=some (.int .i32 x))(hn:n+1<=1000000000000)(hc:n+1<=c):
 Calls Tryz.prog 105 #[.pointer (some ⟨M,0,none⟩)] w λe w'=>e=.returned (.int .i32 x)∧w'=(w.setCell ⟨M,2,none⟩ (.slice (some ⟨g,0,none⟩) n c)).drew.drew:=by
 have HT:=hid (top_any 0 h (by omega) hn);have HD:Hid (Calls Tryz.prog 106 #[.pointer (some ⟨M,0,none⟩),.int .i64 1] w.drew λe w'=>e=.returned (.tuple #[])∧w'=(w.setCell ⟨M,2,none⟩ (.slice (some ⟨g,0,none⟩) n c)).drew.drew):=by
  have d2:w.drew.drew.cell? ⟨M,2,none⟩=_:=h;have df:w.drew.drew.frozen? ⟨M,2,none⟩=_:=hf;have i0:(0:Int)<=((n+1:Nat):Int)-1:=by omega
  have i1:((n+1:Nat):Int)-1<=(c:Int):=by omega
  have i2:(((n+1:Nat):Int)-1).toNat=n:=by omega
  have i3:IntKind.i64.wrap (((n+1:Nat):Int)-1)=((n+1:Nat):Int)-1:=i64w (by omega);show Calls _ _ _ _ _;go_enter Tryz.func106,Tryz.ntmps106;go_wp2;go_region
  all_goals(try go_wp2)
  all_goals
   refine bE ?_;refine⟨rfl,?_⟩;first|rfl|(simp;done)
 have t1:w.drew.cell? ⟨g,n+1-1-0,none⟩=some (.int .i32 x):=hx;have t2:w.drew.cell? ⟨g,n,none⟩=some (.int .i32 x):=hx;clear h hx hf;go_enter Tryz.func105,Tryz.ntmps105;go_wp2_with (first
  |(go_at_call 99;refine HT.out.mono ?_;rintro e w1 ⟨rfl,rfl⟩)
  |(go_at_call 106;refine HD.out.mono ?_;rintro e w2 ⟨rfl,rfl⟩))
 go_ret;exact⟨rfl,rfl⟩
theorem MMem.fldAt{lo:Nat}{w:World}{M Pb:Nat}{st:MSt}{cs:List (MCl×Value)}{ds:List (MFr×Value)}{cv sv kv dv tv:Value}(h:MMem lo w M Pb st cs ds cv sv kv dv tv){r:Nat}(hr:r<st.cells.length){g n c:Nat}(hcv:cv=.slice (some ⟨g,0,none⟩) n c){fv:Value}(hc:w.cell? ⟨g,r*5+4,none⟩=some fv):FldX (λb=>lo<=b∧b∉mB M cv sv dv tv) w fv st.cells[r].fields:=by
 have hl:cs.length=st.cells.length:=by rw[<-h.hcs,List.length_map]
 have hr':r<cs.length:=by omega
 have e:st.cells[r]=cs[r].1:=by simp[<-h.hcs]
 have hf:=h.fl cs[r] (List.getElem_mem _);have hown:=h.cl;rcases h.cl.2 with⟨-,h0⟩|⟨g',cap,cur,hv,-⟩
 ·omega
 ·rw[hcv]at hv;cases hv;rw[hcv]at hown;rw[hown.cellAt _ (by omega),flat5_at 4 (by omega) cs r hr']at hc;have e2:cs[r].2=fv:=by simpa[mcC]using hc
  rw[e,<-e2];exact hf
theorem FBL.new5(w:World)(x0 x1 x2 x3 x4:Value)(t:TypeId):FBL (w.alloc (.cells #[x0,x1,x2,x3,x4] t)) w.heap.size [x0,x1,x2,x3,x4]:=by
 refine⟨λj hj=>?_,λj=>frozen_new _ _ _ _,by simp⟩;have:j=0∨j=1∨j=2∨j=3∨j=4:=by simp at hj;omega
 rcases this with rfl|rfl|rfl|rfl|rfl<;>exact alloc_cell w #[x0,x1,x2,x3,x4] _ _ _ rfl
theorem FBL.drew{w:World}{b:Nat}{L:List Value}(h:FBL w b L):FBL w.drew b L:=h.of_block rfl (Nat.le_refl _)
theorem cut5a(w:World)(M:Nat)(v x0 x1 x2 x3 x4:Value)(t:TypeId):FBL ((w.setCell ⟨M,2,none⟩ v).alloc (.cells #[x0,x1,x2,x3,x4] t)).drew.drew.drew w.heap.size [x0,x1,x2,x3,x4]:=by
 have h:=FBL.new5 (w.setCell ⟨M,2,none⟩ v) x0 x1 x2 x3 x4 t;rw[World.size_setCell]at h;exact h.drew.drew.drew
theorem cut5b(w:World)(M:Nat)(v z0 z1 z2 z3 z4 x0 x1 x2 x3 x4:Value)(t:TypeId)(hM:w.heap.size≠M):FBL ((((((((w.alloc (.cells #[z0,z1,z2,z3,z4] t)).setCell ⟨M,2,none⟩ v).setCell ⟨w.heap.size,0,none⟩ x0).setCell ⟨w.heap.size,1,none⟩ x1).setCell ⟨w.heap.size,2,none⟩ x2).setCell ⟨w.heap.size,3,none⟩ x3).setCell ⟨w.heap.size,4,none⟩ x4)).drew.drew.drew w.heap.size [x0,x1,x2,x3,x4]:=by
 have h:=(FBL.new5 w z0 z1 z2 z3 z4 t).of_block (w':=(w.alloc (.cells #[z0,z1,z2,z3,z4] t)).setCell ⟨M,2,none⟩ v) (Below.heap_setCell _ _ _ _ hM) (by simp);have h0:=FBL.set h (i:=0) (by simp) x0;have h1:=FBL.set h0 (i:=1) (by simp) x1;have h2:=FBL.set h1 (i:=2) (by simp) x2;have h3:=FBL.set h2 (i:=3) (by simp) x3;have h4:=FBL.set h3 (i:=4) (by simp) x4;exact h4.drew.drew.drew
def splitS(n:Int)(r:Int)(st:MSt):MSt:=
 let c:=(st.cells[r.toNat]?).getD ⟨0,0,0,0,[]⟩
 if c.kind≠3∨(c.fields.length:Int)≠n then stopS 3 (dropS 1 st) else {dropS 1 st with stack:=(dropS 1 st).stack++c.fields}
theorem split_any{lo:Nat}{w:World}{M Pb:Nat}{st:MSt}{B:List Nat}(n:Int)(h:MM lo w M Pb st B)(hl:st.stack.length<=1000000000){s:List Int}{r:Nat}(hs:st.stack=s++[(r:Int)])(hrc:r<st.cells.length)(hfl:st.cells[r].fields.length<=1000000):
 Calls Tryz.prog 110 #[.pointer (some ⟨M,0,none⟩),.int .i64 n] w λe w'=>MRes lo M Pb B w (splitS n (r:Int) st) (.tuple #[]) e w':=by
 obtain⟨cs,ds,cv,sv,kv,dv,tv,h,hBe⟩:=h;have hsl:st.stack.length=s.length+1:=by rw[hs];simp
 obtain⟨sg,sc,rfl,hcap,hsc⟩:=stack_slice h.sk (by omega);obtain⟨cg,cc,fp,fn,fc,hcv,r0,r1,r2,r3,r4,-⟩:=h.cellAt (r:=r) hrc;have hfx:=h.fldAt hrc hcv r4;subst hcv;have hMc:cg≠M:=λe=>(List.nodup_cons.1 h.nd).1 (List.mem_append_left _ (by rw[vB_slice];exact List.mem_singleton.2 e.symm));have hMs:sg≠M:=λe=>(List.nodup_cons.1 h.nd).1 (List.mem_append_right _ (List.mem_append_left _ (by rw[vB_slice];exact List.mem_singleton.2 e.symm)));have hxr:w.cell? ⟨sg,s.length,none⟩=some (.int .i32 (r:Int)):=by rw[hsc _ (by omega),hs];simp[rfC]
 rw[hsl]at hcap;obtain⟨L0,hL0⟩:∃L0,mL Pb (.slice (some ⟨cg,0,none⟩) st.cells.length cc) (.slice (some ⟨sg,0,none⟩) st.stack.length sc) kv dv tv st=L0:=⟨_,rfl⟩;have hB0:Bw w w M L0:=hL0▸Bw.start h;have q1:L0[1]?=some (.slice (some ⟨cg,0,none⟩) st.cells.length cc):=by rw[<-hL0];rfl
 have q2:L0[2]?=some (.slice (some ⟨sg,0,none⟩) (s.length+1) sc):=by rw[<-hL0,<-hsl];rfl
 have hlen:L0.length=14:=by rw[<-hL0];rfl
 have HSS:Hid (∀X L,Bw w X M L->L[1]?=some (.slice (some ⟨cg,0,none⟩) st.cells.length cc)->X.cell? ⟨M,1,none⟩=some (.slice (some ⟨cg,0,none⟩) st.cells.length cc)∧X.cell? ⟨cg,r*5,none⟩=some (.int .u8 st.cells[r].kind)∧X.cell? ⟨cg,r*5+1,none⟩=some (.int .i64 st.cells[r].n)∧X.cell? ⟨cg,r*5+2,none⟩=some (.int .i32 st.cells[r].left)∧X.cell? ⟨cg,r*5+3,none⟩=some (.int .i32 st.cells[r].right)∧X.cell? ⟨cg,r*5+4,none⟩=some (.slice fp fn fc)):=λX L hX hL=>⟨hX.m.at 1 hL,hX.cell hMc r0,hX.cell hMc r1,hX.cell hMc r2,hX.cell hMc r3,hX.cell hMc r4⟩;have HP1:Hid (∀X,Bw w X M L0->Calls Tryz.prog 105 #[.pointer (some ⟨M,0,none⟩)] X λe w'=>e=.returned (.int .i32 (r:Int))∧w'=(X.setCell ⟨M,2,none⟩ (.slice (some ⟨sg,0,none⟩) s.length sc)).drew.drew):=λX hX=>popX (hX.m.at 2 q2) (hX.m.fz 2) (hX.cell hMs hxr) (by omega) (by omega);have hl2:2<L0.length:=by omega
 have hMw:M≠w.heap.size:=Nat.ne_of_lt hB0.lt;have hMw':w.heap.size≠M:=λe=>hMw e.symm;have HS0:=hid (λX (hX:Bw w X M L0)=>HSS.out X L0 hX q1);have HS1:=hid (λX (hX:Bw w X M (L0.set 2 (.slice (some ⟨sg,0,none⟩) s.length sc)))=>HSS.out X _ hX (by simp[q1]));have hd1:(dropS 1 st).stack=s:=by simp[dropS,hs]
 have hle:s.length<=sc:=by omega
 have HFI:Hid (∀X,Bw w X M (L0.set 2 (.slice (some ⟨sg,0,none⟩) s.length sc))->MMem lo X M Pb (dropS 1 st) cs ds (.slice (some ⟨cg,0,none⟩) st.cells.length cc) (.slice (some ⟨sg,0,none⟩) s.length sc) kv dv tv∧AG B w X∧mB M (.slice (some ⟨cg,0,none⟩) st.cells.length cc) (.slice (some ⟨sg,0,none⟩) s.length sc) dv tv=B):=λX hX=>by
  have hsx:st.stack.take s.length=st.stack.take (st.stack.length-1):=by rw[hsl];congr 1
  have hX2:Bw w X M (mL Pb (.slice (some ⟨cg,0,none⟩) st.cells.length cc) (.slice (some ⟨sg,0,none⟩) s.length sc) kv dv tv {st with stack:=st.stack.take s.length}):=by
   rw[<-hL0]at hX;exact hX
  obtain⟨t1,t2,t3⟩:=h.less (m:=s.length) (by omega) hX2;rw[<-hBe]at t2;rw[hsx]at t1;exact⟨t1,t2,by rw[t3,hBe]⟩
 have HSP:Hid (∀X,Bw w X M (L0.set 2 (.slice (some ⟨sg,0,none⟩) s.length sc))->Calls Tryz.prog 79 #[.pointer (some ⟨M,0,none⟩),.int .i64 3] X λe w''=>e=.returned (.tuple #[])∧Hid (MRes lo M Pb B w (stopS 3 (dropS 1 st)) (.tuple #[]) (.returned (.tuple #[])) w'')):=λX hX=>by
  obtain⟨t1,t2,t3⟩:=HFI.out X hX;have hMM:MM lo X M Pb (dropS 1 st) B:=⟨_,_,_,_,_,_,_,t1,t3.symm⟩;exact(stop_any 3 hMM).mono λe w'' hr=>⟨hr.1,hr.of t2 (λb hb=>Or.inl hb) rfl⟩
 obtain⟨fl,hfl2⟩:∃fl,st.cells[r].fields=fl:=⟨_,rfl⟩;rw[hfl2]at hfl hfx;have HSP2:Hid (splitS n (r:Int) st=if st.cells[r].kind≠3∨(fl.length:Int)≠n then stopS 3 (dropS 1 st) else {dropS 1 st with stack:=s++fl}):=by
  show _=_;unfold splitS;simp only[Int.toNat_natCast,List.getElem?_eq_getElem hrc,Option.getD_some,hfl2,hd1]
 obtain⟨fp',fc',hfe,hfc⟩:=hfx;cases hfe;have HAP:Hid (∀X w2 G c',Bw w X M (L0.set 2 (.slice (some ⟨sg,0,none⟩) s.length sc))->X.grownBy w2 (Value.slice (some ⟨sg,0,none⟩) s.length sc).ownBlock->((Value.slice (some ⟨sg,0,none⟩) s.length sc).ownBlock=some G∨G=X.heap.size)->w2.ownsRow lo 111 1 (.slice (some ⟨G,0,none⟩) (s.length+fl.length) c') (s.length+fl.length) (rfC s++rfC fl)->(w2.cell? ⟨M,2,none⟩=some (.slice (some ⟨sg,0,none⟩) s.length sc)∧w2.frozen? ⟨M,2,none⟩=false)∧Hid (MRes lo M Pb B w {dropS 1 st with stack:=s++fl} (.tuple #[]) (.returned (.tuple #[])) (w2.setCell ⟨M,2,none⟩ (.slice (some ⟨G,0,none⟩) (s.length+fl.length) c')))):=λX w2 G c' hX hg hat hown=>by
  obtain⟨t1,t2,t3⟩:=HFI.out X hX;have hA:AG (vB (.slice (some ⟨sg,0,none⟩) s.length sc)) X w2:=AG.append (Below.refl _ _) hg;have hnM:M∉vB (.slice (some ⟨sg,0,none⟩) s.length sc):=λhm=>(List.nodup_cons.1 t1.nd).1 (List.mem_append_right _ (List.mem_append_left _ hm));have hbM:=hA.block M t1.m.lt hnM;obtain⟨u1,u2,u3⟩:=t1.turnS hA (sv':=.slice (some ⟨G,0,none⟩) (s.length+fl.length) c') (s':=s++fl) (by rw[List.length_append,show rfC (s++fl)=rfC s++rfC fl by simp[rfC]];exact hown) (λb hb'=>by
   rw[vB_slice]at hb';obtain rfl:=List.mem_singleton.1 hb';rcases hat with e|e
   ·exact Or.inl (mem_vB.2 e)
   ·right;omega)
  rw[t3]at u2 u3;have hz:=t2.size;refine⟨⟨cell_same hbM (t1.m.at 2 rfl),by rw[World.frozen?_of_block (a:=⟨M,2,none⟩) hbM];exact t1.m.fz 2⟩,rfl,t2.trans u2 λb hb=>Or.inl hb,_,⟨_,_,_,_,_,_,_,u1,rfl⟩,λb hb=>?_⟩;rcases u3 b hb with h1|h1
  ·exact Or.inl h1
  ·right;omega
 have i0:(0:Int)<=(r:Int):=by omega
 have i1:(r:Int)<(st.cells.length:Int):=by omega
 clear HSS;generalize hkd:st.cells[r].kind=rk at*;generalize st.cells[r].n=rn at*;generalize st.cells[r].left=rf at*;generalize st.cells[r].right=rg at*;have HFC:=hid hfc;have HLZ:=hid h.lz;obtain⟨ii,hii,hij⟩:=Option.map_eq_some_iff.1 Tryz.refJ;simp only[Prod.mk.injEq]at hij;obtain⟨hi0,hi1,hi2⟩:=hij;clear hsc r0 r1 r2 r3 r4 hxr q2 hcap h hBe hL0 hfc;go_enter Tryz.func110,Tryz.ntmps110;go_upto_region 0 with fail
 go_cut [4] (λv4 wx=>∃b4:Nat,v4=.pointer (some ⟨b4,0,none⟩)∧w.heap.size<=b4∧(wx.cell? ⟨b4,0,none⟩=some (.int .u8 rk)∧wx.cell? ⟨b4,4,none⟩=some (.slice fp fl.length fc))∧Hid (Bw w wx M (L0.set 2 (.slice (some ⟨sg,0,none⟩) s.length sc))))
 case first=>
  go_region_held_law (λX=>X.cell? ⟨M,1,none⟩=some (.slice (some ⟨cg,0,none⟩) st.cells.length cc)∧X.cell? ⟨cg,r*5,none⟩=some (.int .u8 rk)∧X.cell? ⟨cg,r*5+1,none⟩=some (.int .i64 rn)∧X.cell? ⟨cg,r*5+2,none⟩=some (.int .i32 rf)∧X.cell? ⟨cg,r*5+3,none⟩=some (.int .i32 rg)∧X.cell? ⟨cg,r*5+4,none⟩=some (.slice fp fl.length fc))
   (first|(refine HS0.out _ ?_;(repeat (first|(with_reducible exact hB0)|(with_reducible refine Bw.drew ?_)|(with_reducible refine Bw.alloc ?_)));done)|(refine HS1.out _ ?_;(repeat (first|(with_reducible exact hB0)|(with_reducible refine Bw.drew ?_)|(with_reducible refine Bw.alloc ?_)|(with_reducible refine Bw.set2 ?_ hl2)|(with_reducible refine Bw.fresh ?_ (Nat.le_refl _))));done))
   (first
    |(go_at_call 105;with_reducible refine(HP1.out _ ?_).mono ?_<;>first|((repeat (first|(with_reducible exact hB0)|(with_reducible refine Bw.drew ?_)|(with_reducible refine Bw.alloc ?_)));done)|(rintro e w3 ⟨rfl,rfl⟩)))
  all_goals(try go_wp2)
  all_goals
   go_meet
   refine⟨w.heap.size,rfl,Nat.le_refl _,?_,?_⟩
   ·first
    |with_reducible exact⟨(cut5a w M (.slice (some ⟨sg,0,none⟩) s.length sc) (.int .u8 rk) (.int .i64 rn) (.int .i32 rf) (.int .i32 rg) (.slice fp fl.length fc) 154).at 0 rfl,(cut5a w M (.slice (some ⟨sg,0,none⟩) s.length sc) (.int .u8 rk) (.int .i64 rn) (.int .i32 rf) (.int .i32 rg) (.slice fp fl.length fc) 154).at 4 rfl⟩
    |with_reducible exact⟨(cut5b w M (.slice (some ⟨sg,0,none⟩) s.length sc) (.int .u8 0) (.int .i64 0) (.int .i32 0) (.int .i32 0) (.slice none 0 0) (.int .u8 rk) (.int .i64 rn) (.int .i32 rf) (.int .i32 rg) (.slice fp fl.length fc) 154 hMw').at 0 rfl,(cut5b w M (.slice (some ⟨sg,0,none⟩) s.length sc) (.int .u8 0) (.int .i64 0) (.int .i32 0) (.int .i32 0) (.slice none 0 0) (.int .u8 rk) (.int .i64 rn) (.int .i32 rf) (.int .i32 rg) (.slice fp fl.length fc) 154 hMw').at 4 rfl⟩
   ·show Bw _ _ _ _;(repeat (first|(with_reducible exact hB0)|(with_reducible refine Bw.drew ?_)|(with_reducible refine Bw.alloc ?_)|(with_reducible refine Bw.set2 ?_ hl2)|(with_reducible refine Bw.fresh ?_ (Nat.le_refl _))))
 case rest=>
  clear HP1 HS0 HS1 hB0;rename World=>wx
  obtain⟨b4,rfl,hb4,⟨c0,c4⟩,HBX⟩:=hcut;by_cases hbad:rk≠3∨(fl.length:Int)≠n
  ·have HSP1:=hid (HSP.out wx HBX.out);have HRS:Hid (splitS n (r:Int) st=stopS 3 (dropS 1 st)):=by
    show _=_;rw[HSP2.out,if_pos hbad]
   by_cases h3:rk=3
   ·have hn:¬((fl.length:Int)=n):=by omega
    go_wp2_with (first
     |(go_at_call 79;refine HSP1.out.mono ?_;rintro e w5 ⟨rfl,HRR⟩))
    refine bE ?_;rw[HRS.out];exact HRR.out
   ·go_wp2_with (first
     |(go_at_call 79;refine HSP1.out.mono ?_;rintro e w5 ⟨rfl,HRR⟩))
    refine bE ?_;rw[HRS.out];exact HRR.out
  ·have h3:rk=3:=by omega
   have hn:(fl.length:Int)=n:=by omega
   subst h3;subst hn;have HRS:Hid (splitS ((fl.length:Nat):Int) (r:Int) st={dropS 1 st with stack:=s++fl}):=by
    show _=_;rw[HSP2.out,if_neg (by simp)]
   clear HSP HSP2 hbad;by_cases h0:fl=[]
   ·subst h0;obtain⟨t1,t2,t3⟩:=HFI.out wx HBX.out;have k2:=t1.m.at 2 rfl;have k2d:wx.drew.cell? ⟨M,2,none⟩=_:=k2;have f2d:wx.drew.frozen? ⟨M,2,none⟩=_:=t1.m.fz 2;have c4d:wx.drew.cell? ⟨b4,4,none⟩=_:=c4;have HRR:Hid (MRes lo M Pb B w {dropS 1 st with stack:=s++[]} (.tuple #[]) (.returned (.tuple #[])) (wx.setCell ⟨M,2,none⟩ (.slice (some ⟨sg,0,none⟩) s.length sc))):=by
     have hX2:=HBX.out.set2 (v:=.slice (some ⟨sg,0,none⟩) s.length sc) (by rw[List.length_set];exact hl2);rw[List.set_set]at hX2;obtain⟨u1,u2,u3⟩:=HFI.out _ hX2;have e:({dropS 1 st with stack:=s++[]}:MSt)=dropS 1 st:=by rw[List.append_nil,<-hd1]
     rw[e];exact⟨rfl,u2,_,⟨_,_,_,_,_,_,_,u1,rfl⟩,λb hb=>Or.inl (by rw[<-u3];exact hb)⟩
    clear t1 t2 t3;cases fp with
    |none=>
     go_upto_region 3 with fail
     go_region
     all_goals(try go_wp2)
     all_goals
      refine bE ?_;rw[show splitS 0 (r:Int) st=_ from HRS.out];first|(with_reducible exact HRR.out)|(with_reducible exact HRR.out.drew)
    |some fa=>
     go_upto_region 3 with fail
     go_region
     all_goals(try go_wp2)
     all_goals
      refine bE ?_;rw[show splitS 0 (r:Int) st=_ from HRS.out];first|(with_reducible exact HRR.out)|(with_reducible exact HRR.out.drew)
   ·have hpos:0<fl.length:=List.length_pos_iff.2 h0;obtain⟨fb,fo,⟨-,hnb⟩,rfl,-⟩:=HFC.out 0 hpos;have hbM:fb≠M:=λe=>hnb (e▸List.mem_cons_self ..);have HNW:Hid (∀X,Bw w X M (L0.set 2 (.slice (some ⟨sg,0,none⟩) s.length sc))->∀j u,(rfC fl)[j]?=some u->X.cell? ((⟨fb,fo,none⟩:Addr).add j)=some u):=λX hX j u hu=>by
     have hj:j<fl.length:=by
      have:=(List.getElem?_eq_some_iff.1 hu).1;simpa[rfC]using this
     obtain⟨fb',fo',-,e',hc'⟩:=HFC.out j hj;cases e';rw[add_off];have:=hX.cell hbM hc';rw[this,<-hu];simp[rfC,hj]
    obtain⟨t1,t2,t3⟩:=HFI.out wx HBX.out;have HOW:Hid (wx.ownsRow lo 111 1 (.slice (some ⟨sg,0,none⟩) s.length sc) s.length (rfC s)):=by
     have:=t1.sk;rw[hd1]at this;exact this
    have k2:=t1.m.at 2 rfl;have k2d:wx.drew.cell? ⟨M,2,none⟩=_:=k2;have c4d:wx.drew.cell? ⟨b4,4,none⟩=_:=c4;have hzz:=t2.size;have HLZ2:=hid (Nat.le_trans HLZ.out hzz);clear t1 t2 t3 hzz;go_upto_region 3 with fail
    go_region_law
     (first
      |(refine step_append_lies _ rfl (.tmp 29) (.tmp 31) 113 rfl lo 111 ii _ 1 4 Tryz.underlying113 hii hi0 hi1 hi2 rfl (by omega) (.slice (some ⟨sg,0,none⟩) s.length sc) s.length (rfC s) (by first|(simp[Act.eval];done)|(simp[Act.eval,Act.put];done)) (row_kp HOW.out (Below.refl _ _).drew) ⟨fb,fo,none⟩ fl.length fc (rfC fl) (by first|(simp[Act.eval];done)|(simp[Act.eval,Act.put];done)) (by simp[rfC]) (HNW.out _ HBX.out.drew) (by intro u hu;simp[rfC]at hu;obtain⟨z,-,rfl⟩:=hu;rfl) (by omega) (by unfold maxLen;omega) (by omega) HLZ2.out _ rfl ?_;intro G1 c1 w7 hown hgrow hat hlt1;obtain⟨⟨k7,f7⟩,HRR⟩:=HAP.out _ _ _ _ HBX.out.drew hgrow hat hown;clear hown hgrow hat hlt1))
    all_goals(try go_wp2)
    all_goals
     refine bE ?_;rw[HRS.out];first|(with_reducible exact HRR.out)|(with_reducible exact HRR.out.drew)
structure Slc where
 idx:Nat
 dst:Option Nat
 needs:List Nat
 G:Value->World->Prop
def unlistC(l:List Nat)(listed:Array Bool):Bool:=(List.range listed.size).all λi=>listed.getD i false||l.contains i
def evd(a:Act):Option Nat->Value
 |some d=>a.eval (.tmp d)
 |none=>undef
section
variable {P:Program} {ops:Array Oper} {Q:Exit->Act->World->Prop} {md:Region.Mode} {S:World->Prop}
theorem wpAnyH_factsC(hd:downB md ops=true)(sl:List Slc)(D:List Nat)(hD:∀t∈sl,∀d,t.dst=some d->d∈D)(hdn:∀t∈sl,∀t'∈sl,t.idx≠t'.idx->∀d,t.dst=some d->t'.dst≠some d)(hin:(sl.map (·.idx)).Nodup)
 (hnd:∀t∈sl,∀j∈t.needs,Region.waitsFor md ops t.idx j=true)
 (a0:Act) (hlt:∀t∈sl,∀d,t.dst=some d->d<a0.tmps.size) (W:Array Bool->Act->World->Prop) (hWS:∀l a w,W l a w->S w)
 (hstep:∀t∈sl,∃o,ops[t.idx]?=some o∧o.guard=none∧o.dst=t.dst∧∀listed a w,listed.size=ops.size->Agree D a0 a->listed.getD t.idx true=false->(∀j∈t.needs,listed.getD j false=true)->W listed a w->(∀t'∈sl,listed.getD t'.idx false=true->t'.G (evd a t'.dst) w)->
  o.wp P a w (λa' w'=>∃v,a'=a.put o.dst v∧W (listed.setIfInBounds t.idx true) a' w'∧t.G (if t.dst=none then undef else v) w'∧∀t'∈sl,t'.idx≠t.idx->∀u,t'.G u w->t'.G u w') Q)
 {w0:World} (fuel:Nat) (listed0:Array Bool) (hls:listed0.size=ops.size) (hfu:listed0.toList.count false<=fuel) (hun:unlistC (sl.map (·.idx)) listed0=true) (hno:∀t∈sl,listed0.getD t.idx false=false)
 (hW:W listed0 a0 w0)
 (hend:∀listed a w,(∀i,i<ops.size->listed.getD i false=true)->Agree D a0 a->W listed a w->(∀t∈sl,t.G (evd a t.dst) w)->Q .normal a w):wpAnyH P md ops Q S fuel listed0 a0 w0:=by
 refine wpAnyH_inv hd (λlisted a w=>listed.size=ops.size∧(∀i,listed.getD i true=false->i∈sl.map (·.idx))∧Agree D a0 a∧W listed a w∧∀t∈sl,listed.getD t.idx false=true->t.G (evd a t.dst) w) ?_ ?_ fuel listed0 a0 w0 hls hfu ?_
 ·rintro listed a w i o ⟨hsz,hI,hA,hWw,hG⟩ ho hu hall;obtain⟨t,ht,rfl⟩:=List.mem_map.1 (hI i hu);obtain⟨o',ho',hgd,hdst,hrun⟩:=hstep t ht;obtain rfl:o'=o:=Option.some.inj (ho'.symm.trans ho);have hl:t.idx<listed.size:=by rw[hsz];exact(Array.getElem?_eq_some_iff.1 ho).1
  have hnl:∀j∈t.needs,listed.getD j false=true:=λj hj=>by
   obtain⟨oj,hoj,e,he,hb,hon⟩:=Region.waitsFor_spec (hnd t ht _ hj);obtain rfl:oj=o':=Option.some.inj (hoj.symm.trans ho);rw[<-hon];exact hall e he hb
  have hr:=hrun listed a w hsz hA hu hnl hWw hG;unfold wpOp;simp only[ho];rw[if_pos (by simp[Region.wanted,hgd])];refine .inl (Oper.wp_mono (λa' w' h'=>?_) hr);obtain⟨v,rfl,hW',hG',hK⟩:=h';have hset:(listed.setIfInBounds t.idx true).getD t.idx false=true:=by rw[Array.getD_eq_getD_getElem?,Array.getElem?_setIfInBounds_self_of_lt hl];rfl
  rw[hdst]at hW' ⊢;refine⟨hWS _ _ _ hW',by simpa using hsz,λj hj=>?_,?_,hW',λt' ht' hl'=>?_⟩
  ·by_cases hij:t.idx=j
   ·exact List.mem_map.2 ⟨t,ht,hij⟩
   ·rw[getD_set_ne true hij]at hj;exact hI j hj
  ·cases hx:t.dst with
   |none=>exact hA
   |some d=>exact hA.put (hD t ht d hx) v
  ·by_cases hij:t.idx=t'.idx
   ·obtain rfl:t=t':=inj_nodup hin ht ht' hij;cases hx:t.dst with
    |none=>
     rw[hx,if_pos rfl]at hG';exact hG'
    |some d=>
     rw[hx,if_neg (by simp)]at hG';show t.G ((a.put (some d) v).eval (.tmp d)) w';rw[eval_put_self (by rw[hA.size];exact hlt t ht d hx)];exact hG'
   ·rw[getD_set_ne false hij]at hl';have h1:=hK t' ht' (Ne.symm hij) _ (hG t' ht' hl');have e:evd (a.put t.dst v) t'.dst=evd a t'.dst:=by
     cases hx:t.dst with
     |none=>rfl
     |some d=>
      cases hy:t'.dst with
      |none=>rfl
      |some d'=>exact eval_put_ne (λe=>hdn t ht t' ht' hij d hx (by rw[hy,e])) v
    rw[e];exact h1
 ·rintro listed a w ⟨hsz,hI,hA,hWw,hG⟩ hall;refine hend listed a w hall hA hWw λt ht=>hG t ht (hall _ ?_);obtain⟨o,ho,-⟩:=hstep t ht;exact(Array.getElem?_eq_some_iff.1 ho).1
 ·refine⟨hls,λi hi=>?_,Agree.refl _ _,hW,λt ht h1=>?_⟩
  ·have hil:i<listed0.size:=by
    rcases Nat.lt_or_ge i listed0.size with h|h
    ·exact h
    ·simp[Array.getElem?_eq_none h]at hi
   have h1:=List.all_eq_true.1 hun i (List.mem_range.2 hil);rw[getD_both hi]at h1;simpa using h1
  ·rw[hno t ht]at h1;cases h1
theorem wp_val{o:Oper}{a:Act}{w w':World}{v:Value}{next:Act->World->Prop}(h:(execOp a.eval o).run P w=.ok (.value v) w')(hk:next (a.put o.dst v) w'):o.wp P a w next Q:=by
 unfold Oper.wp;rw[h];exact hk
theorem wp_skip{o:Oper}{a:Act}{w w':World}{next:Act->World->Prop}(h:(execOp a.eval o).run P w=.ok .skip w')(hk:next (a.put o.dst undef) w'):o.wp P a w next Q:=by
 unfold Oper.wp;rw[h];exact hk
theorem wp_enter{o:Oper}{a:Act}{w:World}{f:FuncId}{args:Array Value}{next:Act->World->Prop}(h:(execOp a.eval o).run P w=.ok (.enter f args) w)(hc:Calls P f args w λe w''=>∃v,e=.returned v∧next (a.put o.dst v) w''):o.wp P a w next Q:=by
 unfold Oper.wp;rw[h];refine Calls.mono hc λe w'' he=>?_;obtain⟨v,rfl,hn⟩:=he;exact hn
theorem tail1{n:Nat}{a:Act}{w:World}(h:wpOp P ops Q n (Q .normal) a w):tailQ P ops Q n (0+1) .normal a w:=by
 show wpOps P ops Q [n] a w;rw[wpOps_cons];exact wpOp_mono (λa w h=>h) h
end
def GZ(w0:World)(v:Value)(w:World):Prop:=∃b x0 x1 x2 x3 x4,v=.pointer (some ⟨b,0,none⟩)∧w0.heap.size<=b∧FBL w b [x0,x1,x2,x3,x4]
theorem GZ.keep{w0 w w':World}{v:Value}(h:GZ w0 v w)(hk:∀b,w0.heap.size<=b->b<w.heap.size->w'.heap[b]?=w.heap[b]?)(hz:w.heap.size<=w'.heap.size):GZ w0 v w':=by
 obtain⟨b,x0,x1,x2,x3,x4,h1,h2,h3⟩:=h;exact⟨b,x0,x1,x2,x3,x4,h1,h2,h3.of_block (hk b h2 h3.lt) hz⟩
structure CalW (w0:World) (M:Nat) (L0 L1 L2 R:List Value) (listed:Array Bool) (a:Act) (w:World):Prop where
 b:Bw w0 w M (if listed.getD 13 false then L2 else if listed.getD 5 false then L1 else L0)
 o:listed.getD 13 false=true->listed.getD 5 false=true
 ne:listed.getD 16 false=true->listed.getD 17 false=true->a.eval (.tmp 4)≠a.eval (.tmp 5)
 p:listed.getD 18 false=true->listed.getD 16 false=true
 st:listed.getD 18 false=true->∃b,w0.heap.size<=b∧a.eval (.tmp 4)=.pointer (some ⟨b,0,none⟩)∧FBL w b R
def calSl(w0:World)(vr pr ar vl pl al:Value):List Slc:=[⟨5,some 11,[],λv _=>v=vr⟩,⟨6,some 12,[5],λv _=>v=pr⟩,⟨7,some 13,[6],λv _=>v=ar⟩,⟨13,some 19,[5],λv _=>v=vl⟩,⟨14,some 20,[13],λv _=>v=pl⟩,⟨15,some 21,[14],λv _=>v=al⟩,⟨16,some 4,[],GZ w0⟩,⟨17,some 5,[],GZ w0⟩,⟨18,none,[16,7,5,13],λ_ _=>True⟩]
theorem calSl_all{w0:World}{vr pr ar vl pl al:Value}{P:Slc->Prop}(h1:P ⟨5,some 11,[],λv _=>v=vr⟩)(h2:P ⟨6,some 12,[5],λv _=>v=pr⟩)(h3:P ⟨7,some 13,[6],λv _=>v=ar⟩)(h4:P ⟨13,some 19,[5],λv _=>v=vl⟩)(h5:P ⟨14,some 20,[13],λv _=>v=pl⟩)(h6:P ⟨15,some 21,[14],λv _=>v=al⟩)(h7:P ⟨16,some 4,[],GZ w0⟩)(h8:P ⟨17,some 5,[],GZ w0⟩)(h9:P ⟨18,none,[16,7,5,13],λ_ _=>True⟩):∀t∈calSl w0 vr pr ar vl pl al,P t:=by
 intro t ht;simp only[calSl,List.mem_cons,List.not_mem_nil,or_false]at ht;rcases ht with rfl|rfl|rfl|rfl|rfl|rfl|rfl|rfl|rfl<;>assumption
theorem calSl_nd(w0:World)(vr pr ar vl pl al:Value):(∀t∈calSl w0 vr pr ar vl pl al,∀d,t.dst=some d->d∈[11,12,13,19,20,21,4,5])∧(∀t∈calSl w0 vr pr ar vl pl al,∀t'∈calSl w0 vr pr ar vl pl al,t.idx≠t'.idx->∀d,t.dst=some d->t'.dst≠some d)∧((calSl w0 vr pr ar vl pl al).map (·.idx)).Nodup:=by
 refine⟨?_,?_,by simp[calSl]⟩
 ·refine calSl_all ?_ ?_ ?_ ?_ ?_ ?_ ?_ ?_ ?_<;>(intro d hd;simp at hd;try subst hd;try simp)
 ·refine calSl_all ?_ ?_ ?_ ?_ ?_ ?_ ?_ ?_ ?_<;>refine calSl_all ?_ ?_ ?_ ?_ ?_ ?_ ?_ ?_ ?_<;>(intro hn d hd;simp at hd hn;try subst hd;try simp)
theorem calSl_keep{w0 w w':World}{vr pr ar vl pl al:Value}(hk:∀v,GZ w0 v w->GZ w0 v w')(i:Nat):∀t∈calSl w0 vr pr ar vl pl al,t.idx≠i->∀u,t.G u w->t.G u w':=
 calSl_all (λ_ _ h=>h) (λ_ _ h=>h) (λ_ _ h=>h) (λ_ _ h=>h) (λ_ _ h=>h) (λ_ _ h=>h) (λ_ _ h=>hk _ h) (λ_ _ h=>hk _ h) (λ_ _ h=>h)
section
variable {w0 w:World} {M:Nat} {L0 L1 L2 R:List Value} {listed:Array Bool} {a:Act}
theorem CalW.quiet(h:CalW w0 M L0 L1 L2 R listed a w){i d:Nat}(hi:i≠5∧i≠13∧i≠16∧i≠17∧i≠18)(hd:d≠4∧d≠5)(v:Value):CalW w0 M L0 L1 L2 R (listed.setIfInBounds i true) (a.put (some d) v) w:=by
 refine⟨?_,?_,?_,?_,?_⟩
 ·rw[getD_set_ne false hi.2.1,getD_set_ne false hi.1];exact h.b
 ·rw[getD_set_ne false hi.2.1,getD_set_ne false hi.1];exact h.o
 ·rw[getD_set_ne false hi.2.2.1,getD_set_ne false hi.2.2.2.1,eval_put_ne hd.1,eval_put_ne hd.2];exact h.ne
 ·rw[getD_set_ne false hi.2.2.2.2,getD_set_ne false hi.2.2.1];exact h.p
 ·rw[getD_set_ne false hi.2.2.2.2,eval_put_ne hd.1];exact h.st
theorem getD_set_at{l:Array Bool}{i:Nat}(h:i<l.size):(l.setIfInBounds i true).getD i false=true:=by rw[Array.getD_eq_getD_getElem?,Array.getElem?_setIfInBounds_self_of_lt h];rfl
theorem bw_new{w':World}{v:Value}{X:World}(e:w'=(X.setCell ⟨M,2,none⟩ v).drew.drew)(hM:M<w0.heap.size):∀b,w0.heap.size<=b->w'.heap[b]?=X.heap[b]?:=λb hb=>by
 rw[e];show(X.setCell ⟨M,2,none⟩ v).heap[b]?=_;exact Below.heap_setCell _ _ _ _ (by show b≠M;omega)
theorem CalW.pop1(h:CalW w0 M L0 L1 L2 R listed a w)(hs:5<listed.size)(hu:listed.getD 5 true=false){d:Nat}(hd:d≠4∧d≠5)(v:Value):Bw w0 w M L0∧∀w',Bw w0 w' M L1->(∀b,w0.heap.size<=b->w'.heap[b]?=w.heap[b]?)->w.heap.size<=w'.heap.size->CalW w0 M L0 L1 L2 R (listed.setIfInBounds 5 true) (a.put (some d) v) w':=by
 have h5:listed.getD 5 false=false:=getD_both hu;have h13:listed.getD 13 false=false:=by
  cases hx:listed.getD 13 false with
  |false=>rfl
  |true=>rw[h.o hx]at h5;cases h5
 have hb:=h.b;rw[h13,h5]at hb;refine⟨hb,λw' hw hk hz=>⟨?_,λ_=>getD_set_at hs,?_,?_,?_⟩⟩
 ·rw[getD_set_ne false (show 5≠13 by decide),h13,getD_set_at hs];exact hw
 ·rw[getD_set_ne false (show 5≠16 by decide),getD_set_ne false (show 5≠17 by decide),eval_put_ne hd.1,eval_put_ne hd.2];exact h.ne
 ·rw[getD_set_ne false (show 5≠18 by decide),getD_set_ne false (show 5≠16 by decide)];exact h.p
 ·rw[getD_set_ne false (show 5≠18 by decide),eval_put_ne hd.1];intro h18;obtain⟨b,q1,q2,q3⟩:=h.st h18;exact⟨b,q1,q2,q3.of_block (hk b q1) hz⟩
theorem CalW.pop2(h:CalW w0 M L0 L1 L2 R listed a w)(hs:13<listed.size)(hu:listed.getD 13 true=false)(h5:listed.getD 5 false=true){d:Nat}(hd:d≠4∧d≠5)(v:Value):Bw w0 w M L1∧∀w',Bw w0 w' M L2->(∀b,w0.heap.size<=b->w'.heap[b]?=w.heap[b]?)->w.heap.size<=w'.heap.size->CalW w0 M L0 L1 L2 R (listed.setIfInBounds 13 true) (a.put (some d) v) w':=by
 have h13:listed.getD 13 false=false:=getD_both hu;have hb:=h.b;rw[h13,h5]at hb;refine⟨hb,λw' hw hk hz=>⟨?_,λ_=>by rw[getD_set_ne false (show 13≠5 by decide)];exact h5,?_,?_,?_⟩⟩
 ·rw[getD_set_at hs];exact hw
 ·rw[getD_set_ne false (show 13≠16 by decide),getD_set_ne false (show 13≠17 by decide),eval_put_ne hd.1,eval_put_ne hd.2];exact h.ne
 ·rw[getD_set_ne false (show 13≠18 by decide),getD_set_ne false (show 13≠16 by decide)];exact h.p
 ·rw[getD_set_ne false (show 13≠18 by decide),eval_put_ne hd.1];intro h18;obtain⟨b,q1,q2,q3⟩:=h.st h18;exact⟨b,q1,q2,q3.of_block (hk b q1) hz⟩
theorem ptr_ne{b c:Nat}(h:b≠c):Value.pointer (some ⟨b,0,none⟩)≠.pointer (some ⟨c,0,none⟩):=by
 intro hc;simp only[Value.pointer.injEq,Option.some.injEq,Addr.mk.injEq]at hc;exact h hc.1
theorem CalW.new4(h:CalW w0 M L0 L1 L2 R listed a w)(hu:listed.getD 16 true=false)(ha:5<a.tmps.size)(h5:listed.getD 17 false=true->GZ w0 (a.eval (.tmp 5)) w)(o:Obj):CalW w0 M L0 L1 L2 R (listed.setIfInBounds 16 true) (a.put (some 4) (.pointer (some ⟨w.heap.size,0,none⟩))) (w.alloc o):=by
 have h16:listed.getD 16 false=false:=getD_both hu;refine⟨?_,?_,?_,?_,?_⟩
 ·rw[getD_set_ne false (show 16≠13 by decide),getD_set_ne false (show 16≠5 by decide)];exact h.b.alloc
 ·rw[getD_set_ne false (show 16≠13 by decide),getD_set_ne false (show 16≠5 by decide)];exact h.o
 ·rw[getD_set_ne false (show 16≠17 by decide)];intro _ h17;obtain⟨b,_,_,_,_,_,e,-,hb⟩:=h5 h17;have hlt:=hb.lt;rw[eval_put_self (by omega),eval_put_ne (by decide),e];exact ptr_ne (by omega)
 ·rw[getD_set_ne false (show 16≠18 by decide)];intro h18;rw[h.p h18]at h16;cases h16
 ·rw[getD_set_ne false (show 16≠18 by decide)];intro h18;rw[h.p h18]at h16;cases h16
theorem CalW.new5(h:CalW w0 M L0 L1 L2 R listed a w)(ha:5<a.tmps.size)(h4:listed.getD 16 false=true->GZ w0 (a.eval (.tmp 4)) w)(o:Obj):CalW w0 M L0 L1 L2 R (listed.setIfInBounds 17 true) (a.put (some 5) (.pointer (some ⟨w.heap.size,0,none⟩))) (w.alloc o):=by
 refine⟨?_,?_,?_,?_,?_⟩
 ·rw[getD_set_ne false (show 17≠13 by decide),getD_set_ne false (show 17≠5 by decide)];exact h.b.alloc
 ·rw[getD_set_ne false (show 17≠13 by decide),getD_set_ne false (show 17≠5 by decide)];exact h.o
 ·rw[getD_set_ne false (show 17≠16 by decide)];intro h16 _;obtain⟨b,_,_,_,_,_,e,-,hb⟩:=h4 h16;have hlt:=hb.lt;rw[eval_put_self (by omega),eval_put_ne (by decide),e];exact ptr_ne (by omega)
 ·rw[getD_set_ne false (show 17≠18 by decide),getD_set_ne false (show 17≠16 by decide)];exact h.p
 ·rw[getD_set_ne false (show 17≠18 by decide),eval_put_ne (by decide)];intro h18;obtain⟨b,q1,q2,q3⟩:=h.st h18;exact⟨b,q1,q2,q3.of_block (heap_alloc_old w o q3.lt) (by simp)⟩
theorem GZ.new(w0:World)(hw:w0.heap.size<=w.heap.size)(t:TypeId):GZ w0 (.pointer (some ⟨w.heap.size,0,none⟩)) (w.alloc (.cells #[.int .u8 0,.int .i64 0,.int .i32 0,.int .i32 0,.slice none 0 0] t)):=⟨_,_,_,_,_,_,rfl,hw,FBL.new5 _ _ _ _ _ _ _⟩
def w5(w:World)(b:Nat)(x0 x1 x2 x3 x4:Value):World:=((((w.setCell ⟨b,0,none⟩ x0).setCell ⟨b,1,none⟩ x1).setCell ⟨b,2,none⟩ x2).setCell ⟨b,3,none⟩ x3).setCell ⟨b,4,none⟩ x4
theorem FBL.st5{b:Nat}{z0 z1 z2 z3 z4:Value}(h:FBL w b [z0,z1,z2,z3,z4])(x0 x1 x2 x3 x4:Value):FBL (w5 w b x0 x1 x2 x3 x4) b [x0,x1,x2,x3,x4]:=by
 have h0:=FBL.set h (i:=0) (by simp) x0;have h1:=FBL.set h0 (i:=1) (by simp) x1;have h2:=FBL.set h1 (i:=2) (by simp) x2;have h3:=FBL.set h2 (i:=3) (by simp) x3;exact FBL.set h3 (i:=4) (by simp) x4
theorem FBL.off5{b c:Nat}{L:List Value}(h:FBL w c L)(hc:c≠b)(x0 x1 x2 x3 x4:Value):FBL (w5 w b x0 x1 x2 x3 x4) c L:=by
 refine h.of_block ?_ (by simp[w5]);unfold w5;rw[Below.heap_setCell _ _ _ _ hc,Below.heap_setCell _ _ _ _ hc,Below.heap_setCell _ _ _ _ hc,Below.heap_setCell _ _ _ _ hc,Below.heap_setCell _ _ _ _ hc]
theorem Bw.st5{X:World}{b:Nat}{L:List Value}(h:Bw w X M L)(hb:w.heap.size<=b)(x0 x1 x2 x3 x4:Value):Bw w (w5 X b x0 x1 x2 x3 x4) M L:=((((h.fresh hb).fresh hb).fresh hb).fresh hb).fresh hb
theorem GZ.st5{b:Nat}{v:Value}{z0 z1 z2 z3 z4:Value}(h:GZ w0 v w)(hb:FBL w b [z0,z1,z2,z3,z4])(x0 x1 x2 x3 x4:Value):GZ w0 v (w5 w b x0 x1 x2 x3 x4):=by
 obtain⟨c,y0,y1,y2,y3,y4,e,h1,h2⟩:=h;by_cases hc:c=b
 ·subst hc;exact⟨c,_,_,_,_,_,e,h1,h2.st5 _ _ _ _ _⟩
 ·exact⟨c,_,_,_,_,_,e,h1,h2.off5 hc _ _ _ _ _⟩
theorem CalW.stored{r0 r1 r2 r3 r4:Value}(h:CalW w0 M L0 L1 L2 [r0,r1,r2,r3,r4] listed a w)(h16:listed.getD 16 false=true)(h4:GZ w0 (a.eval (.tmp 4)) w):∃b z0 z1 z2 z3 z4,a.eval (.tmp 4)=.pointer (some ⟨b,0,none⟩)∧w0.heap.size<=b∧FBL w b [z0,z1,z2,z3,z4]∧CalW w0 M L0 L1 L2 [r0,r1,r2,r3,r4] (listed.setIfInBounds 18 true) a (w5 w b r0 r1 r2 r3 r4):=by
 obtain⟨b,z0,z1,z2,z3,z4,e,hb,hf⟩:=h4;refine⟨b,z0,z1,z2,z3,z4,e,hb,hf,?_,?_,?_,?_,?_⟩
 ·rw[getD_set_ne false (show 18≠13 by decide),getD_set_ne false (show 18≠5 by decide)];exact h.b.st5 hb _ _ _ _ _
 ·rw[getD_set_ne false (show 18≠13 by decide),getD_set_ne false (show 18≠5 by decide)];exact h.o
 ·rw[getD_set_ne false (show 18≠16 by decide),getD_set_ne false (show 18≠17 by decide)];exact h.ne
 ·rw[getD_set_ne false (show 18≠16 by decide)];exact λ_=>h16
 ·exact λ_=>⟨b,hb,e,hf.st5 _ _ _ _ _⟩
end
def calS(op:Int)(l r:MCl)(st:MSt):MSt:=
 if l.kind≠1∨r.kind≠1 then stopS 3 (dropS 1 (dropS 1 st)) else if rkO op r.n=false then stopS 6 (dropS 1 (dropS 1 st)) else putS (rkC op l.n r.n) (dropS 1 (dropS 1 st))
end Go.Proofs.YtahmgjjgikgpoaaGreatDoor
