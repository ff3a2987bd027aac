import Derived.Test.YtahmgjjgikgpoaaGreatDoorJgJ
import Derived.Lib.AppendStr
import Derived.ScopeJumps
import Derived.WalkMore
import Derived.Laws.OwnMore
set_option maxRecDepth 100000
set_option maxHeartbeats 2000000
namespace Go.Proofs.YtahmgjjgikgpoaaGreatDoor
open Go.RowKit Go.Sort
structure AG (X:List Nat) (w w':World):Prop where
 os:w'.os=w.os
 tape:w'.tape=w.tape
 output:w'.output=w.output
 size:w.heap.size<=w'.heap.size
 block:∀k,k<w.heap.size->k∉X->w'.heap[k]?=w.heap[k]?
theorem AG.refl(X:List Nat)(w:World):AG X w w:=⟨rfl,rfl,rfl,Nat.le_refl _,λ_ _ _=>rfl⟩
theorem AG.of_below{X:List Nat}{w w':World}(h:Below w.heap.size w w'):AG X w w':=⟨h.os,h.tape,h.output,h.size,λk hk _=>h.block k hk⟩
theorem AG.trans{X Y:List Nat}{w w1 w2:World}(h:AG X w w1)(k:AG Y w1 w2)(hY:∀b∈Y,b∈X∨w.heap.size<=b):AG X w w2:=
 ⟨k.os.trans h.os,k.tape.trans h.tape,k.output.trans h.output,Nat.le_trans h.size k.size,λb hb hX=>by
  rw[k.block b (Nat.lt_of_lt_of_le hb h.size) (λhm=>by rcases hY b hm with h1|h1;exact hX h1;omega)];exact h.block b hb hX⟩
theorem AG.set{X:List Nat}{b j:Nat}{w w':World}(h:AG X w w')(hb:b∈X∨w.heap.size<=b)(u:Value):AG X w (w'.setCell ⟨b,j,none⟩ u):=
 ⟨h.os,h.tape,h.output,by simpa using h.size,λk hk hX=>by
  rw[Below.heap_setCell _ _ _ _ (show k≠b from λe=>by subst e;rcases hb with h1|h1;exact hX h1;omega)];exact h.block k hk hX⟩
theorem AG.grown{X:List Nat}{r:Option Nat}{w w' w2:World}(h:AG X w w')(hg:w'.grownBy w2 r)(hr:∀b,r=some b->b∈X∨w.heap.size<=b):AG X w w2:=
 ⟨hg.os.trans h.os,hg.tape.trans h.tape,hg.output.trans h.output,Nat.le_trans h.size hg.size,λk hk hX=>by
  rw[hg.block k (Nat.lt_of_lt_of_le hk h.size) (λe=>by rcases hr k e.symm with h1|h1;exact hX h1;omega)];exact h.block k hk hX⟩
theorem AG.then{X:List Nat}{w w1 w2:World}(h:AG X w w1)(hb:Below w1.heap.size w1 w2):AG X w w2:=h.trans (AG.of_below (X:=[]) hb) λb hb=>by cases hb
theorem AG.low{X:List Nat}{lo:Nat}{w w':World}(h:AG X w w')(hX:∀b∈X,lo<=b)(hz:lo<=w.heap.size):Below lo w w':=⟨h.os,h.tape,h.output,h.size,λk hk=>h.block k (by omega) λhm=>by have:=hX k hm;omega⟩
def FBL(w:World)(b:Nat)(L:List Value):Prop:=FB w b L.length λj=>(L[j]?).getD .nilIface
theorem FBL.at{w:World}{b:Nat}{L:List Value}(h:FBL w b L)(j:Nat){v:Value}(hv:L[j]?=some v):w.cell? ⟨b,j,none⟩=some v:=by
 have hj:j<L.length:=(List.getElem?_eq_some_iff.1 hv).1;have:=h.c j hj;simpa[hv]using this
theorem FBL.set{w:World}{b:Nat}{L:List Value}(h:FBL w b L){i:Nat}(hi:i<L.length)(u:Value):FBL (w.setCell ⟨b,i,none⟩ u) b (L.set i u):=by
 refine⟨λj hj=>?_,λj=>by rw[World.frozen?_setCell];exact h.fz j,by simpa using h.lt⟩;rw[List.length_set]at hj;by_cases e:j=i
 ·subst e;rw[World.cell?_setCell_same _ _ _ (h.c j hj)];simp[hi]
 ·rw[setc (Ne.symm e),h.c j hj,List.getElem?_set_ne (Ne.symm e)]
theorem FBL.of_block{w w':World}{b:Nat}{L:List Value}(h:FBL w b L)(e:w'.heap[b]?=w.heap[b]?)(hz:w.heap.size<=w'.heap.size):FBL w' b L:=FB.of_block h e hz
structure MCl where
 kind:Int
 n:Int
 left:Int
 right:Int
 fields:List Int
structure MFr where
 base:Int
 code:List LIns
 at_:Int
structure MSt where
 cells:List MCl
 stack:List Int
 fr:MFr
 dump:List MFr
 su:Int
 sm:Int
 mu:Int
 mm:Int
 state:Int
 kind:Int
 text:List UInt8
def mcC(x:MCl×Value):List Value:=[.int .u8 x.1.kind,.int .i64 x.1.n,.int .i32 x.1.left,.int .i32 x.1.right,x.2]
def frC(x:MFr×Value):List Value:=[.int .i64 x.1.base,x.2,.int .i64 x.1.at_]
def rfC(l:List Int):List Value:=l.map λx=>.int .i32 x
def btC(l:List UInt8):List Value:=l.map λx=>.int .u8 (x.toNat:Int)
def FldX(X:Nat->Prop)(w:World)(v:Value)(l:List Int):Prop:=∃p cap,v=.slice p l.length cap∧∀i (h:i<l.length),∃b o,X b∧p=some ⟨b,o,none⟩∧w.cell? ⟨b,o+i,none⟩=some (.int .i32 l[i])
theorem FldX.fr{X Y:Nat->Prop}{w w':World}{v:Value}{l:List Int}(h:FldX X w v l)(hX:∀b,X b->b<w.heap.size->Y b∧w'.heap[b]?=w.heap[b]?):FldX Y w' v l:=by
 obtain⟨p,cap,e,hc⟩:=h;refine⟨p,cap,e,λi hi=>?_⟩;obtain⟨b,o,hx,e2,h0⟩:=hc i hi;obtain⟨k1,k2⟩:=hX b hx (block_lt_of_cell h0);exact⟨b,o,k1,e2,cell_same k2 h0⟩
def CdAt(lo:Nat)(w:World)(v:Value)(l:List LIns):Prop:=(v=.slice none 0 0∧l=[])∨MCx (λb=>b<lo) w v l
theorem CdAt.fr{lo:Nat}{w w':World}{v:Value}{l:List LIns}(h:CdAt lo w v l)(hb:Below lo w w'):CdAt lo w' v l:=h.imp id λh=>h.fr hb.size λb h1 _=>hb.block b h1
def mL(Pb:Nat)(cv sv kv dv tv:Value)(st:MSt):List Value:=[.pointer (some ⟨Pb,0,none⟩),cv,sv,.int .i64 st.fr.base,kv,.int .i64 st.fr.at_,dv,.int .i64 st.su,.int .i64 st.sm,.int .i64 st.mu,.int .i64 st.mm,.int .i64 st.state,.int .i64 st.kind,tv]
def mB(M:Nat)(cv sv dv tv:Value):List Nat:=M::(vB cv++(vB sv++(vB dv++vB tv)))
structure MMem (lo:Nat) (w:World) (M Pb:Nat) (st:MSt) (cs:List (MCl×Value)) (ds:List (MFr×Value)) (cv sv kv dv tv:Value):Prop where
 m:FBL w M (mL Pb cv sv kv dv tv st)
 cl:w.ownsRow lo 154 5 cv cs.length (cs.flatMap mcC)
 fl:∀x∈cs,FldX (λb=>lo<=b∧b∉mB M cv sv dv tv) w x.2 x.1.fields
 sk:w.ownsRow lo 111 1 sv st.stack.length (rfC st.stack)
 dp:w.ownsRow lo 116 3 dv ds.length (ds.flatMap frC)
 dc:∀x∈ds,CdAt lo w x.2 x.1.code
 cd:CdAt lo w kv st.fr.code
 tx:w.ownsRow lo 5 1 tv st.text.length (btC st.text)
 hcs:cs.map (·.1)=st.cells
 hds:ds.map (·.1)=st.dump
 nd:(mB M cv sv dv tv).Nodup
 ml:lo<=M
theorem own_lo{w:World}{B:Nat}{e:TypeId}{size n b:Nat}{v:Value}{xs:List Value}(h:w.ownsRow B e size v n xs)(hb:b∈vB v):B<=b∧b<w.heap.size:=⟨row_low h (mem_vB.1 hb),own_lt h (mem_vB.1 hb)⟩
section
variable {lo:Nat} {w w':World} {M Pb:Nat} {st:MSt} {cs:List (MCl×Value)} {ds:List (MFr×Value)} {cv sv kv dv tv:Value}
theorem MMem.rg(h:MMem lo w M Pb st cs ds cv sv kv dv tv):∀b∈mB M cv sv dv tv,lo<=b∧b<w.heap.size:=by
 intro b hb;rcases List.mem_cons.1 hb with rfl|hb
 ·exact⟨h.ml,h.m.lt⟩
 rcases List.mem_append.1 hb with hb|hb
 ·exact own_lo h.cl hb
 rcases List.mem_append.1 hb with hb|hb
 ·exact own_lo h.sk hb
 rcases List.mem_append.1 hb with hb|hb
 ·exact own_lo h.dp hb
 ·exact own_lo h.tx hb
theorem MMem.lz(h:MMem lo w M Pb st cs ds cv sv kv dv tv):lo<=w.heap.size:=Nat.le_trans h.ml (Nat.le_of_lt h.m.lt)
theorem MMem.keep(h:MMem lo w M Pb st cs ds cv sv kv dv tv)(hb:Below w.heap.size w w'):MMem lo w' M Pb st cs ds cv sv kv dv tv:=
 ⟨h.m.of_block (hb.block _ h.m.lt) hb.size,row_kp h.cl hb,λx hx=>(h.fl x hx).fr λb h1 h2=>⟨h1,hb.block b h2⟩,row_kp h.sk hb,row_kp h.dp hb,λx hx=>(h.dc x hx).fr (hb.mono h.lz),h.cd.fr (hb.mono h.lz),row_kp h.tx hb,h.hcs,h.hds,h.nd,h.ml⟩
theorem MMem.setM(h:MMem lo w M Pb st cs ds cv sv kv dv tv){i:Nat}{u:Value}{st':MSt}{kv':Value}(hL:(mL Pb cv sv kv dv tv st).set i u=mL Pb cv sv kv' dv tv st')(hi:i<14)(h1:st'.cells=st.cells)(h2:st'.stack=st.stack)(h3:st'.dump=st.dump)(h4:st'.text=st.text)(hc:CdAt lo w kv' st'.fr.code):MMem lo (w.setCell ⟨M,i,none⟩ u) M Pb st' cs ds cv sv kv' dv tv:=by
 have hnd:=List.nodup_cons.1 h.nd;have hne:∀b,b≠M->(w.setCell ⟨M,i,none⟩ u).heap[b]?=w.heap[b]?:=λb hb=>Below.heap_setCell _ _ _ _ hb;have hr:∀v,(∀b∈vB v,b∈vB cv++(vB sv++(vB dv++vB tv)))->Fr (vB v) w (w.setCell ⟨M,i,none⟩ u):=λv hv b hb=>hne b λe=>hnd.1 (e▸hv b hb);have hbl:Below lo w (w.setCell ⟨M,i,none⟩ u):=(Below.refl _ _).setCell h.ml _;have hm:=h.m.set (i:=i) hi u;rw[hL]at hm;refine⟨hm,row_fr h.cl (hr cv λb hb=>List.mem_append_left _ hb),λx hx=>(h.fl x hx).fr λb hx _=>⟨hx,hne b λe=>hx.2 (e▸List.mem_cons_self ..)⟩,?_,row_fr h.dp (hr dv λb hb=>List.mem_append_right _ (List.mem_append_right _ (List.mem_append_left _ hb))),λx hx=>(h.dc x hx).fr hbl,hc.fr hbl,?_,by rw[h1];exact h.hcs,by rw[h3];exact h.hds,h.nd,h.ml⟩
 ·rw[h2];exact row_fr h.sk (hr sv λb hb=>List.mem_append_right _ (List.mem_append_left _ hb))
 ·rw[h4];exact row_fr h.tx (hr tv λb hb=>List.mem_append_right _ (List.mem_append_right _ (List.mem_append_right _ hb)))
end
def MM(lo:Nat)(w:World)(M Pb:Nat)(st:MSt)(B:List Nat):Prop:=∃cs ds cv sv kv dv tv,MMem lo w M Pb st cs ds cv sv kv dv tv∧B=mB M cv sv dv tv
theorem MM.keep{lo:Nat}{w w':World}{M Pb:Nat}{st:MSt}{B:List Nat}(h:MM lo w M Pb st B)(hb:Below w.heap.size w w'):MM lo w' M Pb st B:=by
 obtain⟨cs,ds,cv,sv,kv,dv,tv,h,e⟩:=h;exact⟨cs,ds,cv,sv,kv,dv,tv,h.keep hb,e⟩
def MRes(lo M Pb:Nat)(B:List Nat)(w:World)(st:MSt)(r:Value)(e:Ending)(w':World):Prop:=e=.returned r∧AG B w w'∧∃B',MM lo w' M Pb st B'∧∀b∈B',b∈B∨w.heap.size<=b
theorem i64w{z:Int}(h:-9223372036854775808<=z∧z<=9223372036854775807):IntKind.i64.wrap z=z:=by rw[IntKind.wrap_i64];omega
theorem take_any(b o:Nat)(u m n:Int)(w:World)(h0:w.cell? ⟨b,o,none⟩=some (.int .i64 u))(h1:w.cell? ⟨b,o+1,none⟩=some (.int .i64 m))(hf:w.frozen? ⟨b,o,none⟩=false)(hu:0<=u∧u<=1000000000000)(hm:0<=m∧m<=1000000000000)(hn:0<=n∧n<=1000000000000):
 Calls Tryz.prog 78 #[.pointer (some ⟨b,o,none⟩),.int .i64 n] w λe w'=>(n<=m-u∧e=.returned (.bool true)∧w'=w.drew.setCell ⟨b,o,none⟩ (.int .i64 (u+n)))∨(m-u<n∧e=.returned (.bool false)∧w'=w.drew):=by
 have d0:w.drew.cell? ⟨b,o,none⟩=_:=h0;have d1:w.drew.cell? ⟨b,o+1,none⟩=_:=h1;have df:w.drew.frozen? ⟨b,o,none⟩=_:=hf;by_cases hc:m-u<n
 ·go_enter Tryz.func78,Tryz.ntmps78;go_wp2;go_region
  go_wp2;go_ret;exact Or.inr ⟨hc,rfl,rfl⟩
 ·have hc2:n<=m-u:=by omega
  go_enter Tryz.func78,Tryz.ntmps78;go_wp2;go_region
  go_wp2;go_ret;exact Or.inl ⟨hc2,rfl,rfl⟩
structure Mtr (st:MSt):Prop where
 su:0<=st.su∧st.su<=st.sm
 sm:st.sm<=2000000
 mu:0<=st.mu∧st.mu<=st.mm
 mm:st.mm<=2000000
def stopS(k:Int)(st:MSt):MSt:={st with state:=2,kind:=k}
def stepM(st:MSt):Bool:=decide (1<=st.sm-st.su)
def stepS(st:MSt):MSt:=if stepM st then {st with su:=st.su+1} else stopS 1 st
def roomB(n:Int)(st:MSt):Bool:=decide (n<=st.mm-st.mu)
def roomS(n:Int)(st:MSt):MSt:=if roomB n st then {st with mu:=st.mu+n} else stopS 2 st
theorem stop_any{lo:Nat}{w:World}{M Pb:Nat}{st:MSt}{B:List Nat}(k:Int)(h:MM lo w M Pb st B):
 Calls Tryz.prog 79 #[.pointer (some ⟨M,0,none⟩),.int .i64 k] w λe w'=>MRes lo M Pb B w (stopS k st) (.tuple #[]) e w':=by
 obtain⟨cs,ds,cv,sv,kv,dv,tv,h,rfl⟩:=h;have e11:=h.m.at 11 rfl;have e12:=h.m.at 12 rfl;have f11:=h.m.fz 11;have f12:=h.m.fz 12;have HM:=hid h;have HR:Hid (MM lo ((w.setCell ⟨M,11,none⟩ (.int .i64 2)).setCell ⟨M,12,none⟩ (.int .i64 k)) M Pb (stopS k st) (mB M cv sv dv tv)):=by
  have h1:=h.setM (i:=11) (u:=.int .i64 2) (st':={st with state:=2}) (kv':=kv) rfl (by omega) rfl rfl rfl rfl h.cd;have h2:=h1.setM (i:=12) (u:=.int .i64 k) (st':=stopS k st) (kv':=kv) rfl (by omega) rfl rfl rfl rfl h1.cd;exact⟨cs,ds,cv,sv,kv,dv,tv,h2,rfl⟩
 clear h;go_enter Tryz.func79,Tryz.ntmps79;go_wp2;refine bE ?_;exact⟨rfl,((AG.refl _ _).set (Or.inl (List.mem_cons_self ..)) _).set (Or.inl (List.mem_cons_self ..)) _,_,HR.out,λb hb=>Or.inl hb⟩
theorem MMem.drew{lo:Nat}{w:World}{M Pb:Nat}{st:MSt}{cs:List (MCl×Value)}{ds:List (MFr×Value)}{cv sv kv dv tv:Value}(h:MMem lo w M Pb st cs ds cv sv kv dv tv):MMem lo w.drew M Pb st cs ds cv sv kv dv tv:=h.keep (Below.refl _ _).drew
theorem MRes.of{lo M Pb:Nat}{B B1:List Nat}{w w1:World}{st:MSt}{r r':Value}{e e':Ending}{w':World}(h1:AG B w w1)(h2:∀b∈B1,b∈B∨w.heap.size<=b)(h:MRes lo M Pb B1 w1 st r e w')(he:e'=.returned r'):MRes lo M Pb B w st r' e' w':=by
 obtain⟨-,hf,B',hm,hb⟩:=h;have:=h1.size;refine⟨he,h1.trans hf h2,B',hm,λb hb'=>?_⟩;rcases hb b hb' with h3|h3
 ·exact h2 b h3
 ·right;omega
theorem step_any{lo:Nat}{w:World}{M Pb:Nat}{st:MSt}{B:List Nat}(h:MM lo w M Pb st B)(hm:Mtr st):
 Calls Tryz.prog 55 #[.pointer (some ⟨M,0,none⟩)] w λe w'=>MRes lo M Pb B w (stepS st) (.bool (stepM st)) e w':=by
 obtain⟨cs,ds,cv,sv,kv,dv,tv,h,rfl⟩:=h;have hsu:=hm.su;have hsm:=hm.sm;have HT:=hid (take_any M 7 st.su st.sm 1 w (h.m.at 7 rfl) (h.m.at 8 rfl) (h.m.fz 7) (by omega) (by omega) (by omega));have HS:=hid (stop_any 1 (⟨cs,ds,cv,sv,kv,dv,tv,h.drew,rfl⟩:MM lo w.drew M Pb st (mB M cv sv dv tv)));by_cases hc:1<=st.sm-st.su
 ·have HB:Hid (stepM st=true):=by show _=_;unfold stepM;simpa using hc
  have HR:Hid (MM lo (w.drew.setCell ⟨M,7,none⟩ (.int .i64 (st.su+1))) M Pb (stepS st) (mB M cv sv dv tv)):=by
   have h1:=h.drew.setM (i:=7) (u:=.int .i64 (st.su+1)) (st':={st with su:=st.su+1}) (kv':=kv) rfl (by omega) rfl rfl rfl rfl h.drew.cd;unfold stepS;rw[if_pos HB.out];exact⟨cs,ds,cv,sv,kv,dv,tv,h1,rfl⟩
  have HT2:Hid (Calls Tryz.prog 78 #[.pointer (some ⟨M,7,none⟩),.int .i64 1] w λe w'=>e=.returned (.bool true)∧w'=w.drew.setCell ⟨M,7,none⟩ (.int .i64 (st.su+1))):=HT.out.mono λe w' hr=>by
   rcases hr with⟨-,h1,h2⟩|⟨h1,-,-⟩
   ·exact⟨h1,h2⟩
   ·omega
  clear h HT HS;go_enter Tryz.func55,Tryz.ntmps55;go_wp2_with (first|(go_at_call 78;refine HT2.out.mono ?_;rintro e w1 ⟨rfl,rfl⟩))
  go_ret;refine⟨ret_val (by rw[HB.out];rfl),AG.set (AG.of_below (Below.refl _ _).drew) (Or.inl (List.mem_cons_self ..)) _,_,HR.out,λb hb=>Or.inl hb⟩
 ·have HB:Hid (stepM st=false):=by show _=_;unfold stepM;simpa using hc
  have HSS:Hid (stepS st=stopS 1 st):=by show _=_;unfold stepS;rw[HB.out];rfl
  have HT2:Hid (Calls Tryz.prog 78 #[.pointer (some ⟨M,7,none⟩),.int .i64 1] w λe w'=>e=.returned (.bool false)∧w'=w.drew):=HT.out.mono λe w' hr=>by
   rcases hr with⟨h1,-,-⟩|⟨-,h1,h2⟩
   ·omega
   ·exact⟨h1,h2⟩
  clear h HT;go_enter Tryz.func55,Tryz.ntmps55;go_wp2_with (first
   |(go_at_call 78;refine HT2.out.mono ?_;rintro e w1 ⟨rfl,rfl⟩)
   |(go_at_call 79;refine HS.out.mono ?_;intro e w2 hr;obtain⟨rfl,-⟩:=id hr;have HR:=hid hr;clear hr))
  go_ret;rw[HSS.out];exact HR.out.of (AG.of_below (Below.refl _ _).drew) (λb hb=>Or.inl hb) (ret_val (by rw[HB.out];rfl))
theorem room_any{lo:Nat}{w:World}{M Pb:Nat}{st:MSt}{B:List Nat}(n:Int)(hn:0<=n∧n<=1000000)(h:MM lo w M Pb st B)(hm:Mtr st):
 Calls Tryz.prog 125 #[.pointer (some ⟨M,0,none⟩),.int .i64 n] w λe w'=>MRes lo M Pb B w (roomS n st) (.bool (roomB n st)) e w':=by
 obtain⟨cs,ds,cv,sv,kv,dv,tv,h,rfl⟩:=h;have hsu:=hm.mu;have hsm:=hm.mm;have HT:=hid (take_any M 9 st.mu st.mm n w (h.m.at 9 rfl) (h.m.at 10 rfl) (h.m.fz 9) (by omega) (by omega) (by omega));have HS:=hid (stop_any 2 (⟨cs,ds,cv,sv,kv,dv,tv,h.drew,rfl⟩:MM lo w.drew M Pb st (mB M cv sv dv tv)));by_cases hc:n<=st.mm-st.mu
 ·have HB:Hid (roomB n st=true):=by show _=_;unfold roomB;simpa using hc
  have HR:Hid (MM lo (w.drew.setCell ⟨M,9,none⟩ (.int .i64 (st.mu+n))) M Pb (roomS n st) (mB M cv sv dv tv)):=by
   have h1:=h.drew.setM (i:=9) (u:=.int .i64 (st.mu+n)) (st':={st with mu:=st.mu+n}) (kv':=kv) rfl (by omega) rfl rfl rfl rfl h.drew.cd;unfold roomS;rw[if_pos HB.out];exact⟨cs,ds,cv,sv,kv,dv,tv,h1,rfl⟩
  have HT2:Hid (Calls Tryz.prog 78 #[.pointer (some ⟨M,9,none⟩),.int .i64 n] w λe w'=>e=.returned (.bool true)∧w'=w.drew.setCell ⟨M,9,none⟩ (.int .i64 (st.mu+n))):=HT.out.mono λe w' hr=>by
   rcases hr with⟨-,h1,h2⟩|⟨h1,-,-⟩
   ·exact⟨h1,h2⟩
   ·omega
  clear h HT HS;go_enter Tryz.func125,Tryz.ntmps125;go_wp2_with (first|(go_at_call 78;refine HT2.out.mono ?_;rintro e w1 ⟨rfl,rfl⟩))
  go_ret;refine⟨ret_val (by rw[HB.out];rfl),AG.set (AG.of_below (Below.refl _ _).drew) (Or.inl (List.mem_cons_self ..)) _,_,HR.out,λb hb=>Or.inl hb⟩
 ·have HB:Hid (roomB n st=false):=by show _=_;unfold roomB;simpa using hc
  have HSS:Hid (roomS n st=stopS 2 st):=by show _=_;unfold roomS;rw[HB.out];rfl
  have HT2:Hid (Calls Tryz.prog 78 #[.pointer (some ⟨M,9,none⟩),.int .i64 n] w λe w'=>e=.returned (.bool false)∧w'=w.drew):=HT.out.mono λe w' hr=>by
   rcases hr with⟨h1,-,-⟩|⟨-,h1,h2⟩
   ·omega
   ·exact⟨h1,h2⟩
  clear h HT;go_enter Tryz.func125,Tryz.ntmps125;go_wp2_with (first
   |(go_at_call 78;refine HT2.out.mono ?_;rintro e w1 ⟨rfl,rfl⟩)
   |(go_at_call 79;refine HS.out.mono ?_;intro e w2 hr;obtain⟨rfl,-⟩:=id hr;have HR:=hid hr;clear hr))
  go_ret;rw[HSS.out];exact HR.out.of (AG.of_below (Below.refl _ _).drew) (λb hb=>Or.inl hb) (ret_val (by rw[HB.out];rfl))
theorem owns_tk{w:World}{B:Nat}{e:TypeId}{size n c m:Nat}{p:Option Addr}{xs:List Value}(h:w.ownsRow B e size (.slice p n c) n xs)(hm:m<=n):w.ownsRow B e size (.slice p m c) m (xs.take (m*size)):=by
 have hms:m*size<=n*size:=Nat.mul_le_mul_right _ hm;refine⟨by rw[List.length_take,h.1];omega,?_⟩;rcases h.2 with⟨h1,h2⟩|⟨g,cap,cur,h1,h2,h3,h4,h5,h6,h7⟩
 ·left
  cases h1;exact⟨by rw[show m=0 by omega],by omega⟩
 ·right
  cases h1;refine⟨g,c,cur,rfl,h2,h3,by omega,h5,h6,?_⟩;rw[<-h7,List.take_take,Nat.min_eq_left hms]
theorem nd_swap{A S S' C:List Nat}{n:Nat}(h:(A++(S++C)).Nodup)(hS:S'.Nodup)(h2:∀b∈S',b∈S∨n<=b)(hn:∀b∈A++(S++C),b<n):(A++(S'++C)).Nodup:=by
 rw[List.nodup_append]at h ⊢;obtain⟨ha,hsc,hd⟩:=h;rw[List.nodup_append]at hsc ⊢;refine⟨ha,⟨hS,hsc.2.1,λa h1 b h3 e=>?_⟩,λa h1 b h3 e=>?_⟩
 ·subst e;rcases h2 a h1 with h|h
  ·exact hsc.2.2 a h a h3 rfl
  ·have:=hn a (List.mem_append_right _ (List.mem_append_right _ h3));omega
 ·subst e;rcases List.mem_append.1 h3 with h4|h4
  ·rcases h2 a h4 with h|h
   ·exact hd a h1 a (List.mem_append_left _ h) rfl
   ·have:=hn a (List.mem_append_left _ h1);omega
  ·exact hd a h1 a (List.mem_append_right _ h4) rfl
theorem vB_nd(v:Value):(vB v).Nodup:=by unfold vB;cases v.ownBlock<;>simp
section
variable {lo:Nat} {w w4:World} {M Pb:Nat} {st:MSt} {cs:List (MCl×Value)} {ds:List (MFr×Value)} {cv sv kv dv tv:Value}
theorem MMem.turnS(h:MMem lo w M Pb st cs ds cv sv kv dv tv)(hA:AG (vB sv) w w4){sv':Value}{s':List Int}(hown:w4.ownsRow lo 111 1 sv' s'.length (rfC s'))(hv:∀b∈vB sv',b∈vB sv∨w.heap.size<=b):
 MMem lo (w4.setCell ⟨M,2,none⟩ sv') M Pb {st with stack:=s'} cs ds cv sv' kv dv tv∧AG (mB M cv sv dv tv) w (w4.setCell ⟨M,2,none⟩ sv')∧∀b∈mB M cv sv' dv tv,b∈mB M cv sv dv tv∨w.heap.size<=b:=by
 have hrg:=h.rg;have hnd:((M::vB cv)++(vB sv++(vB dv++vB tv))).Nodup:=h.nd;have hnd':((M::vB cv)++(vB sv'++(vB dv++vB tv))).Nodup:=nd_swap hnd (vB_nd _) hv λb hb=>(hrg b hb).2;have hd:=List.nodup_append.1 hnd;have hd2:=List.nodup_append.1 hd.2.1;have hnS:∀b,b∈(M::vB cv)∨b∈vB dv++vB tv->b∉vB sv:=λb hb hm=>by
  rcases hb with hb|hb
  ·exact hd.2.2 b hb b (List.mem_append_left _ hm) rfl
  ·exact hd2.2.2 b hm b hb rfl
 have hM:∀b,b∈vB cv++(vB sv'++(vB dv++vB tv))->b≠M:=λb hb e=>(List.nodup_cons.1 hnd').1 (e▸hb);have hz:=hA.size;have hblk:∀b,b<w.heap.size->b∉vB sv->b≠M->(w4.setCell ⟨M,2,none⟩ sv').heap[b]?=w.heap[b]?:=λb h1 h2 h3=>by rw[Below.heap_setCell _ _ _ _ h3];exact hA.block b h1 h2
 have hfr:∀v,(∀b∈vB v,b∈vB cv∨b∈vB dv++vB tv)->Fr (vB v) w (w4.setCell ⟨M,2,none⟩ sv'):=λv hv b hb=>by
  rcases hv b hb with h1|h1
  ·exact hblk b (hrg b (List.mem_cons_of_mem _ (List.mem_append_left _ h1))).2 (hnS b (Or.inl (List.mem_cons_of_mem _ h1))) (hM b (List.mem_append_left _ h1))
  ·exact hblk b (hrg b (List.mem_cons_of_mem _ (List.mem_append_right _ (List.mem_append_right _ h1)))).2 (hnS b (Or.inr h1)) (hM b (List.mem_append_right _ (List.mem_append_right _ h1)))
 have hAG:AG (mB M cv sv dv tv) w (w4.setCell ⟨M,2,none⟩ sv'):=AG.set ⟨hA.os,hA.tape,hA.output,hA.size,λk hk hX=>hA.block k hk λhm=>hX (List.mem_cons_of_mem _ (List.mem_append_right _ (List.mem_append_left _ hm)))⟩ (Or.inl (List.mem_cons_self ..)) _;have hlow:Below lo w (w4.setCell ⟨M,2,none⟩ sv'):=hAG.low (λb hb=>(hrg b hb).1) h.lz;have hm4:FBL w4 M (mL Pb cv sv kv dv tv st):=h.m.of_block (hA.block M h.m.lt (hnS M (Or.inl (List.mem_cons_self ..)))) hz;have hnew:∀b∈mB M cv sv' dv tv,b∈mB M cv sv dv tv∨w.heap.size<=b:=λb hb=>by
  rcases List.mem_cons.1 hb with rfl|hb
  ·exact Or.inl (List.mem_cons_self ..)
  rcases List.mem_append.1 hb with hb|hb
  ·exact Or.inl (List.mem_cons_of_mem _ (List.mem_append_left _ hb))
  rcases List.mem_append.1 hb with hb|hb
  ·exact(hv b hb).imp (λh=>List.mem_cons_of_mem _ (List.mem_append_right _ (List.mem_append_left _ h))) id
  ·exact Or.inl (List.mem_cons_of_mem _ (List.mem_append_right _ (List.mem_append_right _ hb)))
 refine⟨⟨hm4.set (i:=2) (by simp[mL]) sv',row_fr h.cl (hfr cv λb hb=>Or.inl hb),λx hx=>(h.fl x hx).fr λb ⟨g1,g2⟩ hbl=>⟨⟨g1,λhm=>?_⟩,hblk b hbl (λhm=>g2 (List.mem_cons_of_mem _ (List.mem_append_right _ (List.mem_append_left _ hm)))) (λe=>g2 (e▸List.mem_cons_self ..))⟩,?_,row_fr h.dp (hfr dv λb hb=>Or.inr (List.mem_append_left _ hb)),λx hx=>(h.dc x hx).fr hlow,h.cd.fr hlow,row_fr h.tx (hfr tv λb hb=>Or.inr (List.mem_append_right _ hb)),h.hcs,h.hds,hnd',h.ml⟩,hAG,hnew⟩
 ·rcases hnew b hm with h1|h1
  ·exact g2 h1
  ·omega
 ·exact row_fr hown λb hb=>Below.heap_setCell _ _ _ _ (hM b (List.mem_append_right _ (List.mem_append_left _ hb)))
end
theorem Tryz.refJ:(Tryz.prog.info? 111).map (λi=>(i.zero,i.size,i.bytes))=some (some (.int .i32 0),1,4):=by kernel_rfl
theorem rfC_snoc(l:List Int)(x:Int):rfC (l++[x])=rfC l++[.int .i32 x]:=by simp[rfC]
theorem AG.append{v:Value}{w Z w2:World}(hb:Below w.heap.size w Z)(hg:Z.grownBy w2 v.ownBlock):AG (vB v) w w2:=(AG.of_below hb).grown hg λ_ e=>Or.inl (mem_vB.2 e)
def pushS(x:Int)(st:MSt):MSt:={st with stack:=st.stack++[x]}
theorem push_any{lo:Nat}{w:World}{M Pb:Nat}{st:MSt}{B:List Nat}(x:Int)(h:MM lo w M Pb st B)(hl:st.stack.length<=1000000000000):
 Calls Tryz.prog 100 #[.pointer (some ⟨M,0,none⟩),.int .i32 x] w λe w'=>MRes lo M Pb B w (pushS x st) (.tuple #[]) e w':=by
 obtain⟨ii,hii,hij⟩:=Option.map_eq_some_iff.1 Tryz.refJ;simp only[Prod.mk.injEq]at hij;obtain⟨hi0,hi1,hi2⟩:=hij;obtain⟨cs,ds,cv,sv,kv,dv,tv,h,rfl⟩:=h;obtain⟨sp,sc,rfl⟩:=row_slice h.sk;have e2:=h.m.at 2 rfl;have f2:=h.m.fz 2;have hMl:=h.m.lt;have HM:=hid h;have HOW:=hid h.sk;have HNX:Hid (∀Z w2 G c,Below w.heap.size w Z->Z.grownBy w2 (Value.slice sp st.stack.length sc).ownBlock->((Value.slice sp st.stack.length sc).ownBlock=some G∨G=Z.heap.size)->w2.ownsRow lo 111 1 (.slice (some ⟨G,0,none⟩) (st.stack.length+1) c) (st.stack.length+1) (rfC st.stack++[.int .i32 x])->(w2.cell? ⟨M,2,none⟩=some (.slice sp st.stack.length sc)∧w2.frozen? ⟨M,2,none⟩=false)∧AG (mB M cv (.slice sp st.stack.length sc) dv tv) w (w2.setCell ⟨M,2,none⟩ (.slice (some ⟨G,0,none⟩) (st.stack.length+1) c))∧∃B',MM lo (w2.setCell ⟨M,2,none⟩ (.slice (some ⟨G,0,none⟩) (st.stack.length+1) c)) M Pb (pushS x st) B'∧∀b∈B',b∈mB M cv (.slice sp st.stack.length sc) dv tv∨w.heap.size<=b):=by
  intro Z w2 G c hb hg hat hown;have hA:=AG.append hb hg;have hz:=hb.size;have hnM:M∉vB (.slice sp st.stack.length sc):=λhm=>(List.nodup_cons.1 h.nd).1 (List.mem_append_right _ (List.mem_append_left _ hm));have hbM:=hA.block M hMl hnM;obtain⟨t1,t2,t3⟩:=h.turnS hA (sv':=.slice (some ⟨G,0,none⟩) (st.stack.length+1) c) (s':=st.stack++[x]) (by rw[List.length_append,List.length_cons,List.length_nil,rfC_snoc];exact hown) (λb hb'=>by
   rw[vB_slice]at hb';obtain rfl:=List.mem_singleton.1 hb';rcases hat with e|e
   ·exact Or.inl (mem_vB.2 e)
   ·right;omega)
  exact⟨⟨cell_same hbM e2,by rw[World.frozen?_of_block (a:=⟨M,2,none⟩) hbM];exact f2⟩,t2,_,⟨cs,ds,cv,_,kv,dv,tv,t1,rfl⟩,t3⟩
 have e2a:=λo=>alloc_old w o _ _ _ e2;have hlz:=h.lz;clear h;go_enter Tryz.func100,Tryz.ntmps100;go_wp2_with (first
  |(at_builtin;refine wpList_append_lies _ rfl (.tmp 8) (.tmp 10) 113 rfl lo 111 ii _ 1 4 Tryz.underlying113 hii hi0 hi1 hi2 rfl (by omega) (.slice sp st.stack.length sc) st.stack.length (rfC st.stack) rfl (HOW.out.alloc _) ⟨w.heap.size,0,none⟩ 1 1 [.int .i32 x] rfl rfl (by have h:=World.news_of_block (heap_alloc_new w (Obj.cells #[.int .i32 x] 111));simpa using h) (by intro u hu;simp at hu;rcases hu with rfl;rfl) (by omega) (by unfold maxLen;omega) (by omega) (by simp;omega) _ rfl ?_;intro G1 c1 w7 hown hgrow hat hlt1;obtain⟨⟨k7,f7⟩,hag,hri⟩:=HNX.out _ _ _ _ ((Below.refl _ _).alloc (Nat.le_refl _) _) hgrow hat hown;have HAG:=hid hag;have HRI:=hid hri;clear hown hgrow hat hlt1 hag hri))
 refine bE ?_;exact⟨rfl,HAG.out,HRI.out⟩
theorem stack_slice{w:World}{lo n:Nat}{v:Value}{xs:List Value}{e:TypeId}(h:w.ownsRow lo e 1 v n xs)(hn:0<n):∃g c,v=.slice (some ⟨g,0,none⟩) n c∧n<=c∧(∀j,j<n->w.cell? ⟨g,j,none⟩=xs[j]?):=by
 rcases h.2 with⟨-,h2⟩|⟨g,cap,cur,hv,-,-,h4,-⟩
 ·omega
 ·subst hv;exact⟨g,cap,rfl,h4,λj hj=>h.cellAt j (by omega)⟩
theorem top_any{w:World}{M g n c:Nat}(k:Nat)(h:w.cell? ⟨M,2,none⟩=some (.slice (some ⟨g,0,none⟩) n c))(hk:k<n)(hn:n<=1000000000000):
 Calls Tryz.prog 99 #[.pointer (some ⟨M,0,none⟩),.int .i64 (k:Int)] w λe w'=>e=.returned (.pointer (some ⟨g,n-1-k,none⟩))∧w'=w.drew:=by
 have d2:w.drew.cell? ⟨M,2,none⟩=_:=h;have i0:(0:Int)<=(n:Int)-1-(k:Int):=by omega
 have i1:(n:Int)-1-(k:Int)<(n:Int):=by omega
 have i2:((n:Int)-1-(k:Int)).toNat=n-1-k:=by omega
 go_enter Tryz.func99,Tryz.ntmps99;go_wp2;go_region
 go_wp2;go_ret;refine⟨ret_val ?_,rfl⟩;simp
def dropS(n:Nat)(st:MSt):MSt:={st with stack:=st.stack.take (st.stack.length-n)}
theorem rfC_take(l:List Int)(m:Nat):(rfC l).take (m*1)=rfC (l.take m):=by simp[rfC]
theorem drop_any{lo:Nat}{w:World}{M Pb:Nat}{st:MSt}{B:List Nat}(n:Nat)(h:MM lo w M Pb st B)(hn:n<=st.stack.length)(hl:st.stack.length<=1000000000000):
 Calls Tryz.prog 106 #[.pointer (some ⟨M,0,none⟩),.int .i64 (n:Int)] w λe w'=>MRes lo M Pb B w (dropS n st) (.tuple #[]) e w':=by
 obtain⟨cs,ds,cv,sv,kv,dv,tv,h,rfl⟩:=h;obtain⟨sp,sc,rfl⟩:=row_slice h.sk;have hcap:st.stack.length<=sc:=by
  rcases h.sk.2 with⟨h1,h2⟩|⟨g,cap,cur,hv,-,-,h4,-⟩
  ·omega
  ·cases hv;exact h4
 have hnil:sp=none->st.stack.length=0∧sc=0:=λe=>by
  subst e;rcases h.sk.2 with⟨h1,h2⟩|⟨g,cap,cur,hv,-⟩
  ·simp at h1;exact⟨h2,h1.2⟩
  ·cases hv
 have HR:Hid (AG (mB M cv (.slice sp st.stack.length sc) dv tv) w (w.setCell ⟨M,2,none⟩ (.slice sp (st.stack.length-n) sc)).drew∧∃B',MM lo (w.setCell ⟨M,2,none⟩ (.slice sp (st.stack.length-n) sc)).drew M Pb (dropS n st) B'∧∀b∈B',b∈mB M cv (.slice sp st.stack.length sc) dv tv∨w.heap.size<=b):=by
  have hvb:vB (.slice sp (st.stack.length-n) sc)=vB (.slice sp st.stack.length sc):=by unfold vB;cases sp<;>rfl
  obtain⟨t1,t2,t3⟩:=h.turnS (w4:=w) (AG.refl _ _) (sv':=.slice sp (st.stack.length-n) sc) (s':=st.stack.take (st.stack.length-n)) (by
   rw[List.length_take,Nat.min_eq_left (by omega),<-rfC_take];exact owns_tk h.sk (by omega)) (λb hb=>Or.inl (hvb▸hb))
  exact⟨t2.then (Below.refl _ _).drew,_,⟨cs,ds,cv,_,kv,dv,tv,t1.drew,rfl⟩,t3⟩
 have e2:w.drew.cell? ⟨M,2,none⟩=_:=h.m.at 2 rfl;have f2:w.drew.frozen? ⟨M,2,none⟩=false:=h.m.fz 2;have i0:(0:Int)<=(st.stack.length:Int)-(n:Int):=by omega
 have i1:(st.stack.length:Int)-(n:Int)<=(sc:Int):=by omega
 have i2:((st.stack.length:Int)-(n:Int)).toNat=st.stack.length-n:=by omega
 clear h;cases sp with
 |none=>
  obtain⟨hz1,hz2⟩:=hnil rfl;obtain rfl:n=0:=by omega
  subst hz2;clear hnil;generalize st.stack.length=m at*;subst hz1;go_enter Tryz.func106,Tryz.ntmps106;go_wp2;go_region
  all_goals(try go_wp2)
  all_goals
   refine bE ?_;exact⟨rfl,HR.out⟩
 |some a=>
  go_enter Tryz.func106,Tryz.ntmps106;go_wp2;go_region
  all_goals(try go_wp2)
  all_goals
   refine bE ?_;exact⟨rfl,HR.out⟩
theorem pop_any{lo:Nat}{w:World}{M Pb:Nat}{st:MSt}{B:List Nat}{s:List Int}{x:Int}(h:MM lo w M Pb st B)(hs:st.stack=s++[x])(hl:st.stack.length<=1000000000000):
 Calls Tryz.prog 105 #[.pointer (some ⟨M,0,none⟩)] w λe w'=>MRes lo M Pb B w (dropS 1 st) (.int .i32 x) e w':=by
 have HD:=hid (drop_any 1 (h.keep (Below.refl _ _).drew) (by rw[hs];simp) hl);obtain⟨cs,ds,cv,sv,kv,dv,tv,h,rfl⟩:=h;obtain⟨g,c,rfl,-,hc⟩:=stack_slice h.sk (by rw[hs];simp);have hlen:st.stack.length=s.length+1:=by rw[hs];simp
 have HT:=hid (top_any 0 (h.m.at 2 rfl) (by omega) hl);have t0:w.drew.cell? ⟨g,st.stack.length-1-0,none⟩=some (.int .i32 x):=by
  show w.cell? _=_;rw[hc _ (by omega),hs];simp[rfC]
 have t1:w.drew.cell? ⟨g,st.stack.length-1,none⟩=some (.int .i32 x):=t0;clear h hc hs hlen;go_enter Tryz.func105,Tryz.ntmps105;go_wp2_with (first
  |(go_at_call 99;refine HT.out.mono ?_;rintro e w1 ⟨rfl,rfl⟩)
  |(go_at_call 106;refine HD.out.mono ?_;intro e w2 hr;obtain⟨rfl,-⟩:=id hr;have HR:=hid hr;clear hr))
 go_ret;exact HR.out.of (AG.of_below (Below.refl _ _).drew) (λb hb=>Or.inl hb) rfl
theorem under_any{lo:Nat}{w:World}{M Pb:Nat}{st:MSt}{B:List Nat}(h:MM lo w M Pb st B)(hl:st.stack.length<=1000000000000)(hb:0<=st.fr.base∧st.fr.base<=1000000000000):
 Calls Tryz.prog 102 #[.pointer (some ⟨M,0,none⟩)] w λe w'=>e=.returned (.int .i64 ((st.stack.length:Int)-1-st.fr.base))∧w'=w.drew:=by
 obtain⟨cs,ds,cv,sv,kv,dv,tv,h,rfl⟩:=h;obtain⟨sp,sc,rfl⟩:=row_slice h.sk;have e2:w.drew.cell? ⟨M,2,none⟩=_:=h.m.at 2 rfl;have e3:w.drew.cell? ⟨M,3,none⟩=_:=h.m.at 3 rfl;clear h;go_enter Tryz.func102,Tryz.ntmps102;go_wp2;go_region
 go_wp2;go_ret;exact⟨rfl,rfl⟩
section
variable {lo:Nat} {w w4:World} {M Pb:Nat} {st:MSt} {cs:List (MCl×Value)} {ds:List (MFr×Value)} {cv sv kv dv tv:Value}
theorem MMem.turnC(h:MMem lo w M Pb st cs ds cv sv kv dv tv)(hA:AG (vB cv) w w4){cv':Value}{cs':List (MCl×Value)}(hown:w4.ownsRow lo 154 5 cv' cs'.length (cs'.flatMap mcC))(hfl:∀x∈cs',FldX (λb=>lo<=b∧b∉mB M cv sv dv tv) w x.2 x.1.fields)(hv:∀b∈vB cv',b∈vB cv∨w.heap.size<=b):
 MMem lo (w4.setCell ⟨M,1,none⟩ cv') M Pb {st with cells:=cs'.map (·.1)} cs' ds cv' sv kv dv tv∧AG (mB M cv sv dv tv) w (w4.setCell ⟨M,1,none⟩ cv')∧∀b∈mB M cv' sv dv tv,b∈mB M cv sv dv tv∨w.heap.size<=b:=by
 have hrg:=h.rg;have hnd:([M]++(vB cv++(vB sv++(vB dv++vB tv)))).Nodup:=h.nd;have hnd':([M]++(vB cv'++(vB sv++(vB dv++vB tv)))).Nodup:=nd_swap hnd (vB_nd _) hv λb hb=>(hrg b hb).2;have hd:=List.nodup_append.1 hnd;have hd2:=List.nodup_append.1 hd.2.1;have hnC:∀b,b=M∨b∈vB sv++(vB dv++vB tv)->b∉vB cv:=λb hb hm=>by
  rcases hb with hb|hb
  ·exact hd.2.2 b (List.mem_singleton.2 hb) b (List.mem_append_left _ hm) rfl
  ·exact hd2.2.2 b hm b hb rfl
 have hM:∀b,b∈vB cv'++(vB sv++(vB dv++vB tv))->b≠M:=λb hb e=>(List.nodup_cons.1 hnd').1 (e▸hb);have hz:=hA.size;have hblk:∀b,b<w.heap.size->b∉vB cv->b≠M->(w4.setCell ⟨M,1,none⟩ cv').heap[b]?=w.heap[b]?:=λb h1 h2 h3=>by rw[Below.heap_setCell _ _ _ _ h3];exact hA.block b h1 h2
 have hfr:∀v,(∀b∈vB v,b∈vB sv++(vB dv++vB tv))->Fr (vB v) w (w4.setCell ⟨M,1,none⟩ cv'):=λv hv b hb=>hblk b (hrg b (List.mem_cons_of_mem _ (List.mem_append_right _ (hv b hb)))).2 (hnC b (Or.inr (hv b hb))) (hM b (List.mem_append_right _ (hv b hb)));have hAG:AG (mB M cv sv dv tv) w (w4.setCell ⟨M,1,none⟩ cv'):=AG.set ⟨hA.os,hA.tape,hA.output,hA.size,λk hk hX=>hA.block k hk λhm=>hX (List.mem_cons_of_mem _ (List.mem_append_left _ hm))⟩ (Or.inl (List.mem_cons_self ..)) _;have hlow:Below lo w (w4.setCell ⟨M,1,none⟩ cv'):=hAG.low (λb hb=>(hrg b hb).1) h.lz;have hm4:FBL w4 M (mL Pb cv sv kv dv tv st):=h.m.of_block (hA.block M h.m.lt (hnC M (Or.inl rfl))) hz;have hnew:∀b∈mB M cv' sv dv tv,b∈mB M cv sv dv tv∨w.heap.size<=b:=λb hb=>by
  rcases List.mem_cons.1 hb with rfl|hb
  ·exact Or.inl (List.mem_cons_self ..)
  rcases List.mem_append.1 hb with hb|hb
  ·exact(hv b hb).imp (λh=>List.mem_cons_of_mem _ (List.mem_append_left _ h)) id
  ·exact Or.inl (List.mem_cons_of_mem _ (List.mem_append_right _ hb))
 refine⟨⟨hm4.set (i:=1) (by simp[mL]) cv',?_,λx hx=>(hfl x hx).fr λb ⟨g1,g2⟩ hbl=>⟨⟨g1,λhm=>?_⟩,hblk b hbl (λhm=>g2 (List.mem_cons_of_mem _ (List.mem_append_left _ hm))) (λe=>g2 (e▸List.mem_cons_self ..))⟩,row_fr h.sk (hfr sv λb hb=>List.mem_append_left _ hb),row_fr h.dp (hfr dv λb hb=>List.mem_append_right _ (List.mem_append_left _ hb)),λx hx=>(h.dc x hx).fr hlow,h.cd.fr hlow,row_fr h.tx (hfr tv λb hb=>List.mem_append_right _ (List.mem_append_right _ hb)),rfl,h.hds,hnd',h.ml⟩,hAG,hnew⟩
 ·exact row_fr hown λb hb=>Below.heap_setCell _ _ _ _ (hM b (List.mem_append_left _ hb))
 ·rcases hnew b hm with h1|h1
  ·exact g2 h1
  ·omega
end
theorem Tryz.cellJ:(Tryz.prog.info? 154).map (λi=>(i.zero,i.size,i.bytes))=some (some (.agg #[.int .u8 0,.int .i64 0,.int .i32 0,.int .i32 0,.slice none 0 0]),5,48):=by kernel_rfl
def addS(x:MCl)(st:MSt):MSt:={st with stack:=st.stack++[(st.cells.length:Int)],cells:=st.cells++[x]}
theorem add_any2{lo:Nat}{w:World}{M Pb:Nat}{st:MSt}{B:List Nat}(x:MCl)(fv:Value)(hx:FldX (λb=>lo<=b∧b∉B) w fv x.fields)(hfs:∃p n c,fv=.slice p n c)(h:MM lo w M Pb st B)(hl:st.stack.length<=1000000000000)(hcl:st.cells.length<=1000000000):
 Calls Tryz.prog 126 #[.pointer (some ⟨M,0,none⟩),.agg #[.int .u8 x.kind,.int .i64 x.n,.int .i32 x.left,.int .i32 x.right,fv]] w λe w'=>MRes lo M Pb B w (addS x st) (.tuple #[]) e w':=by
 obtain⟨ii,hii,hij⟩:=Option.map_eq_some_iff.1 Tryz.cellJ;simp only[Prod.mk.injEq]at hij;obtain⟨hi0,hi1,hi2⟩:=hij;obtain⟨fp,fn,fc,rfl⟩:=hfs;have hbw:Below w.heap.size w (w.alloc (.cells #[.int .u8 x.kind,.int .i64 x.n,.int .i32 x.left,.int .i32 x.right,.slice fp fn fc] 154)):=(Below.refl _ _).alloc (Nat.le_refl _) _;have HP:=hid (push_any (st.cells.length:Int) (h.keep hbw) hl);have hBr:∀b∈B,b<w.heap.size:=by
  obtain⟨cs,ds,cv,sv,kv,dv,tv,h,rfl⟩:=h;exact λb hb=>(h.rg b hb).2
 have e1:∃cp cc,(w.alloc (.cells #[.int .u8 x.kind,.int .i64 x.n,.int .i32 x.left,.int .i32 x.right,.slice fp fn fc] 154)).cell? ⟨M,1,none⟩=some (.slice cp st.cells.length cc):=by
  obtain⟨cs,ds,cv,sv,kv,dv,tv,h,rfl⟩:=h;obtain⟨cp,cc,e⟩:=row_slice h.cl;have:cs.length=st.cells.length:=by rw[<-h.hcs,List.length_map]
  rw[this]at e;subst e;exact⟨cp,cc,cell_keep hbw (h.m.at 1 rfl)⟩
 obtain⟨cp0,cc0,e1⟩:=e1;have hw32:IntKind.i32.wrap (st.cells.length:Int)=(st.cells.length:Int):=by unfold IntKind.wrap;simp[IntKind.bits,IntKind.signed];omega
 have HX:=hid (hx.fr (Y:=λb=>(lo<=b∧b∉B)∧b<w.heap.size) (w':=w) λb h1 h2=>⟨⟨h1,h2⟩,rfl⟩);have HBW:=hid hbw;have HBR:=hid hBr;clear h hx hbw hBr;go_enter Tryz.func126,Tryz.ntmps126;go_upto_region 2 with(first
  |(go_at_call 100;refine HP.out.mono ?_;rintro e w1 ⟨rfl,hag,B1,⟨cs,ds,cv,sv,kv,dv,tv,hM1,rfl⟩,hB1⟩;have HAG:=hid hag;have HM1:=hid hM1;have HB1:=hid hB1;clear hag hM1 hB1))
 have hcl1:cs.length=st.cells.length:=by
  have:=congrArg List.length HM1.out.hcs;rw[List.length_map]at this;exact this
 obtain⟨cp,cc,ecv⟩:=row_slice HM1.out.cl;subst ecv;have g1:w1.cell? ⟨M,1,none⟩=some (.slice cp cs.length cc):=HM1.out.m.at 1 rfl;have g1a:=λo=>alloc_old w1 o _ _ _ g1;have hbx:w1.heap[w.heap.size]?=(w.alloc (.cells #[.int .u8 x.kind,.int .i64 x.n,.int .i32 x.left,.int .i32 x.right,.slice fp fn fc] 154)).heap[w.heap.size]?:=HAG.out.block _ (by simp) λhm=>by have:=HBR.out _ hm;omega
 have y0:=cell_same hbx (alloc_cell w _ _ 0 _ rfl);have y0a:=λo=>alloc_old w1 o _ _ _ y0;have y1:=cell_same hbx (alloc_cell w _ _ 1 _ rfl);have y1a:=λo=>alloc_old w1 o _ _ _ y1;have y2:=cell_same hbx (alloc_cell w _ _ 2 _ rfl);have y2a:=λo=>alloc_old w1 o _ _ _ y2;have y3:=cell_same hbx (alloc_cell w _ _ 3 _ rfl);have y3a:=λo=>alloc_old w1 o _ _ _ y3;have y4:=cell_same hbx (alloc_cell w _ _ 4 _ rfl);have y4a:=λo=>alloc_old w1 o _ _ _ y4;have hz1:=HAG.out.size;have hzw:(w.alloc (.cells #[.int .u8 x.kind,.int .i64 x.n,.int .i32 x.left,.int .i32 x.right,.slice fp fn fc] 154)).heap.size=w.heap.size+1:=by simp
 have HFX:Hid (FldX (λb=>lo<=b∧b∉mB M (.slice cp cs.length cc) sv dv tv) w1 (.slice fp fn fc) x.fields):=HX.out.fr λb ⟨⟨q1,q2⟩,q3⟩ _=>⟨⟨q1,λhm=>by
  rcases HB1.out b hm with h|h
  ·exact q2 h
  ·omega⟩,by rw[HAG.out.block b (by omega) q2];exact HBW.out.block b q3⟩
 have HNX:Hid (∀Z w2 G c,Below w1.heap.size w1 Z->Z.grownBy w2 (Value.slice cp cs.length cc).ownBlock->((Value.slice cp cs.length cc).ownBlock=some G∨G=Z.heap.size)->w2.ownsRow lo 154 5 (.slice (some ⟨G,0,none⟩) (cs.length+1) c) (cs.length+1) (cs.flatMap mcC++[.int .u8 x.kind,.int .i64 x.n,.int .i32 x.left,.int .i32 x.right,.slice fp fn fc])->(w2.cell? ⟨M,1,none⟩=some (.slice cp cs.length cc)∧w2.frozen? ⟨M,1,none⟩=false)∧MRes lo M Pb B w (addS x st) (.tuple #[]) (.returned (.tuple #[])) (w2.setCell ⟨M,1,none⟩ (.slice (some ⟨G,0,none⟩) (cs.length+1) c))):=by
  intro Z w2 G c hb hg hat hown;have hA:=AG.append hb hg;have hz:=hb.size;have hnM:M∉vB (.slice cp cs.length cc):=λhm=>(List.nodup_cons.1 HM1.out.nd).1 (List.mem_append_left _ hm);have hbM:=hA.block M HM1.out.m.lt hnM;obtain⟨t1,t2,t3⟩:=HM1.out.turnC hA (cv':=.slice (some ⟨G,0,none⟩) (cs.length+1) c) (cs':=cs++[(x,.slice fp fn fc)]) (by rw[List.length_append,List.length_cons,List.length_nil,List.flatMap_append];exact hown) (λy hy=>by
   rcases List.mem_append.1 hy with hy|hy
   ·exact HM1.out.fl y hy
   ·obtain rfl:=List.mem_singleton.1 hy;exact HFX.out) (λb hb'=>by
   rw[vB_slice]at hb';obtain rfl:=List.mem_singleton.1 hb';rcases hat with e|e
   ·exact Or.inl (mem_vB.2 e)
   ·right;omega)
  have est:{pushS (st.cells.length:Int) st with cells:=(cs++[(x,Value.slice fp fn fc)]).map (·.1)}=addS x st:=by
   unfold addS pushS;rw[List.map_append,HM1.out.hcs];rfl
  rw[est]at t1;refine⟨⟨cell_same hbM (HM1.out.m.at 1 rfl),by rw[World.frozen?_of_block (a:=⟨M,1,none⟩) hbM];exact HM1.out.m.fz 1⟩,rfl,((AG.of_below HBW.out).trans HAG.out λb hb=>Or.inl hb).trans t2 (λb hb=>(HB1.out b hb).imp id λh=>by omega),_,⟨_,ds,_,sv,kv,dv,tv,t1,rfl⟩,λb hb=>?_⟩;rcases t3 b hb with h|h
  ·exact(HB1.out b h).imp id λh=>by omega
  ·right;omega
 have HOW:=hid HM1.out.cl;have hlz:=HM1.out.lz;have hcb:cs.length<=1000000000:=by omega
 clear e1 hcl1 hbx;go_region_law
  (first
   |(refine step_append_lies _ rfl (.tmp 16) (.tmp 18) 112 rfl lo 154 ii _ 5 48 Tryz.underlying112 hii hi0 hi1 hi2 rfl (by omega) (.slice cp cs.length cc) cs.length (cs.flatMap mcC) (by simp[Act.eval];done) (HOW.out.alloc _) ⟨w1.heap.size,0,none⟩ 1 1 [.int .u8 x.kind,.int .i64 x.n,.int .i32 x.left,.int .i32 x.right,.slice fp fn fc] (by simp[Act.eval];done) rfl (by have h:=World.news_of_block (heap_alloc_new w1 (Obj.cells #[.int .u8 x.kind,.int .i64 x.n,.int .i32 x.left,.int .i32 x.right,.slice fp fn fc] 154));simpa using h) (by intro u hu;simp at hu;rcases hu with rfl|rfl|rfl|rfl|rfl<;>rfl) (by omega) (by unfold maxLen;omega) (by omega) (by simp;omega) _ rfl ?_;intro G1 c1 w7 hown hgrow hat hlt1;obtain⟨⟨k7,f7⟩,hri⟩:=HNX.out _ _ _ _ (by first|exact(Below.refl _ _).alloc (Nat.le_refl _) _|exact((Below.refl _ _).alloc (Nat.le_refl _) _).drew) hgrow hat hown;have HRI:=hid hri;clear hown hgrow hat hlt1 hri))
 all_goals(try go_wp2)
 all_goals
  refine bE ?_;exact HRI.out
def putS(x:MCl)(st:MSt):MSt:=if roomB 1 st then addS x (roomS 1 st) else roomS 1 st
theorem roomS_len(st:MSt):(roomS 1 st).stack=st.stack∧(roomS 1 st).cells=st.cells:=by unfold roomS;split<;>exact⟨rfl,rfl⟩
theorem put_any2{lo:Nat}{w:World}{M Pb:Nat}{st:MSt}{B:List Nat}(x:MCl)(fv:Value)(hx:FldX (λb=>lo<=b∧b∉B) w fv x.fields)(hfs:∃p n c,fv=.slice p n c)(h:MM lo w M Pb st B)(hm:Mtr st)(hl:st.stack.length<=1000000000000)(hcl:st.cells.length<=1000000000):
 Calls Tryz.prog 104 #[.pointer (some ⟨M,0,none⟩),.agg #[.int .u8 x.kind,.int .i64 x.n,.int .i32 x.left,.int .i32 x.right,fv]] w λe w'=>MRes lo M Pb B w (putS x st) (.tuple #[]) e w':=by
 obtain⟨fp,fn,fc,rfl⟩:=hfs;have hbw:Below w.heap.size w (w.alloc (.cells #[.int .u8 x.kind,.int .i64 x.n,.int .i32 x.left,.int .i32 x.right,.slice fp fn fc] 154)):=(Below.refl _ _).alloc (Nat.le_refl _) _;have HR:=hid (room_any 1 (by omega) (h.keep hbw) hm);have hBr:∀b∈B,b<w.heap.size:=by
  obtain⟨cs,ds,cv,sv,kv,dv,tv,h,rfl⟩:=h;exact λb hb=>(h.rg b hb).2
 have HADD:Hid (∀w1 B1,AG B (w.alloc (.cells #[.int .u8 x.kind,.int .i64 x.n,.int .i32 x.left,.int .i32 x.right,.slice fp fn fc] 154)) w1->MM lo w1 M Pb (roomS 1 st) B1->(∀b∈B1,b∈B∨(w.alloc (.cells #[.int .u8 x.kind,.int .i64 x.n,.int .i32 x.left,.int .i32 x.right,.slice fp fn fc] 154)).heap.size<=b)->(w1.cell? ⟨w.heap.size,0,none⟩=some (.int .u8 x.kind)∧w1.cell? ⟨w.heap.size,1,none⟩=some (.int .i64 x.n)∧w1.cell? ⟨w.heap.size,2,none⟩=some (.int .i32 x.left)∧w1.cell? ⟨w.heap.size,3,none⟩=some (.int .i32 x.right)∧w1.cell? ⟨w.heap.size,4,none⟩=some (.slice fp fn fc))∧Calls Tryz.prog 126 #[.pointer (some ⟨M,0,none⟩),.agg #[.int .u8 x.kind,.int .i64 x.n,.int .i32 x.left,.int .i32 x.right,.slice fp fn fc]] w1 λe w'=>MRes lo M Pb B w (addS x (roomS 1 st)) (.tuple #[]) e w'):=by
  intro w1 B1 hag hM hB1;have hz1:=hag.size;have hzw:(w.alloc (.cells #[.int .u8 x.kind,.int .i64 x.n,.int .i32 x.left,.int .i32 x.right,.slice fp fn fc] 154)).heap.size=w.heap.size+1:=by simp
  have hbx:=hag.block w.heap.size (by omega) λhm=>by have:=hBr _ hm;omega
  have hlen:=roomS_len st;refine⟨⟨cell_same hbx (alloc_cell w _ _ 0 _ rfl),cell_same hbx (alloc_cell w _ _ 1 _ rfl),cell_same hbx (alloc_cell w _ _ 2 _ rfl),cell_same hbx (alloc_cell w _ _ 3 _ rfl),cell_same hbx (alloc_cell w _ _ 4 _ rfl)⟩,?_⟩;refine(add_any2 x (.slice fp fn fc) (hx.fr λb ⟨q1,q2⟩ q3=>⟨⟨q1,λhm=>?_⟩,?_⟩) ⟨_,_,_,rfl⟩ hM (by rw[hlen.1];exact hl) (by rw[hlen.2];exact hcl)).mono λe w' hr=>?_
  ·rcases hB1 b hm with h|h
   ·exact q2 h
   ·omega
  ·rw[hag.block b (by omega) q2];exact hbw.block b q3
  ·have he:=hr.1;exact hr.of ((AG.of_below hbw).trans hag λb hb=>Or.inl hb) (λb hb=>(hB1 b hb).imp id λh=>by omega) he
 have HBW:=hid hbw;clear h hx hbw hBr;cases hrb:roomB 1 st with
 |true=>
  rw[hrb]at HR;have HPS:Hid (putS x st=addS x (roomS 1 st)):=by show _=_;unfold putS;rw[hrb];rfl
  clear hrb;go_enter Tryz.func104,Tryz.ntmps104;go_wp2_with (first
   |(go_at_call 125;refine HR.out.mono ?_;rintro e w1 ⟨rfl,hag,B1,hM1,hB1⟩;obtain⟨⟨y0,y1,y2,y3,y4⟩,hcall⟩:=HADD.out w1 B1 hag hM1 hB1;have HCL:=hid hcall;clear hag hM1 hB1 hcall)
   |(go_at_call 126;refine HCL.out.mono ?_;intro e w2 hr;obtain⟨rfl,-⟩:=id hr;have HRR:=hid hr;clear hr))
  refine bE ?_;rw[HPS.out];exact HRR.out
 |false=>
  rw[hrb]at HR;have HPS:Hid (putS x st=roomS 1 st):=by show _=_;unfold putS;rw[hrb];rfl
  clear hrb HADD;go_enter Tryz.func104,Tryz.ntmps104;go_wp2_with (first
   |(go_at_call 125;refine HR.out.mono ?_;intro e w1 hr;obtain⟨rfl,-⟩:=id hr;have HRR:=hid hr;clear hr))
  refine bE ?_;rw[HPS.out];exact HRR.out.of (AG.of_below HBW.out) (λb hb=>Or.inl hb) rfl
def giveS(x:Int)(st:MSt):MSt:=
 let s:=st.stack.take st.fr.base.toNat++[x]
 match st.dump.getLast? with
 |none=>{st with stack:=s,state:=1}
 |some f=>{st with stack:=s,fr:=f,dump:=st.dump.dropLast}
theorem Tryz.frameJ:(Tryz.prog.info? 116).map (λi=>(i.zero,i.size,i.bytes))=some (some (.agg #[.int .i64 0,.slice none 0 0,.int .i64 0]),3,40):=by kernel_rfl
theorem give0_any{lo:Nat}{w:World}{M Pb:Nat}{st:MSt}{B:List Nat}(x:Int)(bn:Nat)(h:MM lo w M Pb st B)(hd:st.dump=[])(hb:st.fr.base=(bn:Int))(hbn:bn<=st.stack.length)(hl:st.stack.length<=1000000000000):
 Calls Tryz.prog 103 #[.pointer (some ⟨M,0,none⟩),.int .i32 x] w λe w'=>MRes lo M Pb B w (giveS x st) (.tuple #[]) e w':=by
 obtain⟨ii,hii,hij⟩:=Option.map_eq_some_iff.1 Tryz.refJ;simp only[Prod.mk.injEq]at hij;obtain⟨hi0,hi1,hi2⟩:=hij;obtain⟨cs,ds,cv,sv,kv,dv,tv,h,rfl⟩:=h;obtain⟨sp,sc,rfl⟩:=row_slice h.sk;have hds:ds=[]:=by
  have:=h.hds;rw[hd]at this;exact List.map_eq_nil_iff.1 this
 subst hds;obtain⟨dp,dc,rfl⟩:=row_slice h.dp;have hcap:st.stack.length<=sc:=by
  rcases h.sk.2 with⟨h1,h2⟩|⟨g,cap,cur,hv,-,-,h4,-⟩
  ·omega
  ·cases hv;exact h4
 have hnil:sp=none->st.stack.length=0∧sc=0:=λe=>by
  subst e;rcases h.sk.2 with⟨h1,h2⟩|⟨g,cap,cur,hv,-⟩
  ·simp at h1;exact⟨h2,h1.2⟩
  ·cases hv
 have e2:=h.m.at 2 rfl;have e3:=h.m.at 3 rfl;have e6:=h.m.at 6 rfl;have e11:=h.m.at 11 rfl;have f2:=h.m.fz 2;have hMl:=h.m.lt;rw[hb]at e3;have hgs:giveS x st={st with stack:=st.stack.take bn++[x],state:=1}:=by
  unfold giveS;rw[hd,hb];simp
 have HOW:Hid (w.ownsRow lo 111 1 (.slice sp bn sc) bn (rfC (st.stack.take bn))):=by
  have:=owns_tk h.sk hbn;rw[rfC_take]at this;exact this
 have hvb:vB (.slice sp bn sc)=vB (.slice sp st.stack.length sc):=by unfold vB;cases sp<;>rfl
 have hob:(Value.slice sp bn sc).ownBlock=(Value.slice sp st.stack.length sc).ownBlock:=by cases sp<;>rfl
 have HNX:Hid (∀Z w2 G c,Below w.heap.size w Z->Z.grownBy w2 (Value.slice sp bn sc).ownBlock->((Value.slice sp bn sc).ownBlock=some G∨G=Z.heap.size)->w2.ownsRow lo 111 1 (.slice (some ⟨G,0,none⟩) (bn+1) c) (bn+1) (rfC (st.stack.take bn)++[.int .i32 x])->(w2.cell? ⟨M,2,none⟩=some (.slice sp st.stack.length sc)∧w2.frozen? ⟨M,2,none⟩=false)∧Hid (FBL (w2.setCell ⟨M,2,none⟩ (.slice (some ⟨G,0,none⟩) (bn+1) c)) M (mL Pb cv (.slice (some ⟨G,0,none⟩) (bn+1) c) kv (.slice dp ([]:List (MFr×Value)).length dc) tv {st with stack:=st.stack.take bn++[x]}))∧MRes lo M Pb (mB M cv (.slice sp st.stack.length sc) (.slice dp ([]:List (MFr×Value)).length dc) tv) w (giveS x st) (.tuple #[]) (.returned (.tuple #[])) ((w2.setCell ⟨M,2,none⟩ (.slice (some ⟨G,0,none⟩) (bn+1) c)).setCell ⟨M,11,none⟩ (.int .i64 1))):=by
  intro Z w2 G c hbz hg hat hown;have hA:AG (vB (.slice sp st.stack.length sc)) w w2:=by
   have:=AG.append hbz hg;rw[hvb]at this;exact this
  have hz:=hbz.size;have hnM:M∉vB (.slice sp st.stack.length sc):=λhm=>(List.nodup_cons.1 h.nd).1 (List.mem_append_right _ (List.mem_append_left _ hm));have hbM:=hA.block M hMl hnM;have hlt:(st.stack.take bn++[x]).length=bn+1:=by simp[hbn]
  obtain⟨t1,t2,t3⟩:=h.turnS hA (sv':=.slice (some ⟨G,0,none⟩) (bn+1) c) (s':=st.stack.take bn++[x]) (by rw[hlt,rfC_snoc];exact hown) (λb hb'=>by
   rw[vB_slice]at hb';obtain rfl:=List.mem_singleton.1 hb';rcases hat with e|e
   ·exact Or.inl (mem_vB.2 (hob▸e))
   ·right;omega)
  have t4:=t1.setM (i:=11) (u:=.int .i64 1) (st':={st with stack:=st.stack.take bn++[x],state:=1}) (kv':=kv) rfl (by omega) rfl rfl rfl rfl t1.cd;refine⟨⟨cell_same hbM e2,by rw[World.frozen?_of_block (a:=⟨M,2,none⟩) hbM];exact f2⟩,t1.m,rfl,t2.set (Or.inl (List.mem_cons_self ..)) _,_,⟨cs,[],cv,_,kv,_,tv,by rw[hgs];exact t4,rfl⟩,t3⟩
 have e2a:=λo=>alloc_old w o _ _ _ e2;have e3a:=λo=>alloc_old w o _ _ _ e3;have hlz:=h.lz;have i0:(0:Int)<=(bn:Int):=by omega
 have i1:(bn:Int)<=(sc:Int):=by omega
 clear h hgs e11 e6;cases sp with
 |none=>
  obtain⟨hz1,hz2⟩:=hnil rfl;obtain rfl:bn=0:=by omega
  subst hz2;clear hnil;generalize st.stack.length=m at*;subst hz1;go_enter Tryz.func103,Tryz.ntmps103;go_upto_region 0 with fail
  go_region_law
   (first
    |(refine step_append_lies _ rfl (.tmp 15) (.tmp 17) 113 rfl lo 111 ii _ 1 4 Tryz.underlying113 hii hi0 hi1 hi2 rfl (by omega) (.slice none 0 0) 0 (rfC (st.stack.take 0)) (by first|(simp[Act.eval];done)|(simp[Act.eval,Act.put];done)) (HOW.out.alloc _) ⟨w.heap.size,0,none⟩ 1 1 [.int .i32 x] (by first|(simp[Act.eval];done)|(simp[Act.eval,Act.put];done)) rfl (by have h:=World.news_of_block (heap_alloc_new w (Obj.cells #[.int .i32 x] 111));simpa using h) (by intro u hu;simp at hu;rcases hu with rfl;rfl) (by omega) (by unfold maxLen;omega) (by omega) (by simp;omega) _ rfl ?_;intro G1 c1 w7 hown hgrow hat hlt1;obtain⟨⟨k7,f7⟩,hfb,hri⟩:=HNX.out _ _ _ _ (by first|exact(Below.refl _ _).alloc (Nat.le_refl _) _|exact((Below.refl _ _).alloc (Nat.le_refl _) _).drew) hgrow hat hown;have k6:=hfb.out.at 6 rfl;have k11:=hfb.out.at 11 rfl;have f11:=hfb.out.fz 11;have HRI:=hid hri;clear hown hgrow hat hlt1 hri hfb))
  all_goals(try go_wp2)
  all_goals
   refine bE ?_;exact HRI.out
 |some a=>
  clear hnil;go_enter Tryz.func103,Tryz.ntmps103;go_upto_region 0 with fail
  go_region_law
   (first
    |(refine step_append_lies _ rfl (.tmp 15) (.tmp 17) 113 rfl lo 111 ii _ 1 4 Tryz.underlying113 hii hi0 hi1 hi2 rfl (by omega) (.slice (some a) bn sc) bn (rfC (st.stack.take bn)) (by first|(simp[Act.eval];done)|(simp[Act.eval,Act.put];done)) (HOW.out.alloc _) ⟨w.heap.size,0,none⟩ 1 1 [.int .i32 x] (by first|(simp[Act.eval];done)|(simp[Act.eval,Act.put];done)) rfl (by have h:=World.news_of_block (heap_alloc_new w (Obj.cells #[.int .i32 x] 111));simpa using h) (by intro u hu;simp at hu;rcases hu with rfl;rfl) (by omega) (by unfold maxLen;omega) (by omega) (by simp;omega) _ rfl ?_;intro G1 c1 w7 hown hgrow hat hlt1;obtain⟨⟨k7,f7⟩,hfb,hri⟩:=HNX.out _ _ _ _ (by first|exact(Below.refl _ _).alloc (Nat.le_refl _) _|exact((Below.refl _ _).alloc (Nat.le_refl _) _).drew) hgrow hat hown;have k6:=hfb.out.at 6 rfl;have k11:=hfb.out.at 11 rfl;have f11:=hfb.out.fz 11;have HRI:=hid hri;clear hown hgrow hat hlt1 hri hfb))
  all_goals(try go_wp2)
  all_goals
   refine bE ?_;exact HRI.out
end Go.Proofs.YtahmgjjgikgpoaaGreatDoor
namespace Go.Proofs.YtahmgjjgikgpoaaGreatDoor
open Go.RowKit Go.Sort Go.Lib
theorem app_str{P:Program}(w:World)(base:Nat)(t u ty e:TypeId)(i:TypeInfo)(ht:P.underlying t=some (.slice e))(hu:P.underlying u=some .string)(hi:P.info? e=some i)(hz:i.zero=some (.int .u8 0))(hsize:i.size=1)(hby:i.bytes=1)
 (v:Value) (n:Nat) (xs:List Value) (hown:w.ownsRow base e 1 v n xs) (s:ByteArray) (h63:n+s.size<=maxLen) (hbytes:n+s.size<=140737488355328) (hbase:base<=w.heap.size):
 ∃v' w',(Builtin.append_ #[t,u] ty #[v,.string s]).run P w=.ok v' w'∧w'.ownsRow base e 1 v' (n+s.size) (xs++strCells s)∧w.grownBy w' v.ownBlock∧∀b,v'.ownBlock=some b->v.ownBlock=some b∨w.heap.size<=b:=by
 obtain⟨v',w',hr,h2,h3,-⟩:=run_append_own_string (P:=P) w base t u ty e i ht hu hi hz hsize hby v n xs hown s h63 hbytes hbase;refine⟨v',w',hr,h2,h3,λb hb=>?_⟩;rcases hown.2 with⟨rfl,rfl⟩|⟨g,cap,cur,rfl,hbg,hg,hnc,hcm,hcs,htake⟩
 ·have hown2:w.ownsRow w.heap.size e 1 (.slice none 0 0) 0 xs:=⟨hown.1,.inl ⟨rfl,rfl⟩⟩;obtain⟨v2,w2,hr2,h4,-,-⟩:=run_append_own_string (P:=P) w w.heap.size t u ty e i ht hu hi hz hsize hby _ 0 xs hown2 s h63 hbytes (Nat.le_refl _);rw[hr]at hr2;cases hr2;exact Or.inr (row_low h4 hb)
 ·by_cases hroom:n+s.size<=cap
  ·have hr2:=run_append_room_string (P:=P) w t u ty e i ht hu hi hsize g n cap cur hg s hroom (by simp at hcs;omega);rw[hr]at hr2;cases hr2;exact Or.inl hb
  ·have hxl:xs.length=n:=by simpa using hown.1
   have holds:∀j u,xs[j]?=some u->w.cell? ((⟨g,0,none⟩:Addr).add j)=some u:=hown.cells (g:=g) rfl;have hr2:=run_append_grow_string (P:=P) w t u ty e i (.int .u8 0) ht hu hi hz ⟨g,0,none⟩ n cap xs (by rw[hsize];simpa using hxl) holds s (by omega) (by simp only[maxLen]at h63;omega) (by rw[hby];exact growslice_fits (by omega) (by omega));rw[hr]at hr2;cases hr2;cases hb;exact Or.inr (Nat.le_refl _)
theorem wpApp_str{P:Program}{w:World}{ops:Array Oper}{rest:List Oper}{o:Oper}{a:Act}{Q:Exit->Act->World->Prop}(hgd:o.guard=none)(sl x:Operand)(t u:TypeId)
 (ho:o.op=.call {callee:=.builtin .append,args:=#[sl,x],argTypes:=#[t,u]})
 (base:Nat) (e:TypeId) (i:TypeInfo) (ht:P.underlying t=some (.slice e)) (hu:P.underlying u=some .string) (hi:P.info? e=some i) (hz:i.zero=some (.int .u8 0)) (hsize:i.size=1) (hby:i.bytes=1)
 (v:Value) (n:Nat) (xs:List Value) (hs:a.eval sl=v) (hown:w.ownsRow base e 1 v n xs) (s:ByteArray) (hx:a.eval x=.string s) (h63:n+s.size<=maxLen) (hbytes:n+s.size<=140737488355328) (hbase:base<=w.heap.size)
 (h:∀v' w',w'.ownsRow base e 1 v' (n+s.size) (xs++strCells s)->w.grownBy w' v.ownBlock->(∀b,v'.ownBlock=some b->v.ownBlock=some b∨w.heap.size<=b)->wpList P ops Q rest (a.put o.dst v') w'):wpList P ops Q (o::rest) a w:=by
 refine wpList_plain hgd λK hK=>?_;obtain⟨v',w',hr,h2,h3,h4⟩:=app_str (P:=P) w base t u o.type e i ht hu hi hz hsize hby v n xs hown s h63 hbytes hbase;unfold Oper.wp execOp;simp only[ho,resolve,invoke,builtin,Sem.run_bind,Sem.run_pure,Result.andThen_ok,List.map_toArray,List.map_cons,List.map_nil,hs,hx,hr];exact hK _ _ (h v' w' h2 h3 h4)
section
variable {lo:Nat} {w w4:World} {M Pb:Nat} {st:MSt} {cs:List (MCl×Value)} {ds:List (MFr×Value)} {cv sv kv dv tv:Value}
theorem MMem.turnT(h:MMem lo w M Pb st cs ds cv sv kv dv tv)(hA:AG (vB tv) w w4){tv':Value}{t':List UInt8}(hown:w4.ownsRow lo 5 1 tv' t'.length (btC t'))(hv:∀b∈vB tv',b∈vB tv∨w.heap.size<=b):
 MMem lo (w4.setCell ⟨M,13,none⟩ tv') M Pb {st with text:=t'} cs ds cv sv kv dv tv'∧AG (mB M cv sv dv tv) w (w4.setCell ⟨M,13,none⟩ tv')∧∀b∈mB M cv sv dv tv',b∈mB M cv sv dv tv∨w.heap.size<=b:=by
 have hrg:=h.rg;have eB:∀v,mB M cv sv dv v=(M::(vB cv++(vB sv++vB dv)))++(vB v++[]):=λv=>by simp[mB]
 have hnd:((M::(vB cv++(vB sv++vB dv)))++(vB tv++[])).Nodup:=by rw[<-eB];exact h.nd
 have hnd':((M::(vB cv++(vB sv++vB dv)))++(vB tv'++[])).Nodup:=nd_swap hnd (vB_nd _) hv λb hb=>(hrg b (by rw[eB];exact hb)).2;have hd:=List.nodup_append.1 hnd;have hnT:∀b,b∈(M::(vB cv++(vB sv++vB dv)))->b∉vB tv:=λb hb hm=>hd.2.2 b hb b (List.mem_append_left _ hm) rfl;have hMn:∀b,b∈vB cv++(vB sv++vB dv)∨b∈vB tv'->b≠M:=λb hb e=>by
  rw[List.cons_append]at hnd';refine(List.nodup_cons.1 hnd').1 (e▸?_);rcases hb with h|h
  ·exact List.mem_append_left _ h
  ·exact List.mem_append_right _ (List.mem_append_left _ h)
 have hz:=hA.size;have hblk:∀b,b<w.heap.size->b∉vB tv->b≠M->(w4.setCell ⟨M,13,none⟩ tv').heap[b]?=w.heap[b]?:=λb h1 h2 h3=>by rw[Below.heap_setCell _ _ _ _ h3];exact hA.block b h1 h2
 have hin:∀b,b∈vB cv++(vB sv++vB dv)->b∈mB M cv sv dv tv:=λb hb=>by rw[eB];exact List.mem_append_left _ (List.mem_cons_of_mem _ hb)
 have hfr:∀v,(∀b∈vB v,b∈vB cv++(vB sv++vB dv))->Fr (vB v) w (w4.setCell ⟨M,13,none⟩ tv'):=λv hv b hb=>hblk b (hrg b (hin b (hv b hb))).2 (hnT b (List.mem_cons_of_mem _ (hv b hb))) (hMn b (Or.inl (hv b hb)));have hTin:∀b,b∈vB tv->b∈mB M cv sv dv tv:=λb hb=>by rw[eB];exact List.mem_append_right _ (List.mem_append_left _ hb)
 have hAG:AG (mB M cv sv dv tv) w (w4.setCell ⟨M,13,none⟩ tv'):=AG.set ⟨hA.os,hA.tape,hA.output,hA.size,λk hk hX=>hA.block k hk λhm=>hX (hTin k hm)⟩ (Or.inl (List.mem_cons_self ..)) _;have hlow:Below lo w (w4.setCell ⟨M,13,none⟩ tv'):=hAG.low (λb hb=>(hrg b hb).1) h.lz;have hm4:FBL w4 M (mL Pb cv sv kv dv tv st):=h.m.of_block (hA.block M h.m.lt (hnT M (List.mem_cons_self ..))) hz;have hnew:∀b∈mB M cv sv dv tv',b∈mB M cv sv dv tv∨w.heap.size<=b:=λb hb=>by
  rw[eB]at hb;rcases List.mem_append.1 hb with hb|hb
  ·exact Or.inl (by rw[eB];exact List.mem_append_left _ hb)
  ·rw[List.append_nil]at hb;exact(hv b hb).imp (hTin b) id
 refine⟨⟨hm4.set (i:=13) (by simp[mL]) tv',row_fr h.cl (hfr cv λb hb=>List.mem_append_left _ hb),λx hx=>(h.fl x hx).fr λb ⟨g1,g2⟩ hbl=>⟨⟨g1,λhm=>?_⟩,hblk b hbl (λhm=>g2 (hTin b hm)) (λe=>g2 (e▸List.mem_cons_self ..))⟩,row_fr h.sk (hfr sv λb hb=>List.mem_append_right _ (List.mem_append_left _ hb)),row_fr h.dp (hfr dv λb hb=>List.mem_append_right _ (List.mem_append_right _ hb)),λx hx=>(h.dc x hx).fr hlow,h.cd.fr hlow,?_,h.hcs,h.hds,by rw[eB];exact hnd',h.ml⟩,hAG,hnew⟩
 ·rcases hnew b hm with h1|h1
  ·exact g2 h1
  ·omega
 ·exact row_fr hown λb hb=>Below.heap_setCell _ _ _ _ (hMn b (Or.inr hb))
end
theorem Tryz.byteJ:(Tryz.prog.info? 5).map (λi=>(i.zero,i.size,i.bytes))=some (some (.int .u8 0),1,1):=by kernel_rfl
def sayB(s:ByteArray)(st:MSt):Bool:=decide (st.text.length+s.size<=2000)
def sayS(s:ByteArray)(st:MSt):MSt:=if sayB s st then {st with text:=st.text++s.data.toList} else stopS 8 st
theorem btC_app(l m:List UInt8):btC (l++m)=btC l++btC m:=by simp[btC]
theorem say_any{lo:Nat}{w:World}{M Pb:Nat}{st:MSt}{B:List Nat}(s:ByteArray)(h:MM lo w M Pb st B)(hs:s.size<=1000000)(htl:st.text.length<=2000):
 Calls Tryz.prog 56 #[.pointer (some ⟨M,0,none⟩),.string s] w λe w'=>MRes lo M Pb B w (sayS s st) (.bool (sayB s st)) e w':=by
 obtain⟨ii,hii,hij⟩:=Option.map_eq_some_iff.1 Tryz.byteJ;simp only[Prod.mk.injEq]at hij;obtain⟨hi0,hi1,hi2⟩:=hij;have HS:=hid (stop_any 8 h);obtain⟨cs,ds,cv,sv,kv,dv,tv,h,rfl⟩:=h;obtain⟨tp,tc,rfl⟩:=row_slice h.tx;have e13:=h.m.at 13 rfl;by_cases hc:st.text.length+s.size<=2000
 ·have HB:Hid (sayB s st=true):=by show _=_;unfold sayB;simpa using hc
  have HSS:Hid (sayS s st={st with text:=st.text++s.data.toList}):=by show _=_;unfold sayS;rw[HB.out];rfl
  have i0:¬(2000:Int)<(st.text.length:Int)+(s.size:Int):=by omega
  have HNX:Hid (∀w2 v',w2.ownsRow lo 5 1 v' (st.text.length+s.size) (btC st.text++strCells s)->w.grownBy w2 (Value.slice tp st.text.length tc).ownBlock->(∀b,v'.ownBlock=some b->(Value.slice tp st.text.length tc).ownBlock=some b∨w.heap.size<=b)->(w2.cell? ⟨M,13,none⟩=some (.slice tp st.text.length tc)∧w2.frozen? ⟨M,13,none⟩=false)∧(∃p n c,v'=.slice p n c)∧MRes lo M Pb (mB M cv sv dv (.slice tp st.text.length tc)) w (sayS s st) (.bool true) (.returned (.bool true)) (w2.setCell ⟨M,13,none⟩ v')):=by
   intro w2 v' hown hg hat;have hA:=AG.append (v:=.slice tp st.text.length tc) (Below.refl _ w) hg;have hnM:M∉vB (.slice tp st.text.length tc):=λhm=>(List.nodup_cons.1 h.nd).1 (List.mem_append_right _ (List.mem_append_right _ (List.mem_append_right _ hm)));have hbM:=hA.block M h.m.lt hnM;obtain⟨t1,t2,t3⟩:=h.turnT hA (tv':=v') (t':=st.text++s.data.toList) (by
    rw[List.length_append,btC_app];have e1:s.data.toList.length=s.size:=by simp
    rw[e1];exact hown) (λb hb=>(hat b (mem_vB.1 hb)).imp (λe=>mem_vB.2 e) id)
   obtain⟨p2,c2,e2⟩:=row_slice hown;exact⟨⟨cell_same hbM e13,by rw[World.frozen?_of_block (a:=⟨M,13,none⟩) hbM];exact h.m.fz 13⟩,⟨_,_,_,e2⟩,rfl,t2,_,⟨cs,ds,cv,sv,kv,dv,_,by rw[HSS.out];exact t1,rfl⟩,t3⟩
  have HOW:=hid h.tx;have hlz:=h.lz;clear h HS;go_enter Tryz.func56,Tryz.ntmps56;go_wp2_with (first
   |(at_builtin;refine wpApp_str rfl (.tmp 20) (.tmp 21) 121 9 rfl lo 5 ii Tryz.underlying121 Tryz.underlying9 hii hi0 hi1 hi2 (.slice tp st.text.length tc) st.text.length (btC st.text) rfl HOW.out s rfl (by unfold maxLen;omega) (by omega) hlz ?_;intro v' w7 hown hgrow hat;obtain⟨⟨k7,f7⟩,⟨p2,n2,c2,rfl⟩,hri⟩:=HNX.out _ _ hown hgrow hat;have HRI:=hid hri;clear hown hgrow hat hri))
  go_ret;rw[HB.out];exact HRI.out
 ·have HB:Hid (sayB s st=false):=by show _=_;unfold sayB;simpa using hc
  have HSS:Hid (sayS s st=stopS 8 st):=by show _=_;unfold sayS;rw[HB.out];rfl
  have i0:(2000:Int)<(st.text.length:Int)+(s.size:Int):=by omega
  clear h;go_enter Tryz.func56,Tryz.ntmps56;go_wp2_with (first
   |(go_at_call 79;refine HS.out.mono ?_;intro e w2 hr;obtain⟨rfl,-⟩:=id hr;have HR:=hid hr;clear hr))
  go_ret;rw[HSS.out,HB.out];exact HR.out.of (AG.refl _ _) (λb hb=>Or.inl hb) rfl
end Go.Proofs.YtahmgjjgikgpoaaGreatDoor
namespace Go.Proofs.YtahmgjjgikgpoaaGreatDoor
open Go.RowKit Go.Sort
section
variable {lo:Nat} {w w4:World} {M Pb:Nat} {st:MSt} {cs:List (MCl×Value)} {ds:List (MFr×Value)} {cv sv kv dv tv:Value}
theorem MMem.rowS(h:MMem lo w M Pb st cs ds cv sv kv dv tv)(hA:AG (vB sv) w w4){s':List Int}(hown:w4.ownsRow lo 111 1 sv s'.length (rfC s')):MMem lo w4 M Pb {st with stack:=s'} cs ds cv sv kv dv tv∧AG (mB M cv sv dv tv) w w4:=by
 have hrg:=h.rg;have hnd:((M::vB cv)++(vB sv++(vB dv++vB tv))).Nodup:=h.nd;have hd:=List.nodup_append.1 hnd;have hd2:=List.nodup_append.1 hd.2.1;have hnS:∀b,b∈(M::vB cv)∨b∈vB dv++vB tv->b∉vB sv:=λb hb hm=>by
  rcases hb with hb|hb
  ·exact hd.2.2 b hb b (List.mem_append_left _ hm) rfl
  ·exact hd2.2.2 b hm b hb rfl
 have hAG:AG (mB M cv sv dv tv) w w4:=⟨hA.os,hA.tape,hA.output,hA.size,λk hk hX=>hA.block k hk λhm=>hX (List.mem_cons_of_mem _ (List.mem_append_right _ (List.mem_append_left _ hm)))⟩;have hlow:Below lo w w4:=hAG.low (λb hb=>(hrg b hb).1) h.lz;have hfr:∀v,(∀b∈vB v,b∈vB cv∨b∈vB dv++vB tv)->Fr (vB v) w w4:=λv hv b hb=>by
  rcases hv b hb with h1|h1
  ·exact hA.block b (hrg b (List.mem_cons_of_mem _ (List.mem_append_left _ h1))).2 (hnS b (Or.inl (List.mem_cons_of_mem _ h1)))
  ·exact hA.block b (hrg b (List.mem_cons_of_mem _ (List.mem_append_right _ (List.mem_append_right _ h1)))).2 (hnS b (Or.inr h1))
 exact⟨⟨h.m.of_block (hA.block M h.m.lt (hnS M (Or.inl (List.mem_cons_self ..)))) hA.size,row_fr h.cl (hfr cv λb hb=>Or.inl hb),λx hx=>(h.fl x hx).fr λb ⟨g1,g2⟩ hbl=>⟨⟨g1,g2⟩,hA.block b hbl λhm=>g2 (List.mem_cons_of_mem _ (List.mem_append_right _ (List.mem_append_left _ hm)))⟩,hown,row_fr h.dp (hfr dv λb hb=>Or.inr (List.mem_append_left _ hb)),λx hx=>(h.dc x hx).fr hlow,h.cd.fr hlow,row_fr h.tx (hfr tv λb hb=>Or.inr (List.mem_append_right _ hb)),h.hcs,h.hds,h.nd,h.ml⟩,hAG⟩
theorem MMem.rowC(h:MMem lo w M Pb st cs ds cv sv kv dv tv)(hA:AG (vB cv) w w4){cs':List (MCl×Value)}(hown:w4.ownsRow lo 154 5 cv cs'.length (cs'.flatMap mcC))(hfl:∀x∈cs',FldX (λb=>lo<=b∧b∉mB M cv sv dv tv) w x.2 x.1.fields):MMem lo w4 M Pb {st with cells:=cs'.map (·.1)} cs' ds cv sv kv dv tv∧AG (mB M cv sv dv tv) w w4:=by
 have hrg:=h.rg;have hnd:([M]++(vB cv++(vB sv++(vB dv++vB tv)))).Nodup:=h.nd;have hd:=List.nodup_append.1 hnd;have hd2:=List.nodup_append.1 hd.2.1;have hnC:∀b,b=M∨b∈vB sv++(vB dv++vB tv)->b∉vB cv:=λb hb hm=>by
  rcases hb with hb|hb
  ·exact hd.2.2 b (List.mem_singleton.2 hb) b (List.mem_append_left _ hm) rfl
  ·exact hd2.2.2 b hm b hb rfl
 have hAG:AG (mB M cv sv dv tv) w w4:=⟨hA.os,hA.tape,hA.output,hA.size,λk hk hX=>hA.block k hk λhm=>hX (List.mem_cons_of_mem _ (List.mem_append_left _ hm))⟩;have hlow:Below lo w w4:=hAG.low (λb hb=>(hrg b hb).1) h.lz;have hfr:∀v,(∀b∈vB v,b∈vB sv++(vB dv++vB tv))->Fr (vB v) w w4:=λv hv b hb=>hA.block b (hrg b (List.mem_cons_of_mem _ (List.mem_append_right _ (hv b hb)))).2 (hnC b (Or.inr (hv b hb)));exact⟨⟨h.m.of_block (hA.block M h.m.lt (hnC M (Or.inl rfl))) hA.size,hown,λx hx=>(hfl x hx).fr λb ⟨g1,g2⟩ hbl=>⟨⟨g1,g2⟩,hA.block b hbl λhm=>g2 (List.mem_cons_of_mem _ (List.mem_append_left _ hm))⟩,row_fr h.sk (hfr sv λb hb=>List.mem_append_left _ hb),row_fr h.dp (hfr dv λb hb=>List.mem_append_right _ (List.mem_append_left _ hb)),λx hx=>(h.dc x hx).fr hlow,h.cd.fr hlow,row_fr h.tx (hfr tv λb hb=>List.mem_append_right _ (List.mem_append_right _ hb)),rfl,h.hds,h.nd,h.ml⟩,hAG⟩
end
theorem AG.cell{w:World}{g j:Nat}{v:Value}(hg:v.ownBlock=some g)(u:Value):AG (vB v) w (w.setCell ⟨g,j,none⟩ u):=(AG.refl _ _).set (Or.inl (mem_vB.2 hg)) u
def setTopS(q:Int)(st:MSt):MSt:={st with stack:=st.stack.dropLast++[q]}
theorem rfC_setLast(s:List Int)(x q:Int):(rfC (s++[x])).set s.length (.int .i32 q)=rfC (s++[q]):=by
 unfold rfC;rw[List.map_append,List.map_append];simp
theorem MMem.cellAt{lo:Nat}{w:World}{M Pb:Nat}{st:MSt}{cs:List (MCl×Value)}{ds:List (MFr×Value)}{cv sv kv dv tv:Value}(h:MMem lo w M Pb st cs ds cv sv kv dv tv){r:Nat}(hr:r<st.cells.length):∃g c fp fn fc,cv=.slice (some ⟨g,0,none⟩) st.cells.length c∧w.cell? ⟨g,r*5,none⟩=some (.int .u8 st.cells[r].kind)∧w.cell? ⟨g,r*5+1,none⟩=some (.int .i64 st.cells[r].n)∧w.cell? ⟨g,r*5+2,none⟩=some (.int .i32 st.cells[r].left)∧w.cell? ⟨g,r*5+3,none⟩=some (.int .i32 st.cells[r].right)∧w.cell? ⟨g,r*5+4,none⟩=some (.slice fp fn fc)∧FldX (λ_=>True) w (.slice fp fn fc) st.cells[r].fields:=by
 have hl:cs.length=st.cells.length:=by rw[<-h.hcs,List.length_map]
 have hr':r<cs.length:=by omega
 have e:st.cells[r]=cs[r].1:=by simp[<-h.hcs]
 have hf:=h.fl cs[r] (List.getElem_mem _);obtain⟨fp,fc,hfe,-⟩:=id hf;rcases h.cl.2 with⟨-,h0⟩|⟨g,cap,cur,hv,-⟩
 ·omega
 ·have hown:=h.cl;subst hv;have hx:∀j,j<5->(cs.flatMap mcC)[r*5+j]?=(mcC cs[r])[j]?:=λj hj=>by
   have:∀(l:List (MCl×Value)) (r:Nat) (hr:r<l.length),(l.flatMap mcC)[r*5+j]?=(mcC l[r])[j]?:=by
    intro l;induction l with
    |nil=>intro r hr;simp at hr
    |cons x l ih=>
     intro r hr;rw[List.flatMap_cons];cases r with
     |zero=>rw[List.getElem?_append_left (by simp[mcC];omega)];simp
     |succ r=>
      rw[List.getElem?_append_right (by simp[mcC];omega),show(r+1)*5+j-(mcC x).length=r*5+j by simp[mcC];omega];simpa using ih r (by simpa using hr)
   exact this cs r hr'
  refine⟨g,cap,fp,cs[r].1.fields.length,fc,by rw[hl],?_,?_,?_,?_,?_,?_⟩
  ·rw[hown.cellAt _ (by omega),show r*5=r*5+0 by rfl,hx 0 (by omega),e];rfl
  ·rw[hown.cellAt _ (by omega),hx 1 (by omega),e];rfl
  ·rw[hown.cellAt _ (by omega),hx 2 (by omega),e];rfl
  ·rw[hown.cellAt _ (by omega),hx 3 (by omega),e];rfl
  ·rw[hown.cellAt _ (by omega),hx 4 (by omega)];exact congrArg some hfe
  ·rw[e,<-hfe];exact hf.fr λ_ _ _=>⟨trivial,rfl⟩
end Go.Proofs.YtahmgjjgikgpoaaGreatDoor
