import Derived.Test.YtdpodpjdcfjfgaaGreatDoorSaJ
set_option maxRecDepth 100000
set_option maxHeartbeats 4000000
namespace Go.Proofs.YtdpodpjdcfjfgaaGreatDoor
open Go.RowKit Go.Sort
theorem rfC_set(l:List Int)(i:Nat)(x:Int):(rfC l).set i (.int .i32 x)=rfC (l.set i x):=by simp[rfC,List.map_set]
structure EnM (lo:Nat) (w0 wr:World) (M Pb:Nat) (B:List Nat) (st:MSt) (cs:List (MCl×Value)) (ds:List (MFr×Value)) (cv sv kv dv tv:Value):Prop where
 m:MMem lo wr M Pb st cs ds cv sv kv dv tv
 a:AG B w0 wr
theorem EnM.keep{lo:Nat}{w0 wr w':World}{M Pb:Nat}{B:List Nat}{st:MSt}{cs:List (MCl×Value)}{ds:List (MFr×Value)}{cv sv kv dv tv:Value}(h:EnM lo w0 wr M Pb B st cs ds cv sv kv dv tv)(hb:Below wr.heap.size wr w'):EnM lo w0 w' M Pb B st cs ds cv sv kv dv tv:=⟨h.m.keep hb,h.a.then hb⟩
theorem enter_any{lo:Nat}{w:World}{M Pb:Nat}{st:MSt}{B:List Nat}(V:Int->MSt->MSt)(a:Nat)(code:List LIns)(kp:Option Addr)(kn kc:Nat)(hk:CdAt lo w (.slice kp kn kc) code)(h:MM lo w M Pb st B)(hl:st.stack.length<=1000000000)(hb:0<=st.fr.base∧st.fr.base<st.stack.length)(hs:∀r∈st.stack,0<=r∧r<(st.cells.length:Int))(ha:a<=1000000)
 (hV:∀x w' B',MM lo w' M Pb st B'->Calls Tryz.prog 280 #[.pointer (some ⟨M,0,none⟩),.int .i32 x] w' λe w''=>MRes lo M Pb B' w' (V x st) (.tuple #[]) e w''):
 Calls Tryz.prog 278 #[.pointer (some ⟨M,0,none⟩),.agg #[.int .i64 (a:Int),.slice kp kn kc]] w λe w'=>MRes lo M Pb B w (enterS V a code st) (.tuple #[]) e w':=by
 have hbw:Below w.heap.size w (w.alloc (.cells #[.int .i64 (a:Int),.slice kp kn kc] 334)):=(Below.refl _ _).alloc (Nat.le_refl _) _;have HU:=hid (under_any ((h.keep hbw).keep (Below.refl _ _).drew) (by omega) (by omega));obtain⟨bn,hbn⟩:∃bn:Nat,st.fr.base=(bn:Int):=⟨st.fr.base.toNat,by omega⟩;obtain⟨cs,ds,cv,sv,kv,dv,tv,h,hBe⟩:=h;obtain⟨sg,sc,rfl,hcap,hsc⟩:=stack_slice h.sk (by omega);have hkl:=hk;have HEN:Hid (∀wz,Below w.heap.size w wz->EnM lo w wz M Pb B st cs ds cv (.slice (some ⟨sg,0,none⟩) st.stack.length sc) kv dv tv):=λwz hz=>⟨h.keep hz,AG.of_below hz⟩;have hself:M∈B:=by rw[hBe];exact List.mem_cons_self ..
 have HBR:Hid (∀wz stx kvx,EnM lo w wz M Pb B stx cs ds cv (.slice (some ⟨sg,0,none⟩) st.stack.length sc) kvx dv tv->MRes lo M Pb B w stx (.tuple #[]) (.returned (.tuple #[])) wz):=λwz stx kvx hm=>⟨rfl,hm.a,_,⟨cs,ds,cv,_,kvx,dv,tv,hm.m,rfl⟩,λb hb=>Or.inl (by rw[hBe];exact hb)⟩;have HMM:Hid (∀wz stx kvx,EnM lo w wz M Pb B stx cs ds cv (.slice (some ⟨sg,0,none⟩) st.stack.length sc) kvx dv tv->MM lo wz M Pb stx B):=λwz stx kvx hm=>⟨cs,ds,cv,_,kvx,dv,tv,hm.m,hBe⟩;have t0:(w.alloc (.cells #[.int .i64 (a:Int),.slice kp kn kc] 334)).drew.cell? ⟨w.heap.size,0,none⟩=some (.int .i64 (a:Int)):=alloc_cell w _ _ 0 _ rfl;have HW1:Hid (∀w1,w1=(w.alloc (.cells #[.int .i64 (a:Int),.slice kp kn kc] 334)).drew.drew->Below w.heap.size w w1∧C2 w1 w.heap.size (.int .i64 (a:Int)) (.slice kp kn kc)):=λw1 hw=>by
  subst hw;exact⟨hbw.drew.drew,(C2.new w _ _ _).keep (Below.refl _ _).drew.drew⟩
 obtain⟨d,hd⟩:∃d,(st.stack.length:Int)-1-st.fr.base=d:=⟨_,rfl⟩;have hund:undr st=d:=hd;rw[hd]at HU;have HH:=hid h;by_cases hlt:d<(a:Int)
 ·have hx:bn<st.stack.length:=by omega
  have hen:enterS V a code st=V st.stack[bn] st:=by
   unfold enterS;rw[hund,if_pos hlt,hbn];simp[hx]
  rw[hen];have HGV:Hid (∀w1,Below w.heap.size w w1->(w1.cell? ⟨M,2,none⟩=some (.slice (some ⟨sg,0,none⟩) st.stack.length sc)∧w1.cell? ⟨M,3,none⟩=some (.int .i64 (bn:Int))∧w1.cell? ⟨sg,bn,none⟩=some (.int .i32 st.stack[bn]))∧Calls Tryz.prog 280 #[.pointer (some ⟨M,0,none⟩),.int .i32 st.stack[bn]] w1 λe w''=>e=.returned (.tuple #[])∧Hid (MRes lo M Pb B w (V st.stack[bn] st) (.tuple #[]) (.returned (.tuple #[])) w'')):=λw1 hb1=>by
   have hm:=HEN.out w1 hb1;refine⟨⟨hm.m.m.at 2 rfl,by rw[<-hbn];exact hm.m.m.at 3 rfl,?_⟩,(hV _ w1 B (HMM.out _ _ _ hm)).mono λe w'' hr=>?_⟩
   ·refine cell_keep hb1 ?_;rw[hsc bn hx];simp[rfC,hx]
   ·have he:=hr.1;exact⟨he,hr.of hm.a (λb hb=>Or.inl hb) rfl⟩
  have i0:(0:Int)<=(bn:Int):=by omega
  have i1:(bn:Int)<(st.stack.length:Int):=by omega
  clear h hk hbw hd hV hen HEN HBR HMM hsc hs hund HH hBe;go_enter Tryz.func278,Tryz.ntmps278;go_upto_region 1 with fail
  go_region_held_law (λw'=>w'.cell? ⟨w.heap.size,0,none⟩=some (.int .i64 (a:Int))) (assumption)
   (first
    |(go_at_call 279;refine HU.out.mono ?_;rintro e w1 ⟨rfl,hw1⟩;obtain⟨hb1,y0,y1,-⟩:=HW1.out w1 hw1;obtain⟨⟨m2,m3,ms⟩,hgv⟩:=HGV.out w1.drew hb1.drew;have HGV1:=hid hgv;clear hgv hw1 hb1))
  go_upto_region 2 with fail
  go_region_with (first
   |(go_at_call 280;refine HGV1.out.mono ?_;rintro e w5 ⟨rfl,HRR⟩))
  all_goals(try go_wp2)
  all_goals
   refine bE ?_;exact HRR.out
 ·have han:a<st.stack.length:=by omega
  have hget:∀k,k<a->∃r:Nat,∃hr:r<st.cells.length,st.stack[st.stack.length-2-k]'(by omega)=(r:Int)∧knd st (r:Int)=st.cells[r].kind∧rgt st (r:Int)=st.cells[r].right:=λk hk=>by
   have hr:=hs (st.stack[st.stack.length-2-k]'(by omega)) (List.getElem_mem _);refine⟨(st.stack[st.stack.length-2-k]'(by omega)).toNat,by omega,by omega,?_,?_⟩
   ·unfold knd;rw[Int.toNat_natCast,List.getElem?_eq_getElem (by omega)];rfl
   ·unfold rgt;rw[Int.toNat_natCast,List.getElem?_eq_getElem (by omega)];rfl
  have HGET:=hid hget;have hstop:∀k (hk:k<a),knd st (st.stack[st.stack.length-2-k]'(by omega))≠2->enterS V a code st=stopS 3 st:=λk hk hn=>by
   unfold enterS;rw[hund,if_neg hlt,if_neg];intro hall;rw[List.all_eq_true]at hall;have hm:st.stack[st.stack.length-2-k]'(by omega)∈argsS a st:=by
    have:=args_get (st:=st) han hk;rw[List.getElem?_eq_getElem (by omega)]at this;exact List.mem_of_getElem? this.symm
   exact hn (by simpa using hall _ hm)
  have hgo:(∀k (hk:k<a),knd st (st.stack[st.stack.length-2-k]'(by omega))=2)->enterS V a code st={st with stack:=stk (rgt st) st.stack a,fr:=⟨st.fr.base,code,0⟩}:=λhall=>by
   unfold enterS;rw[hund,if_neg hlt,if_pos];rw[List.all_eq_true];intro r hr;obtain⟨i,hi,rfl⟩:=List.getElem_of_mem hr;have hla:(argsS a st).length=a:=by unfold argsS;simp;omega
   have:=args_get (st:=st) (j:=a-1-i) han (by omega);rw[List.getElem?_eq_getElem (by omega),show a-1-(a-1-i)=i by omega,List.getElem?_eq_getElem hi]at this;rw[<-Option.some.inj this];simpa using hall (a-1-i) (by omega)
  have HCK:Hid (∀(k:Nat) (hk:k<a) (wr:World),Below w.heap.size w wr->∃(r cn cc cg:Nat) (kd:Int),(0:Int)<=(r:Int)∧(r:Int)<(cn:Int)∧knd st (st.stack[st.stack.length-2-k]'(by omega))=kd∧wr.cell? ⟨M,1,none⟩=some (.slice (some ⟨cg,0,none⟩) cn cc)∧wr.cell? ⟨sg,st.stack.length-2-k,none⟩=some (.int .i32 (r:Int))∧wr.cell? ⟨cg,r*5,none⟩=some (.int .u8 kd)∧Hid (∀w3,(w3=wr.drew∨w3=wr.drew.drew)->Calls Tryz.prog 276 #[.pointer (some ⟨M,0,none⟩),.int .i64 ((k:Int)+1)] w3 λe w'=>e=.returned (.pointer (some ⟨sg,st.stack.length-2-k,none⟩))∧w'=w3.drew)):=λk hk wr hbr=>by
   have hm:=HEN.out wr hbr;have h3':∀w3,(w3=wr.drew∨w3=wr.drew.drew)->w3.cell? ⟨M,2,none⟩=some (.slice (some ⟨sg,0,none⟩) st.stack.length sc):=λw3 h3=>by
    rcases h3 with rfl|rfl<;>exact hm.m.m.at 2 rfl
   obtain⟨r,hr,e1,e2,-⟩:=HGET.out k hk;obtain⟨cg,cc,fp,fn,fc,hcv,k0,-⟩:=hm.m.cellAt (r:=r) hr;have hc1:=hm.m.m.at 1 rfl;rw[hcv]at hc1;refine⟨r,st.cells.length,cc,cg,st.cells[r].kind,by omega,by omega,by rw[e1];exact e2,hc1,?_,k0,λw3 h3=>?_⟩
   ·refine cell_keep hbr ?_;rw[hsc _ (by omega),<-e1];simp[rfC]
   ·have:=top_any (k+1) (h3' w3 h3) (by omega) (by omega);rw[show st.stack.length-1-(k+1)=st.stack.length-2-k by omega,show((k+1:Nat):Int)=(k:Int)+1 by omega]at this;exact this
  have HSP:Hid (∀wz,Below w.heap.size w wz->Calls Tryz.prog 227 #[.pointer (some ⟨M,0,none⟩),.int .i64 3] wz λe w''=>e=.returned (.tuple #[])∧Hid (MRes lo M Pb B w (stopS 3 st) (.tuple #[]) (.returned (.tuple #[])) w'')):=λwz hbz=>(stop_any 3 (HMM.out _ _ _ (HEN.out wz hbz))).mono λe w'' hr=>⟨hr.1,hr.of (HEN.out wz hbz).a (λb hb=>Or.inl hb) rfl⟩;have hMsg:M≠sg:=λe=>(List.nodup_cons.1 h.nd).1 (List.mem_append_right _ (List.mem_append_left _ (by rw[vB_slice];exact List.mem_singleton.2 e)));have hsgw:sg<w.heap.size:=(h.rg sg (List.mem_cons_of_mem _ (List.mem_append_right _ (List.mem_append_left _ (by rw[vB_slice];exact List.mem_singleton.2 rfl))))).2;have hcsg:∀cg n c,cv=.slice (some ⟨cg,0,none⟩) n c->cg≠sg:=λcg n c e e2=>by
   subst e;have:=(List.nodup_append.1 (List.nodup_cons.1 h.nd).2).2.2 cg (by rw[vB_slice];exact List.mem_singleton.2 rfl) sg (List.mem_append_left _ (by rw[vB_slice];exact List.mem_singleton.2 rfl));exact this e2
  have HC2:Hid (∀(k:Nat) (_:k<a) (wr:World),EnM lo w wr M Pb B {st with stack:=stk (rgt st) st.stack k} cs ds cv (.slice (some ⟨sg,0,none⟩) st.stack.length sc) kv dv tv->C2 wr w.heap.size (.int .i64 (a:Int)) (.slice kp kn kc)->∃(r cn cc cg:Nat) (q:Int),(0:Int)<=(r:Int)∧(r:Int)<(cn:Int)∧wr.cell? ⟨M,1,none⟩=some (.slice (some ⟨cg,0,none⟩) cn cc)∧wr.cell? ⟨sg,st.stack.length-2-k,none⟩=some (.int .i32 (r:Int))∧wr.cell? ⟨cg,r*5+3,none⟩=some (.int .i32 q)∧(∃u,wr.cell? ⟨sg,st.stack.length-1-k,none⟩=some u)∧wr.frozen? ⟨sg,st.stack.length-1-k,none⟩=false∧Hid (∀w3,(w3=wr.drew∨w3=wr.drew.drew)->Calls Tryz.prog 276 #[.pointer (some ⟨M,0,none⟩),.int .i64 ((k:Int)+1)] w3 λe w'=>e=.returned (.pointer (some ⟨sg,st.stack.length-2-k,none⟩))∧w'=w3.drew)∧Hid (∀w3,(w3=wr.drew∨w3=wr.drew.drew)->Calls Tryz.prog 276 #[.pointer (some ⟨M,0,none⟩),.int .i64 (k:Int)] w3 λe w'=>e=.returned (.pointer (some ⟨sg,st.stack.length-1-k,none⟩))∧w'=w3.drew)∧Hid ((wr.setCell ⟨sg,st.stack.length-1-k,none⟩ (.int .i32 q)).cell? ⟨M,1,none⟩=some (.slice (some ⟨cg,0,none⟩) cn cc)∧(wr.setCell ⟨sg,st.stack.length-1-k,none⟩ (.int .i32 q)).cell? ⟨sg,st.stack.length-2-k,none⟩=some (.int .i32 (r:Int))∧(wr.setCell ⟨sg,st.stack.length-1-k,none⟩ (.int .i32 q)).cell? ⟨cg,r*5+3,none⟩=some (.int .i32 q))∧Hid (EnM lo w (wr.setCell ⟨sg,st.stack.length-1-k,none⟩ (.int .i32 q)) M Pb B {st with stack:=stk (rgt st) st.stack (k+1)} cs ds cv (.slice (some ⟨sg,0,none⟩) st.stack.length sc) kv dv tv∧C2 (wr.setCell ⟨sg,st.stack.length-1-k,none⟩ (.int .i32 q)) w.heap.size (.int .i64 (a:Int)) (.slice kp kn kc))):=λk hk wr hm hc2=>by
   have h3':∀w3,(w3=wr.drew∨w3=wr.drew.drew)->w3.cell? ⟨M,2,none⟩=some (.slice (some ⟨sg,0,none⟩) st.stack.length sc):=λw3 h3=>by
    rcases h3 with rfl|rfl<;>exact hm.m.m.at 2 rfl
   obtain⟨r,hr,e1,-,e3⟩:=HGET.out k hk;have hsl:=stk_len (rgt st) st.stack k (by omega);have hsk:=hm.m.sk;have hsk2:wr.ownsRow lo 241 1 (.slice (some ⟨sg,0,none⟩) st.stack.length sc) st.stack.length (rfC (stk (rgt st) st.stack k)):=by
    have:=hsk;rw[show({st with stack:=stk (rgt st) st.stack k}:MSt).stack.length=st.stack.length from hsl]at this;exact this
   obtain⟨cg,cc,fp,fn,fc,hcv,-,-,-,k3,-⟩:=hm.m.cellAt (r:=r) hr;have hc1:=hm.m.m.at 1 rfl;have hne:=hcsg _ _ _ hcv;rw[hcv]at hc1;have hxr:wr.cell? ⟨sg,st.stack.length-2-k,none⟩=some (.int .i32 (r:Int)):=by
    rw[hsk2.cellAt _ (by omega),<-e1];unfold rfC;rw[List.getElem?_map,stk_get _ _ _ _ (by omega),if_pos (by omega),List.getElem?_eq_getElem (by omega)];rfl
   have hso:=(hsk2.stored (st.stack.length-1-k) (.int .i32 (rgt st (r:Int)))).1;rw[rfC_set]at hso;have hsu:=stk_succ (rgt st) st.stack k (by omega);rw[e1]at hsu;rw[<-hsu]at hso;have hsl2:=stk_len (rgt st) st.stack (k+1) (by omega);obtain⟨t1,t2⟩:=hm.m.rowS (AG.cell (j:=st.stack.length-1-k) (v:=.slice (some ⟨sg,0,none⟩) st.stack.length sc) rfl (.int .i32 (rgt st (r:Int)))) (s':=stk (rgt st) st.stack (k+1)) (by rw[hsl2];exact hso);rw[<-hBe]at t2;have hb1:(wr.setCell ⟨sg,st.stack.length-1-k,none⟩ (.int .i32 (rgt st (r:Int)))).heap[M]?=wr.heap[M]?:=Below.heap_setCell _ _ _ _ hMsg;have hb2:(wr.setCell ⟨sg,st.stack.length-1-k,none⟩ (.int .i32 (rgt st (r:Int)))).heap[cg]?=wr.heap[cg]?:=Below.heap_setCell _ _ _ _ hne;have hb3:(wr.setCell ⟨sg,st.stack.length-1-k,none⟩ (.int .i32 (rgt st (r:Int)))).heap[w.heap.size]?=wr.heap[w.heap.size]?:=Below.heap_setCell _ _ _ _ (by show w.heap.size≠sg;omega);have k3':wr.cell? ⟨cg,r*5+3,none⟩=some (.int .i32 (rgt st (r:Int))):=by rw[e3];exact k3
   refine⟨r,st.cells.length,cc,cg,rgt st (r:Int),by omega,by omega,hc1,hxr,k3',⟨_,by rw[hsk2.cellAt _ (by omega)];exact List.getElem?_eq_getElem (by unfold rfC;rw[List.length_map,hsl];omega)⟩,hsk2.frozenAt _,λw3 h3=>?_,λw3 h3=>?_,⟨cell_same hb1 hc1,?_,cell_same hb2 k3'⟩,⟨t1,hm.a.trans t2 λb hb=>Or.inl hb⟩,⟨cell_same hb3 hc2.c0,cell_same hb3 hc2.c1,by simpa using hc2.lt⟩⟩
   ·have:=top_any (k+1) (h3' w3 h3) (by omega) (by omega);rw[show st.stack.length-1-(k+1)=st.stack.length-2-k by omega,show((k+1:Nat):Int)=(k:Int)+1 by omega]at this;exact this
   ·exact top_any k (h3' w3 h3) (by omega) (by omega)
   ·rw[setc (by omega)];exact hxr
  have HFI:Hid (∀wr,EnM lo w wr M Pb B {st with stack:=stk (rgt st) st.stack a} cs ds cv (.slice (some ⟨sg,0,none⟩) st.stack.length sc) kv dv tv->(∀k (hk:k<a),knd st (st.stack[st.stack.length-2-k]'(by omega))=2)->(∃v4 v5,wr.cell? ⟨M,4,none⟩=some v4∧wr.cell? ⟨M,5,none⟩=some v5)∧(wr.frozen? ⟨M,4,none⟩=false∧wr.frozen? ⟨M,5,none⟩=false)∧Hid (MRes lo M Pb B w (enterS V a code st) (.tuple #[]) (.returned (.tuple #[])) ((wr.setCell ⟨M,4,none⟩ (.slice kp kn kc)).setCell ⟨M,5,none⟩ (.int .i64 0)))):=λwr hm hall=>by
   have hk1:CdAt lo wr (.slice kp kn kc) code:=hk.fr (hm.a.low (λb hb=>(h.rg b (hBe▸hb)).1) h.lz);have h2:=hm.m.setM (i:=4) (u:=.slice kp kn kc) (st':={st with stack:=stk (rgt st) st.stack a,fr:=⟨st.fr.base,code,st.fr.at_⟩}) (kv':=.slice kp kn kc) rfl (by omega) rfl rfl rfl rfl hk1;have h3:=h2.setM (i:=5) (u:=.int .i64 0) (st':={st with stack:=stk (rgt st) st.stack a,fr:=⟨st.fr.base,code,0⟩}) (kv':=.slice kp kn kc) rfl (by omega) rfl rfl rfl rfl h2.cd;refine⟨⟨_,_,hm.m.m.at 4 rfl,hm.m.m.at 5 rfl⟩,⟨hm.m.m.fz 4,hm.m.m.fz 5⟩,?_⟩;rw[hgo hall];exact HBR.out _ _ _ ⟨h3,(hm.a.set (Or.inl hself) _).set (Or.inl hself) _⟩
  have HST:=hid hstop;clear h hk hkl hbw hV HBR HMM hsc hs HH hstop hgo hget HGET hcsg hBe;go_enter Tryz.func278,Tryz.ntmps278;go_upto_region 1 with fail
  go_region_held_law (λw'=>w'.cell? ⟨w.heap.size,0,none⟩=some (.int .i64 (a:Int))) (assumption)
   (first
    |(go_at_call 279;refine HU.out.mono ?_;rintro e w1 ⟨rfl,hw1⟩;obtain⟨hb1,hc2⟩:=HW1.out w1 hw1;have HB1:=hid hb1;have HC1:=hid hc2;obtain⟨y0,y1,-⟩:=hc2;clear hw1 hb1))
  go_wp2;go_loopw [26] (λkv wr=>∃k:Nat,k<=a∧kv=.int .i64 (k:Int)∧Hid (Below w1.heap.size w1 wr)∧Hid (∀j (hj:j<k) (hja:j<a),knd st (st.stack[st.stack.length-2-j]'(by omega))=2)) (λkv _=>a-(intOf kv).toNat)
  case atStart=>exact⟨0,Nat.zero_le _,rfl,Below.refl _ _,λj hj=>absurd hj (by omega)⟩
  case round=>
   rename World=>wr
   obtain⟨k,hka,rfl,HBr,HAL⟩:=hrel;have hbr:=HB1.out.trans (HBr.out.mono HB1.out.size);have HBR2:=hid hbr;clear y0 y1;by_cases hk:k<a
   ·obtain⟨r,cn,cc,cg,kd,i0,i1,hkd,x1,xr,xk,HTP⟩:=HCK.out k hk wr hbr;have hki:(k:Int)<(a:Int):=by omega
    have hwk:IntKind.i64.wrap ((k:Int)+1)=(k:Int)+1:=i64w (by omega);have x1d:wr.drew.cell? ⟨M,1,none⟩=_:=x1;have xrd:wr.drew.cell? ⟨sg,st.stack.length-2-k,none⟩=_:=xr;have xkd:wr.drew.cell? ⟨cg,r*5,none⟩=_:=xk;have x1e:wr.drew.drew.cell? ⟨M,1,none⟩=_:=x1;have xre:wr.drew.drew.cell? ⟨sg,st.stack.length-2-k,none⟩=_:=xr;have xke:wr.drew.drew.cell? ⟨cg,r*5,none⟩=_:=xk;have HKD:=hid hkd;clear x1 xr xk hkd hbr;go_upto_region 6 with fail
    go_region_held_law (λw'=>w'.cell? ⟨M,1,none⟩=some (.slice (some ⟨cg,0,none⟩) cn cc)∧w'.cell? ⟨sg,st.stack.length-2-k,none⟩=some (.int .i32 (r:Int))∧w'.cell? ⟨cg,r*5,none⟩=some (.int .u8 kd)) (first|(with_reducible exact⟨x1d,xrd,xkd⟩)|(with_reducible exact⟨x1e,xre,xke⟩))
     (first
      |(go_at_call 276;with_reducible refine(HTP.out _ (Or.inl rfl)).mono ?_;rintro e w3 ⟨rfl,rfl⟩))
    by_cases h2:kd=2
    ·subst h2;go_wp2;refine⟨⟨k+1,by omega,by go_num,HBr.out.drew.drew,λj hj hja=>?_⟩,by simp[intOf];omega⟩;by_cases hjk:j=k
     ·subst hjk;exact HKD.out
     ·exact HAL.out j (by omega) hja
    ·have HSP1:=hid (HSP.out wr.drew.drew HBR2.out.drew.drew);go_wp2_with (first
      |(go_at_call 227;refine HSP1.out.mono ?_;rintro e w5 ⟨rfl,HRR⟩))
     refine bE ?_;rw[HST.out k hk (by rw[HKD.out];exact h2)];exact HRR.out
   ·obtain rfl:k=a:=by omega
    have hki:¬((k:Int)<(k:Int)):=by omega
    obtain⟨y0,y1,-⟩:=HC1.out.keep HBr.out;have HE0:Hid (EnM lo w wr M Pb B {st with stack:=stk (rgt st) st.stack 0} cs ds cv (.slice (some ⟨sg,0,none⟩) st.stack.length sc) kv dv tv∧C2 wr w.heap.size (.int .i64 (k:Int)) (.slice kp kn kc)):=by
     rw[stk_zero];exact⟨HEN.out wr hbr,HC1.out.keep HBr.out⟩
    clear hbr;go_wp2;go_loopw [48] (λjv wx=>∃j:Nat,j<=k∧jv=.int .i64 (j:Int)∧Hid (EnM lo w wx M Pb B {st with stack:=stk (rgt st) st.stack j} cs ds cv (.slice (some ⟨sg,0,none⟩) st.stack.length sc) kv dv tv∧C2 wx w.heap.size (.int .i64 (k:Int)) (.slice kp kn kc))) (λjv _=>k-(intOf jv).toNat)
    case atStart=>exact⟨0,Nat.zero_le _,rfl,HE0.out⟩
    case round=>
     rename World=>wx
     clear y0 y1 HE0;obtain⟨j,hjk,rfl,HE⟩:=hrel;by_cases hj:j<k
     ·obtain⟨r,cn,cc,cg,q,i0,i1,x1,xr,xq,⟨u,xu⟩,fu,HT1,HT0,HS5,HNX⟩:=HC2.out j hj wx HE.out.1 HE.out.2;have hji:(j:Int)<(k:Int):=by omega
      have hwk:IntKind.i64.wrap ((j:Int)+1)=(j:Int)+1:=i64w (by omega);have x1d:wx.drew.cell? ⟨M,1,none⟩=_:=x1;have xrd:wx.drew.cell? ⟨sg,st.stack.length-2-j,none⟩=_:=xr;have xqd:wx.drew.cell? ⟨cg,r*5+3,none⟩=_:=xq;have x1e:wx.drew.drew.cell? ⟨M,1,none⟩=_:=x1;have xre:wx.drew.drew.cell? ⟨sg,st.stack.length-2-j,none⟩=_:=xr;have xqe:wx.drew.drew.cell? ⟨cg,r*5+3,none⟩=_:=xq;have x1f:wx.drew.drew.drew.cell? ⟨M,1,none⟩=_:=x1;have xrf:wx.drew.drew.drew.cell? ⟨sg,st.stack.length-2-j,none⟩=_:=xr;have xqf:wx.drew.drew.drew.cell? ⟨cg,r*5+3,none⟩=_:=xq;have s1:(wx.setCell ⟨sg,st.stack.length-1-j,none⟩ (.int .i32 q)).drew.drew.drew.cell? ⟨M,1,none⟩=_:=HS5.out.1;have s2:(wx.setCell ⟨sg,st.stack.length-1-j,none⟩ (.int .i32 q)).drew.drew.drew.cell? ⟨sg,st.stack.length-2-j,none⟩=_:=HS5.out.2.1;have s3:(wx.setCell ⟨sg,st.stack.length-1-j,none⟩ (.int .i32 q)).drew.drew.drew.cell? ⟨cg,r*5+3,none⟩=_:=HS5.out.2.2;clear x1 xr xq;go_upto_region 12 with fail
      go_region_held_law (λw'=>w'.cell? ⟨M,1,none⟩=some (.slice (some ⟨cg,0,none⟩) cn cc)∧w'.cell? ⟨sg,st.stack.length-2-j,none⟩=some (.int .i32 (r:Int))∧w'.cell? ⟨cg,r*5+3,none⟩=some (.int .i32 q)) (first|(with_reducible exact⟨x1d,xrd,xqd⟩)|(with_reducible exact⟨x1e,xre,xqe⟩)|(with_reducible exact⟨x1f,xrf,xqf⟩)|(with_reducible exact⟨s1,s2,s3⟩))
       (first
        |(go_at_call 276;first|(with_reducible refine(HT1.out _ (Or.inl rfl)).mono ?_;rintro e w3 ⟨rfl,rfl⟩)|(with_reducible refine(HT0.out _ (Or.inl rfl)).mono ?_;rintro e w3 ⟨rfl,rfl⟩)|(with_reducible refine(HT1.out _ (Or.inr rfl)).mono ?_;rintro e w3 ⟨rfl,rfl⟩)|(with_reducible refine(HT0.out _ (Or.inr rfl)).mono ?_;rintro e w3 ⟨rfl,rfl⟩)))
      all_goals(try go_wp2)
      all_goals
       refine⟨⟨j+1,by omega,by go_num,HNX.out.1.keep (Below.refl _ _).drew.drew.drew,HNX.out.2.keep (Below.refl _ _).drew.drew.drew⟩,by simp[intOf];omega⟩
     ·obtain rfl:j=k:=by omega
      have hji:¬((j:Int)<(j:Int)):=by omega
      obtain⟨⟨v4,v5,x4,x5⟩,⟨f4,f5⟩,HRR⟩:=HFI.out wx HE.out.1 (λi hi=>HAL.out i hi hi);obtain⟨y0,y1,-⟩:=HE.out.2;go_wp2;refine bE ?_;exact HRR.out
end Go.Proofs.YtdpodpjdcfjfgaaGreatDoor
