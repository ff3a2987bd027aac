import Derived.Test.YtblobglfjhilmaaGreatDoorCq7J
import Derived.Test.YtblobglfjhilmaaGreatDoorPqbJ
import Derived.Test.YtblobglfjhilmaaGreatDoorCk1J
import Derived.Test.YtblobglfjhilmaaGreatDoorRd6J
set_option maxRecDepth 100000
set_option maxHeartbeats 8000000
namespace Go.Proofs.YtblobglfjhilmaaGreatDoor
open Go.RowKit Go.Sort
theorem tn_num(x:Value)(w:World):Sem.run Tryz.prog (Instr.typeAssert (.iface 374 x) 124 374 true) w=.ok (.tuple #[x,.bool true]) w:=by kernel_rfl
theorem tn_let(x:Value)(w:World):Sem.run Tryz.prog (Instr.typeAssert (.iface 374 x) 124 272 true) w=.ok (.tuple #[.agg #[.bool false,.slice none 0 0,.slice none 0 0,.nilIface],.bool false]) w:=by kernel_rfl
theorem tn_case(x:Value)(w:World):Sem.run Tryz.prog (Instr.typeAssert (.iface 374 x) 124 276 true) w=.ok (.tuple #[.agg #[.nilIface,.slice none 0 0],.bool false]) w:=by kernel_rfl
theorem tn_op(x:Value)(w:World):Sem.run Tryz.prog (Instr.typeAssert (.iface 374 x) 124 339 true) w=.ok (.tuple #[.agg #[.int .i64 0,.nilIface,.nilIface],.bool false]) w:=by kernel_rfl
theorem tn_call(x:Value)(w:World):Sem.run Tryz.prog (Instr.typeAssert (.iface 374 x) 124 341 true) w=.ok (.tuple #[.agg #[.nilIface,.slice none 0 0],.bool false]) w:=by kernel_rfl
theorem tn_name(x:Value)(w:World):Sem.run Tryz.prog (Instr.typeAssert (.iface 374 x) 124 122 true) w=.ok (.tuple #[.agg #[.string ⟨#[]⟩,.int .i64 0],.bool false]) w:=by kernel_rfl
section
variable {G:TT->Prop} {lo:Nat} {w:World} {K U:Nat} {nm:ByteArray} {st:CSt} {gv:Value} {B:List Nat}
theorem graph_num(n:Int)(hlo:24<lo)(hT:TabAt w)(h:CM G lo w K U nm st gv B)(hl:st.code.length<=100000):
 Calls Tryz.prog 190 #[.pointer (some ⟨K,0,none⟩),.iface 374 (.agg #[.int .i64 n])] w λe w'=>CRes G lo K U nm gv B w (cPut 0 n st) e w':=by
 have hta:=tn_num;have hb:∀o,Below w.heap.size w (w.alloc o):=λo=>(Below.refl _ _).alloc (Nat.le_refl _) _;have HP:=hid (λw1 (hb:Below w.heap.size w w1)=>put_any 0 n (by omega) hlo (hT.keep hb) (h.keep hb) hl);have HA:=hid (λw1 (hb:Below w.heap.size w w1)=>AF.of_below (X:=B) hb);have HB:=hid hb;clear h hT hb;go_enter Tryz.func190,Tryz.ntmps190;go_wp2_with (first
  |(go_at_call 134;refine(HP.out _ (HB.out _)).mono ?_;intro e w2 hr;obtain⟨rfl,-⟩:=id hr;have HR:=hid (CRes.trans (HA.out _ (HB.out _)) (λb hb=>Or.inl hb) hr);clear hr))
 refine bodyPost_end (results_none rfl _ _ _) rfl ?_;exact HR.out
theorem value_num(n:Int)(hlo:24<lo)(hT:TabAt w)(h:CM G lo w K U nm st gv B)(hl:st.code.length<=100000):
 Calls Tryz.prog 132 #[.pointer (some ⟨K,0,none⟩),.iface 374 (.agg #[.int .i64 n])] w λe w'=>CRes G lo K U nm gv B w (cPut 0 n st) e w':=by
 have hta1:=tn_let;have hta2:=tn_case;have hta3:=tn_op;have hta4:=tn_name;have hta5:=tn_call;have HP:=hid (graph_num n hlo hT h hl);clear h hT;go_enter Tryz.func132,Tryz.ntmps132;go_wp2_with (first
  |(go_at_call 190;refine HP.out.mono ?_;intro e w2 hr;obtain⟨rfl,-⟩:=id hr;have HR:=hid hr;clear hr))
 refine bodyPost_end (results_none rfl _ _ _) rfl ?_;exact HR.out
theorem cput_dep(op:Nat)(a:Int)(c:CSt):(cPut op a c).code.length=c.code.length+1:=by unfold cPut;simp
theorem num_dep{n:Int}{c:CSt}(hd:c.dep=1):(cPut 0 n c).dep=2∧(cUpd 0 (cPut 0 n c)).dep=1:=by
 have h1:(cPut 0 n c).dep=2:=by
  show behV 0 n c.dep=2;rw[hd];simp[behV,rowN,rowsTab];kernel_rfl
 refine⟨h1,?_⟩;show behV 5 ((cPut 0 n c).dep-2-0) (cPut 0 n c).dep=1;rw[h1];simp[behV,rowN,rowsTab];kernel_rfl
theorem CRes.box{b:Nat}{v:Value}{w w':World}{st:CSt}{e:Ending}(h:CRes G lo K U nm gv B w st e w')(hx:w.cell? ⟨b,0,none⟩=some v)(hb:b∉B):w'.cell? ⟨b,0,none⟩=some v:=by
 rw[World.cell?_of_block (a:=⟨b,0,none⟩) (h.2.1.block b (block_lt_of_cell hx) hb)];exact hx
end
theorem imports0(nm:ByteArray)(ip:Option Addr)(ic:Nat)(dv:Value)(w:World):Calls Tryz.prog 38 #[.agg #[.string nm,.slice ip 0 ic,dv]] w λe w'=>e=.returned (.slice none 0 0)∧Below w.heap.size w w':=by
 go_enter Tryz.func38,Tryz.ntmps38;go_wp2;go_loopw [3,9] (λl i wr=>l=.slice none 0 0∧i=.int .i64 0∧Below w.heap.size w wr) (λ_ _ _=>0)
 case atStart=>exact⟨rfl,rfl,(Below.refl _ _).alloc (Nat.le_refl _) _⟩
 case round=>
  obtain⟨rfl,rfl,hb⟩:=hrel;go_wp2_with (first|(go_at_call 76;refine(sortI_01 none 0 0 _ (by omega) _).mono ?_;rintro e w' ⟨rfl,rfl⟩))
  go_ret;exact⟨rfl,hb⟩
theorem coder0(U:Nat)(nm:ByteArray)(pp:Option Addr)(pc:Nat)(bt:TypeId)(bx:Value)(w:World):Calls Tryz.prog 80 #[.pointer (some ⟨U,0,none⟩),.agg #[.string nm,.slice pp 0 pc,.iface bt bx]] w λe w'=>∃K,e=.returned (.pointer (some ⟨K,0,none⟩))∧w.heap.size<=K∧V5 w' K (.pointer (some ⟨U,0,none⟩)) (.string nm) (.slice none 0 0) (.int .i64 1) (.slice none 0 0)∧Below w.heap.size w w':=by
 have hb:Below w.heap.size w ((w.alloc (.cells #[.string nm,.slice pp 0 pc,.iface bt bx] 131)).alloc (.cells #[.pointer (some ⟨U,0,none⟩),.string nm,.slice none 0 0,.int .i64 1,.slice none 0 0] 213)):=((Below.refl _ _).alloc (Nat.le_refl _) _).alloc (by simp) _;have hv:V5 ((w.alloc (.cells #[.string nm,.slice pp 0 pc,.iface bt bx] 131)).alloc (.cells #[.pointer (some ⟨U,0,none⟩),.string nm,.slice none 0 0,.int .i64 1,.slice none 0 0] 213)) (w.heap.size+1) (.pointer (some ⟨U,0,none⟩)) (.string nm) (.slice none 0 0) (.int .i64 1) (.slice none 0 0):=⟨by simp,by simp,by simp,by simp,by simp,λj=>by simp⟩;have HB:=hid hb;have HV:=hid hv;clear hb hv;go_enter Tryz.func80,Tryz.ntmps80;go_wp2;go_loopw [20] (λi wr=>i=.int .i64 0∧wr=(w.alloc (.cells #[.string nm,.slice pp 0 pc,.iface bt bx] 131)).alloc (.cells #[.pointer (some ⟨U,0,none⟩),.string nm,.slice none 0 0,.int .i64 1,.slice none 0 0] 213)) (λ_ _=>0)
 case atStart=>exact⟨rfl,rfl⟩
 case round=>
  obtain⟨rfl,rfl⟩:=hrel;go_wp2;go_ret;exact⟨_,rfl,by simp,by simpa using HV.out,HB.out⟩
def has35(s:ByteArray):Bool:=s.data.toList.any λb=>b==35
theorem contains35(s:ByteArray)(w:World):Calls Tryz.prog 82 #[.string s,.string ⟨#[35]⟩] w λe w'=>e=.returned (.bool (has35 s))∧w'=w:=by
 have h:=Any.strings_Contains_one Tryz.lays144 s 35 w;rw[idx_neg]at h;exact h
structure UMx (lo:Nat) (w:World) (U:Nat) (kn:List ByteArray) (ts:List TT) (kv tv gv:Value):Prop where
 u:V3 w U kv tv gv
 kn:StrsO w lo kv kn
 td:TdO w lo tv ts
 nd:(umB U kv tv ts).Nodup
 ul:lo<=U
theorem UMx.rg{lo:Nat}{w:World}{U:Nat}{kn:List ByteArray}{ts:List TT}{kv tv gv:Value}(h:UMx lo w U kn ts kv tv gv):∀b∈umB U kv tv ts,lo<=b∧b<w.heap.size:=by
 intro b hb;rcases List.mem_cons.1 hb with rfl|hb
 ·exact⟨h.ul,h.u.lt⟩
 rcases List.mem_append.1 hb with hb|hb
 ·exact h.kn.rg b (List.mem_append_left _ hb)
 ·exact h.td.rg b hb
theorem UMx.coder{lo:Nat}{w w':World}{U:Nat}{kn:List ByteArray}{ts:List TT}{kv tv gv:Value}{K:Nat}{nm:ByteArray}(h:UMx lo w U kn ts kv tv gv)(hb:Below w.heap.size w w')(hK:w.heap.size<=K)(hv:V5 w' K (.pointer (some ⟨U,0,none⟩)) (.string nm) (.slice none 0 0) (.int .i64 1) (.slice none 0 0)):
 CMem lo w' K U nm ⟨[],1,[],kn,ts.map ttT⟩ [] ts (.slice none 0 0) (.slice none 0 0) kv tv gv:=by
 have hz:=hb.size;have hf:Fr (umB U kv tv ts) w w':=λb hm=>hb.block b (h.rg b hm).2;refine⟨hv,h.u.of_block (hf U (List.mem_cons_self ..)),RowS.nil _ _,RowS.nil _ _,h.kn.fr okStr hz (hf.sub λb hb'=>List.mem_cons_of_mem _ (List.mem_append_left _ (rowB_plain hb'))),h.td.fr okTd hz (hf.sub λb hb'=>List.mem_cons_of_mem _ (List.mem_append_right _ hb')),rfl,rfl,?_,?_,h.ul⟩
 ·have hm:∀b∈umB U kv tv ts,b<K:=λb hb'=>by have:=(h.rg b hb').2;omega
  exact List.nodup_cons.2 ⟨λhm'=>by have:=hm K hm';omega,h.nd⟩
 ·have:=h.ul;have:=h.u.lt;omega
theorem set4_old{w:World}{X b j:Nat}{v:Value}(h:w.cell? ⟨b,j,none⟩=some v)(hb:b≠X)(u0 u1 u2 u3:Value):((((w.setCell ⟨X,0,none⟩ u0).setCell ⟨X,1,none⟩ u1).setCell ⟨X,2,none⟩ u2).setCell ⟨X,3,none⟩ u3).cell? ⟨b,j,none⟩=some v:=by
 rw[World.cell?_of_block (a:=⟨b,j,none⟩) (Below.heap_setCell _ _ _ _ hb),World.cell?_of_block (a:=⟨b,j,none⟩) (Below.heap_setCell _ _ _ _ hb),World.cell?_of_block (a:=⟨b,j,none⟩) (Below.heap_setCell _ _ _ _ hb),World.cell?_of_block (a:=⟨b,j,none⟩) (Below.heap_setCell _ _ _ _ hb)];exact h
theorem set4_new{w:World}{X:Nat}{y0 y1 y2 y3:Value}(h:V4 w X y0 y1 y2 y3)(u0 u1 u2 u3:Value):((((w.setCell ⟨X,0,none⟩ u0).setCell ⟨X,1,none⟩ u1).setCell ⟨X,2,none⟩ u2).setCell ⟨X,3,none⟩ u3).cell? ⟨X,0,none⟩=some u0∧((((w.setCell ⟨X,0,none⟩ u0).setCell ⟨X,1,none⟩ u1).setCell ⟨X,2,none⟩ u2).setCell ⟨X,3,none⟩ u3).cell? ⟨X,1,none⟩=some u1∧((((w.setCell ⟨X,0,none⟩ u0).setCell ⟨X,1,none⟩ u1).setCell ⟨X,2,none⟩ u2).setCell ⟨X,3,none⟩ u3).cell? ⟨X,2,none⟩=some u2∧((((w.setCell ⟨X,0,none⟩ u0).setCell ⟨X,1,none⟩ u1).setCell ⟨X,2,none⟩ u2).setCell ⟨X,3,none⟩ u3).cell? ⟨X,3,none⟩=some u3:=by
 have o:∀(w:World) (i j:Nat) (u:Value),i≠j->(w.setCell ⟨X,i,none⟩ u).cell? ⟨X,j,none⟩=w.cell? ⟨X,j,none⟩:=λw i j u hij=>World.cell?_setCell_other _ _ _ _ (off_ne hij);refine⟨?_,?_,?_,?_⟩
 ·rw[o _ 3 0 _ (by omega),o _ 2 0 _ (by omega),o _ 1 0 _ (by omega)];exact World.cell?_setCell_same _ _ _ h.c0
 ·rw[o _ 3 1 _ (by omega),o _ 2 1 _ (by omega)];exact World.cell?_setCell_same _ _ _ (by rw[o _ 0 1 _ (by omega)];exact h.c1)
 ·rw[o _ 3 2 _ (by omega)];exact World.cell?_setCell_same _ _ _ (by rw[o _ 1 2 _ (by omega),o _ 0 2 _ (by omega)];exact h.c2)
 ·exact World.cell?_setCell_same _ _ _ (by rw[o _ 2 3 _ (by omega),o _ 1 3 _ (by omega),o _ 0 3 _ (by omega)];exact h.c3)
theorem sl_nil(g c:Nat)(w:World):Sem.run Tryz.prog (binOp BinOp.eql 22 (.slice (some ⟨g,0,none⟩) 1 c) (.slice none 0 0)) w=.ok (.bool false) w:=by kernel_rfl
theorem clone1{w:World}{g c:Nat}{t:ByteArray}(hc:w.cell? ⟨g,0,none⟩=some (.string t)):Calls Tryz.prog 85 #[.slice (some ⟨g,0,none⟩) 1 c] w λe w'=>∃q k,e=.returned (.slice (some ⟨q,0,none⟩) 1 k)∧1<=k∧k<=maxLen∧Below w.heap.size w w':=by
 obtain⟨si,hsi,hsj⟩:=Option.map_eq_some_iff.1 Tryz.strI7;simp only[Prod.mk.injEq]at hsj;obtain⟨hs0,hs1,hs2⟩:=hsj;have HOW:=hid (World.ownsRow_lit (base:=0) (e:=9) (size:=1) w #[] 0 (Nat.zero_le _) (by unfold maxLen;omega) rfl);have HC:=hid (alloc_old w (.cells #[] 9) _ _ _ hc);have HB:=hid (((Below.refl _ _).alloc (Nat.le_refl _) _:Below w.heap.size w (w.alloc (.cells #[] 9))));clear hc;have hnl:=sl_nil;go_enter Tryz.func85,Tryz.ntmps85;go_wp2_with (first
  |(at_builtin;refine wpList_append_lies _ rfl (.tmp 5) (.tmp 6) 22 rfl 0 9 si _ 1 16 Tryz.underlying22 hsi hs0 hs1 hs2 rfl (by omega) (.slice (some ⟨w.heap.size,0,none⟩) 0 0) 0 [] rfl HOW.out ⟨g,0,none⟩ 1 c [.string t] (by simp[Act.eval];done) rfl (by intro j u hj;cases j with|zero=>(simp at hj;subst hj;exact HC.out)|succ j=>simp at hj) (by intro u hu;simp at hu;subst hu;rfl) (by omega) (by unfold maxLen;omega) (by omega) (Nat.zero_le _) _ rfl ?_;intro g1 k1 w7 hown hgrow hat hlt1;have HO:=hid hown;have HG:=hid hgrow;clear hown hgrow hat hlt1))
 go_ret;have hb7:=HB.out.grown HG.out (Nat.le_of_lt (by simp)) (λb e=>by cases e;exact Nat.le_refl _);rcases HO.out.2 with⟨e,-⟩|⟨g',cap,cur,e,-,-,h3,h4,-⟩
 ·cases e
 ·cases e;exact⟨_,_,rfl,by omega,h4,hb7⟩
theorem usort1{w:World}{U kg kc gg gc cl cc:Nat}{cp:Option Addr}{tv:Value}{t nm:ByteArray}{ar:Int}{ex:Bool}{code:List LIns}(hU:V3 w U (.slice (some ⟨kg,0,none⟩) 1 kc) tv (.slice (some ⟨gg,0,none⟩) 1 gc))(hk:w.cell? ⟨kg,0,none⟩=some (.string t))
 (h0:w.cell? ⟨gg,0,none⟩=some (.string nm)) (h1:w.cell? ⟨gg,1,none⟩=some (.int .i64 ar)) (h2:w.cell? ⟨gg,2,none⟩=some (.bool ex)) (h3:w.cell? ⟨gg,3,none⟩=some (.slice cp cl cc)) (hC:CodeAt w (.slice cp cl cc) code) (hn:∀x∈code,x.op≠1):
 Calls Tryz.prog 43 #[.pointer (some ⟨U,0,none⟩),.int .i64 0] w λe w'=>e=.returned (.tuple #[])∧Below w.heap.size w w':=by
 obtain⟨p',cap',e',hs1,hca⟩:=hC.open;obtain⟨rfl,rfl,rfl⟩:cp=p'∧cl=code.length∧cc=cap':=by simpa using e'
 have HC:Hid (∀w',Below w.heap.size w w'->CodeIn w' cp code):=hca;have HN:=hid hn;obtain⟨u0,u1,u2,uf⟩:=hU;have HCL:=hid (clone1 (c:=kc) hk);have HG:=hid (And.intro h0 (And.intro h1 (And.intro h2 h3)));have HU2:=hid u2;clear hC hca e' uf hn hk;go_enter Tryz.func43,Tryz.ntmps43;go_wp2_with (first
  |(go_at_call 83;refine(sortG_01 _ 1 _ _ (by omega) _).mono ?_;rintro e w1 ⟨rfl,hw1⟩;subst w1)
  |(go_at_call 85;refine HCL.out.mono ?_;rintro e w2 ⟨q,k,rfl,hk1,hk2,hb2⟩;have HB2:=hid hb2;have v2:=cell_keep hb2 HU2.out;clear hb2)
  |(go_at_call 86;refine(sortS_01 _ 1 _ (by omega) _).mono ?_;rintro e w3 ⟨rfl,hw3⟩;subst w3))
 go_loopw [28] (λi wr=>∃j:Nat,j<=1∧i=.int .i64 (j:Int)∧Hid (Below w.heap.size w wr)) (λi _=>1-(intOf i).toNat)
 case atStart=>exact⟨0,Nat.zero_le _,rfl,HB2.out⟩
 case round=>
  obtain⟨j,hj,rfl,HB⟩:=hrel;rename World=>wr
  by_cases hlt:j<1
  ·obtain rfl:j=0:=by omega
   have g0:=cell_keep HB.out HG.out.1;have g1:=cell_keep HB.out HG.out.2.1;have g2:=cell_keep HB.out HG.out.2.2.1;have g3:=cell_keep HB.out HG.out.2.2.2;go_wp2;go_loopw [35] (λi wr=>∃k:Nat,k<=code.length∧i=.int .i64 (k:Int)∧Hid (Below w.heap.size w wr)) (λi _=>code.length-(intOf i).toNat)
   case atStart=>exact⟨0,Nat.zero_le _,rfl,HB.out.alloc HB.out.size _⟩
   case round=>
    obtain⟨k,hk,rfl,HBk⟩:=hrel;rename World=>wk
    by_cases hlk:k<code.length
    ·obtain⟨b,o,ap,an,ac,rfl,x0,x1,x2,-⟩:=HC.out _ HBk.out k hlk;have hop:=HN.out _ (List.getElem_mem hlk);have hk1:(0:Int)<=(k:Int):=by omega
     have hk2:(k:Int)<(code.length:Int):=by omega
     generalize code[k].op=op at*;generalize code[k].a=a at*;go_wp2;exact⟨⟨k+1,by omega,by go_num,HBk.out.alloc HBk.out.size _⟩,by simp[intOf];omega⟩
    ·go_wp2;exact⟨⟨1,by omega,by go_num,HBk.out⟩,by simp[intOf]⟩
  ·obtain rfl:j=1:=by omega
   go_wp2;refine bodyPost_end (results_none rfl _ _ _) rfl ?_;exact⟨rfl,HB.out⟩
theorem texts0(pp:Option Addr)(pc:Nat)(w:World):Calls Tryz.prog 41 #[.slice pp 0 pc] w λe w'=>e=.returned (.slice none 0 0)∧w'=w:=by
 go_enter Tryz.func41,Tryz.ntmps41;go_wp2;go_loopw [3,8] (λl i wr=>l=.slice none 0 0∧i=.int .i64 0∧wr=w) (λ_ _ _=>0)
 case atStart=>exact⟨rfl,rfl,rfl⟩
 case round=>
  obtain⟨rfl,rfl,rfl⟩:=hrel;go_wp2;go_ret;exact⟨rfl,rfl⟩
theorem V3.new3(w:World)(a b c:Value)(T:TypeId):V3 (w.alloc (.cells #[a,b,c] T)) w.heap.size a b c:=⟨by simp,by simp,by simp,λj=>by simp⟩
structure MdS (w:World) (nm:ByteArray) (iv dv:Value) (wr:World):Prop where
 low:Below w.heap.size w wr
 m:V3 wr w.heap.size (.string nm) iv dv
 r:V3 wr (w.heap.size+1) (.string ⟨#[]⟩) (.slice none 0 0) (.slice none 0 0)
theorem MdS.next{w:World}{nm:ByteArray}{iv dv:Value}{wr wr':World}(h:MdS w nm iv dv wr)(hb:Below (w.heap.size+2) wr wr'):MdS w nm iv dv wr':=⟨h.low.trans (hb.mono (by omega)),h.m.of_block (hb.block _ (by omega)),h.r.of_block (hb.block _ (by omega))⟩
def UnS(w:World)(kn:List ByteArray)(ts:List TT)(wr:World):Prop:=∃kv tv,UMem (w.heap.size+2) wr (w.heap.size+2) kn ts kv tv (.slice none 0 0)
theorem UnS.keep{w:World}{kn:List ByteArray}{ts:List TT}{wr wr':World}(h:UnS w kn ts wr)(hb:Below wr.heap.size wr wr'):UnS w kn ts wr':=by
 obtain⟨kv,tv,h⟩:=h;exact⟨kv,tv,h.keep hb⟩
def tsk(t:ByteArray)(n:Int):TT:=(t,(.slice none 0 0,[]),(.iface 374 (.agg #[.int .i64 n]),.num n,[]))
theorem un_le{w wr:World}{kn:List ByteArray}{ts:List TT}(h:UnS w kn ts wr):w.heap.size+2<=wr.heap.size:=by obtain⟨_,_,h⟩:=h;exact Nat.le_of_lt h.u.lt
def tdLen(w:World)(U:Nat):Nat:=match w.cell? ⟨U,1,none⟩ with|some (.slice _ n _)=>n|_=>0
theorem tdLen_of{w:World}{U:Nat}{p:Option Addr}{n c:Nat}(h:w.cell? ⟨U,1,none⟩=some (.slice p n c)):tdLen w U=n:=by unfold tdLen;rw[h]
def C4(w:World)(g:Nat)(a b c d:Value):Prop:=w.cell? ⟨g,0,none⟩=some a∧w.cell? ⟨g,1,none⟩=some b∧w.cell? ⟨g,2,none⟩=some c∧w.cell? ⟨g,3,none⟩=some d
theorem C4.of_block{w w':World}{g:Nat}{a b c d:Value}(h:C4 w g a b c d)(e:w'.heap[g]?=w.heap[g]?):C4 w' g a b c d:=by
 have hc:∀j,w'.cell? ⟨g,j,none⟩=w.cell? ⟨g,j,none⟩:=λj=>World.cell?_of_block (a:=⟨g,j,none⟩) e;exact⟨by rw[hc];exact h.1,by rw[hc];exact h.2.1,by rw[hc];exact h.2.2.1,by rw[hc];exact h.2.2.2⟩
theorem MdS.drew{w:World}{nm:ByteArray}{iv dv:Value}{wr:World}(h:MdS w nm iv dv wr):MdS w nm iv dv wr.drew:=⟨below_drew3 h.low,⟨h.m.c0,h.m.c1,h.m.c2,h.m.f⟩,⟨h.r.c0,h.r.c1,h.r.c2,h.r.f⟩⟩
theorem taken{w wr:World}{nm t:ByteArray}{n:Int}{iv dv kv v:Value}{tg tc:Nat}{p:Option Addr}{c:Nat}(hS:MdS w nm iv dv wr)(hu:UMem (w.heap.size+2) wr (w.heap.size+2) [t] [tsk t n] kv (.slice (some ⟨tg,0,none⟩) 1 tc) (.slice none 0 0))(hv:v=.slice p 0 c)(hp:v.ownBlock=some tg)(o:Obj):
 MdS w nm iv dv ((wr.alloc o).setCell ⟨w.heap.size+2,1,none⟩ v).drew∧UMx (w.heap.size+2) ((wr.alloc o).setCell ⟨w.heap.size+2,1,none⟩ v).drew (w.heap.size+2) [t] [] kv v (.slice none 0 0):=by
 have al:Below wr.heap.size wr (wr.alloc o):=(Below.refl _ _).alloc (Nat.le_refl _) _;have hz:=un_le (w:=w) (wr:=wr) ⟨_,_,hu⟩;have ha:=hu.keep al;have hnd:=hu.nd;have hB:umB (w.heap.size+2) kv v []=(w.heap.size+2)::(vB kv++[tg]):=by unfold umB rowB;rw[vB_own hp];simp
 have hB':umB (w.heap.size+2) kv (.slice (some ⟨tg,0,none⟩) 1 tc) [tsk t n]=(w.heap.size+2)::(vB kv++[tg]):=by unfold umB rowB tsk ttS;simp[vB,Value.ownBlock]
 rw[hB']at hnd;have hne:∀b∈vB kv++[tg],b≠w.heap.size+2:=λb hb e=>(List.nodup_cons.1 hnd).1 (e▸hb);have hkeep:∀b,b≠w.heap.size+2->((wr.alloc o).setCell ⟨w.heap.size+2,1,none⟩ v).drew.heap[b]?=(wr.alloc o).heap[b]?:=λb hb=>Below.heap_setCell _ _ _ _ hb;have hsz:(wr.alloc o).heap.size<=((wr.alloc o).setCell ⟨w.heap.size+2,1,none⟩ v).drew.heap.size:=by show _<=((wr.alloc o).setCell ⟨w.heap.size+2,1,none⟩ v).heap.size;simp
 refine⟨(hS.next (((al.mono hz).setCell (Nat.le_refl _) v))).drew,⟨?_,ha.kn.fr okStr hsz λb hb=>hkeep b (hne b (List.mem_append_left _ (rowB_plain hb))),Or.inr ⟨rfl,⟨_,_,hv⟩,λb hb=>?_⟩,by rw[hB];exact hnd,Nat.le_refl _⟩⟩
 ·obtain⟨a0,a1,a2,af⟩:=ha.u;have o1:∀j,j≠1->((wr.alloc o).setCell ⟨w.heap.size+2,1,none⟩ v).cell? ⟨w.heap.size+2,j,none⟩=(wr.alloc o).cell? ⟨w.heap.size+2,j,none⟩:=λj hj=>World.cell?_setCell_other _ _ _ _ (off_ne (Ne.symm hj));exact⟨(o1 0 (by omega)).trans a0,World.cell?_setCell_same _ _ _ a1,(o1 2 (by omega)).trans a2,λj=>by show World.frozen? (World.setCell _ _ _) _=false;rw[World.frozen?_setCell];exact af j⟩
 ·rw[vB_own hp]at hb;obtain rfl:=List.mem_singleton.1 hb;have:=hu.rg b (by rw[hB'];simp);exact⟨this.1,Nat.lt_of_lt_of_le this.2 (Nat.le_trans al.size hsz)⟩
theorem set3_old{w:World}{X b j:Nat}{v:Value}(h:w.cell? ⟨b,j,none⟩=some v)(hb:b≠X)(u0 u1 u2:Value):(((w.setCell ⟨X,0,none⟩ u0).setCell ⟨X,1,none⟩ u1).setCell ⟨X,2,none⟩ u2).cell? ⟨b,j,none⟩=some v:=by
 rw[World.cell?_of_block (a:=⟨b,j,none⟩) (Below.heap_setCell _ _ _ _ hb),World.cell?_of_block (a:=⟨b,j,none⟩) (Below.heap_setCell _ _ _ _ hb),World.cell?_of_block (a:=⟨b,j,none⟩) (Below.heap_setCell _ _ _ _ hb)];exact h
theorem set3_new{w:World}{X:Nat}{y0 y1 y2:Value}(h:V3 w X y0 y1 y2)(u0 u1 u2:Value):(((w.setCell ⟨X,0,none⟩ u0).setCell ⟨X,1,none⟩ u1).setCell ⟨X,2,none⟩ u2).cell? ⟨X,0,none⟩=some u0∧(((w.setCell ⟨X,0,none⟩ u0).setCell ⟨X,1,none⟩ u1).setCell ⟨X,2,none⟩ u2).cell? ⟨X,1,none⟩=some u1∧(((w.setCell ⟨X,0,none⟩ u0).setCell ⟨X,1,none⟩ u1).setCell ⟨X,2,none⟩ u2).cell? ⟨X,2,none⟩=some u2:=by
 have o:∀(w:World) (i j:Nat) (u:Value),i≠j->(w.setCell ⟨X,i,none⟩ u).cell? ⟨X,j,none⟩=w.cell? ⟨X,j,none⟩:=λw i j u hij=>World.cell?_setCell_other _ _ _ _ (off_ne hij);refine⟨?_,?_,?_⟩
 ·rw[o _ 2 0 _ (by omega),o _ 1 0 _ (by omega)];exact World.cell?_setCell_same _ _ _ h.c0
 ·rw[o _ 2 1 _ (by omega)];exact World.cell?_setCell_same _ _ _ (by rw[o _ 0 1 _ (by omega)];exact h.c1)
 ·exact World.cell?_setCell_same _ _ _ (by rw[o _ 1 2 _ (by omega),o _ 0 2 _ (by omega)];exact h.c2)
theorem Tryz.gloI5:(Tryz.prog.info? 76).map (λi=>(i.zero,i.size,i.bytes))=some (some (.agg #[.string ⟨#[]⟩,.int .i64 0,.bool false,.slice none 0 0]),4,56):=by kernel_rfl
theorem grown_u{w5 w7:World}{U:Nat}{a b c:Value}{o:Obj}(h:V3 w5 U a b c)(hg:(w5.alloc o).grownBy w7 none):w7.cell? ⟨U,2,none⟩=some c∧w7.frozen? ⟨U,2,none⟩=false:=by
 have hl:=h.lt;have v7:V3 w7 U a b c:=h.of_block (by rw[hg.block U (by simp;omega) (by simp)];exact heap_alloc_old _ _ hl);exact⟨v7.c2,v7.f 2⟩
theorem tq_op(x:Value)(w:World):Sem.run Tryz.prog (Instr.typeAssert (.iface 339 x) 124 339 true) w=.ok (.tuple #[x,.bool true]) w:=by kernel_rfl
theorem tq_let(x:Value)(w:World):Sem.run Tryz.prog (Instr.typeAssert (.iface 339 x) 124 272 true) w=.ok (.tuple #[.agg #[.bool false,.slice none 0 0,.slice none 0 0,.nilIface],.bool false]) w:=by kernel_rfl
theorem tq_case(x:Value)(w:World):Sem.run Tryz.prog (Instr.typeAssert (.iface 339 x) 124 276 true) w=.ok (.tuple #[.agg #[.nilIface,.slice none 0 0],.bool false]) w:=by kernel_rfl
def cOp(k:Nat)(a b:Int)(st:CSt):CSt:=cPut (9+k) 0 (cPut 0 b (cPut 0 a st))
section
variable {G:TT->Prop} {lo:Nat} {w:World} {K U:Nat} {nm:ByteArray} {st:CSt} {gv:Value} {B:List Nat}
theorem CRes.cell{b j:Nat}{v:Value}{w w':World}{st:CSt}{e:Ending}(h:CRes G lo K U nm gv B w st e w')(hx:w.cell? ⟨b,j,none⟩=some v)(hb:b∉B):w'.cell? ⟨b,j,none⟩=some v:=by
 rw[World.cell?_of_block (a:=⟨b,j,none⟩) (h.2.1.block b (block_lt_of_cell hx) hb)];exact hx
theorem value_op(k:Nat)(hk:k<6)(a b:Int)(hlo:24<lo)(hT:TabAt w)(h:CM G lo w K U nm st gv B)(hl:st.code.length<=1000):
 Calls Tryz.prog 132 #[.pointer (some ⟨K,0,none⟩),.iface 339 (.agg #[.int .i64 (9+(k:Int)),.iface 374 (.agg #[.int .i64 a]),.iface 374 (.agg #[.int .i64 b])])] w λe w'=>CRes G lo K U nm gv B w (cOp k a b st) e w':=by
 have hta1:=tq_let;have hta2:=tq_case;have hta3:=tq_op;obtain⟨W0,hW0⟩:∃W0,W0=w.alloc (.cells #[.int .i64 (9+(k:Int)),.iface 374 (.agg #[.int .i64 a]),.iface 374 (.agg #[.int .i64 b])] 339):=⟨_,rfl⟩;have hb:Below w.heap.size w W0:=by rw[hW0];exact(Below.refl _ _).alloc (Nat.le_refl _) _
 have hz:W0.heap.size=w.heap.size+1:=by rw[hW0];simp
 have x0:W0.cell? ⟨w.heap.size,0,none⟩=some (.int .i64 (9+(k:Int))):=by rw[hW0];simp
 have x1:W0.cell? ⟨w.heap.size,1,none⟩=some (.iface 374 (.agg #[.int .i64 a])):=by rw[hW0];simp
 have x2:W0.cell? ⟨w.heap.size,2,none⟩=some (.iface 374 (.agg #[.int .i64 b])):=by rw[hW0];simp
 have hBl:∀b∈B,b<w.heap.size:=λb hb=>(h.rg b hb).2;have hnB:w.heap.size∉B:=λhm=>by have:=hBl _ hm;omega
 have HA0:=hid (AF.of_below (X:=B) hb);have HM0:=hid (h.keep hb);have HT0:=hid (hT.keep hb);have HV:=hid (value_num a hlo HT0.out HM0.out (by omega));have HX1:=hid x1;have HX0:=hid x0;have HX2:=hid x2;have HNB:=hid hnB;have HZ:=hid hz;have HK:=hid hk;clear h hT hb hnB hBl hz x0 x2;go_enter Tryz.func132,Tryz.ntmps132;go_upto_region 13 with(fail)
 rw[<-hW0];clear hW0;go_upto_region 14 with(go_at_call 132;refine HV.out.mono ?_;intro e w2 hr;have x2:=hr.cell HX2.out HNB.out;have HY0:=hid (hr.cell HX0.out HNB.out);obtain⟨rfl,hA2,B1,hM2,hB1⟩:=hr;have HA2:=hid (HA0.out.trans hA2 (λb hb=>Or.inl hb));have HB1:Hid (∀b∈B1,b∈B∨w.heap.size<=b):=(λb hb=>by rcases hB1 b hb with h3|h3;exact Or.inl h3;right;have:=HZ.out;omega);have HN1:Hid (w.heap.size∉B1):=(λhm=>by rcases hB1 _ hm with h3|h3;exact HNB.out h3;have:=HZ.out;omega);have HM2:=hid hM2;have HT2:=hid (tab_low HT0.out (HM0.out.low hA2) hlo);have HV2:=hid (value_num b hlo HT2.out hM2 (by rw[cput_dep];omega));have HS2:=hid (Nat.le_of_lt (Nat.lt_of_lt_of_le (show w.heap.size<W0.heap.size by have:=HZ.out;omega) hA2.size));clear hA2 hM2 hB1 x1)
 go_upto_region 15 with(go_at_call 132;refine HV2.out.mono ?_;intro e w3 hr;have x0:=hr.cell HY0.out HN1.out;have HR3:=hid (CRes.trans HA2.out HB1.out hr);obtain⟨rfl,hA3,B2,hM3,hB2⟩:=hr;have HA3:=hid (HA2.out.trans hA3 HB1.out);have HB2:Hid (∀b∈B2,b∈B∨w.heap.size<=b):=(λb hb=>by rcases hB2 b hb with h3|h3;exact HB1.out b h3;right;have:=HS2.out;omega);have HT3:=hid (tab_low HT2.out (HM2.out.low hA3) hlo);have HP3:=hid (put_any (9+k) 0 (by have:=HK.out;omega) hlo HT3.out hM3 (by rw[cput_dep,cput_dep];omega));clear hA3 hM3 hB2 x2)
 have hcast:((9+k:Nat):Int)=9+(k:Int):=by omega
 rw[hcast]at HP3;clear hcast;go_wp2_with (go_at_call 134;refine HP3.out.mono ?_;intro e w4 hr;obtain⟨rfl,-⟩:=id hr;have HR4:=hid (CRes.trans HA3.out HB2.out hr);clear hr)
 refine bodyPost_end (results_none rfl _ _ _) rfl ?_;exact HR4.out
theorem cop_len(k:Nat)(a b:Int)(c:CSt):(cOp k a b c).code.length=c.code.length+3:=by unfold cOp;rw[cput_dep,cput_dep,cput_dep]
theorem op_dep{k:Nat}{a b:Int}{c:CSt}(hk:k<6)(hd:c.dep=1):(cOp k a b c).dep=2∧(cUpd 0 (cOp k a b c)).dep=1:=by
 have h1:(cPut 0 a c).dep=2:=(num_dep hd).1;have h2:(cPut 0 b (cPut 0 a c)).dep=3:=by
  show behV 0 b (cPut 0 a c).dep=3;rw[h1];simp[behV,rowN,rowsTab];kernel_rfl
 have h3:(cOp k a b c).dep=2:=by
  show behV (9+k) 0 (cPut 0 b (cPut 0 a c)).dep=2;rw[h2];rcases(show k=0∨k=1∨k=2∨k=3∨k=4∨k=5 by omega) with rfl|rfl|rfl|rfl|rfl|rfl<;>kernel_rfl
 refine⟨h3,?_⟩;show behV 5 ((cOp k a b c).dep-2-0) (cOp k a b c).dep=1;rw[h3];simp[behV,rowN,rowsTab];kernel_rfl
theorem result_op(k:Nat)(hk:k<6)(a b:Int)(hlo:24<lo)(hT:TabAt w)(h:CM G lo w K U nm st gv B)(hl:st.code.length<=1000)(hd:st.dep=1):
 Calls Tryz.prog 81 #[.pointer (some ⟨K,0,none⟩),.iface 339 (.agg #[.int .i64 (9+(k:Int)),.iface 374 (.agg #[.int .i64 a]),.iface 374 (.agg #[.int .i64 b])])] w λe w'=>CRes G lo K U nm gv B w (cPut 19 0 (cUpd 0 (cOp k a b st))) e w':=by
 have hta1:=tq_let;have hta2:=tq_case;have hb:Below w.heap.size w (w.alloc (.cells #[.pointer (some ⟨K,0,none⟩)] 207)):=(Below.refl _ _).alloc (Nat.le_refl _) _;have hx:(w.alloc (.cells #[.pointer (some ⟨K,0,none⟩)] 207)).cell? ⟨w.heap.size,0,none⟩=some (.pointer (some ⟨K,0,none⟩)):=by simp
 have hz:(w.alloc (.cells #[.pointer (some ⟨K,0,none⟩)] 207)).heap.size=w.heap.size+1:=by simp
 have hBl:∀b∈B,b<w.heap.size:=λb hb=>(h.rg b hb).2;have h1:=h.keep hb;have hT1:=hT.keep hb;have hA1:=AF.of_below (X:=B) hb;obtain⟨d1,d2⟩:=op_dep (a:=a) (b:=b) hk hd;have hc:=cop_len k a b st;have hnB:w.heap.size∉B:=λhm=>by have:=hBl _ hm;omega
 have HV:=hid (value_op k hk a b hlo hT1 h1 hl);have HX1:=hid hx;have HT1:=hid hT1;have HM1:=hid h1;have HA1:=hid hA1;have HNB:=hid hnB;have HZ:=hid hz;clear h hT hb h1 hT1 hA1 hnB hBl hz;go_enter Tryz.func81,Tryz.ntmps81;go_wp2_with (first
  |(go_at_call 132;refine HV.out.mono ?_;intro e w2 hr;have x2:=hr.box hx HNB.out;obtain⟨rfl,hA2,B1,hM2,hB1⟩:=hr;have HA2:=hid (HA1.out.trans hA2 (λb hb=>Or.inl hb));have HL2:=hid (HM1.out.low hA2);have HS2:=hid hA2.size;have HM2:=hid hM2;have HB1:=hid hB1;have HT2:=hid (tab_low HT1.out HL2.out hlo);have HN1:Hid (w.heap.size∉B1):=(λhm=>by rcases HB1.out _ hm with h3|h3;exact HNB.out h3;have:=HZ.out;omega);clear hA2 hM2 hB1)
  |(go_at_call 133;refine(update_any 0 hlo HT2.out HM2.out (by rw[hc];omega) (by omega) (by omega)).mono ?_;intro e w3 hr;have x3:=hr.box x2 HN1.out;obtain⟨rfl,hA3,B2,hM3,hB2⟩:=hr;have HA3:=hid hA3;have HL3:=hid (HM2.out.low hA3);have HM3:=hid hM3;have HB2:=hid hB2;have HT3:=hid (tab_low HT2.out HL3.out hlo);obtain⟨cs3,ts3,cv3,lv3,kv3,tv3,hm3,-,-⟩:=hM3;have k3:=hm3.k.c3;rw[d2]at k3;clear hA3 hB2 hm3)
  |(go_at_call 134;refine(put_any 19 0 (by omega) hlo HT3.out HM3.out (by unfold cUpd;rw[cput_dep,hc];omega)).mono ?_;intro e w4 hr;obtain⟨rfl,-⟩:=id hr;have HR4:=hid hr;clear hr))
 refine bodyPost_end (results_none rfl _ _ _) rfl ?_;have hz:=HZ.out;have hs:=HS2.out;refine CRes.trans (HA2.out.trans HA3.out λb hb=>?_) (λb hb=>?_) HR4.out
 ·rcases HB1.out b hb with h3|h3
  ·exact Or.inl h3
  ·right;omega
 ·rcases HB2.out b hb with h3|h3
  ·rcases HB1.out b h3 with h4|h4
   ·exact Or.inl h4
   ·right;omega
  ·right;omega
end
end Go.Proofs.YtblobglfjhilmaaGreatDoor
