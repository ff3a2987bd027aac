import Derived.Test.YtdpodpjdcfjfgaaGreatDoorJ9J
set_option maxRecDepth 100000
set_option maxHeartbeats 1000000
namespace Go.Proofs.YtdpodpjdcfjfgaaGreatDoor
open Go.RowKit Go.Sort
def mIns(x:LIns×Value):List Value:=[.int .i64 x.1.op,.int .i64 x.1.a,x.2]
def mIz:List Value:=[.int .i64 0,.int .i64 0,.slice none 0 0]
def MC(lo:Nat)(w:World)(v:Value)(l:List LIns):Prop:=∃B,∃L:List (LIns×Value),lo<=B∧v=.slice (some ⟨B,0,none⟩) l.length l.length∧L.map (·.1)=l∧FB w B (l.length*3) (rowF 3 mIz (L.map mIns))∧∀x∈L,MA (B+1) w x.2 x.1.alts
theorem MC.keep{lo:Nat}{w w':World}{v:Value}{l:List LIns}(h:MC lo w v l)(hb:Below w.heap.size w w'):MC lo w' v l:=by
 obtain⟨B,L,h1,h2,h3,h4,h5⟩:=h;exact⟨B,L,h1,h2,h3,h4.keep hb,λx hx=>(h5 x hx).keep hb⟩
def NumsAt(w:World)(v:Value)(ns:List Int):Prop:=∃p cap,v=.slice p ns.length cap∧∀i (h:i<ns.length),∃b o,p=some ⟨b,o,none⟩∧w.cell? ⟨b,o+i,none⟩=some (.int .i64 ns[i])
theorem NumsAt.keep{w w':World}{v:Value}{ns:List Int}(h:NumsAt w v ns)(hb:Below w.heap.size w w'):NumsAt w' v ns:=by
 obtain⟨p,cap,e,hc⟩:=h;refine⟨p,cap,e,λi hi=>?_⟩;obtain⟨b,o,e2,h0⟩:=hc i hi;exact⟨b,o,e2,cell_keep hb h0⟩
structure GoodI (n:Nat) (i:LIns):Prop where
 g:i.op=1->0<=i.a∧i.a<(n:Int)
 l:i.alts.length<=65536
 a:∀x∈i.alts,0<=x.tag∧x.tag<256∧0<=x.to∧x.to<65536
def cdI(ns:List Int)(i:LIns):LIns:=if i.op=1 then {i with a:=ns[i.a.toNat]?.getD 0} else i
theorem Tryz.mInsI:(Tryz.prog.info? 407).map (λi=>(i.zero,i.size,i.bytes))=some (some (.agg #[.int .i64 0,.int .i64 0,.slice none 0 0]),3,40):=by kernel_rfl
theorem mIns_make(n:Nat)(hn:n<=65536)(w:World):(Instr.makeSlice 244 (.int .i64 (n:Int)) (.int .i64 (n:Int))).run Tryz.prog w=.ok (.slice (some ⟨w.heap.size,0,none⟩) n n) (w.alloc (.cells (madeCells #[.int .i64 0,.int .i64 0,.slice none 0 0] (n*3)) 407)):=by
 obtain⟨i,hi,hii⟩:=Option.map_eq_some_iff.1 Tryz.mInsI;simp only[Prod.mk.injEq]at hii;obtain⟨hz0,hz1,hz2⟩:=hii;rw[run_make (P:=Tryz.prog) w 244 407 i _ Tryz.underlying244 hi hz0 .i64 .i64 n n (by omega) (by omega) (by rw[hz2];omega) (by omega),hz1];simp[Value.cells]
structure CoS (code:List LIns) (ns:List Int) (w wr:World) (k:Nat):Prop where
 low:Below w.heap.size w wr
 l:∃L:List (LIns×Value),L.map (·.1)=(code.take k).map (cdI ns)∧FB wr w.heap.size (code.length*3) (rowF 3 mIz (L.map mIns))∧∀x∈L,MA (w.heap.size+1) wr x.2 x.1.alts
theorem CoS.next{code:List LIns}{ns:List Int}{w wr w5:World}{k:Nat}(h:CoS code ns w wr k)(hk:k<code.length)(hb:Below wr.heap.size wr w5){av:Value}(hm:MA (w.heap.size+1) w5 av code[k].alts){op a:Int}(he:cdI ns code[k]=⟨op,a,code[k].alts⟩):
 (∃v0 v1 v2,w5.cell? ⟨w.heap.size,k*3,none⟩=some v0∧w5.cell? ⟨w.heap.size,k*3+1,none⟩=some v1∧w5.cell? ⟨w.heap.size,k*3+2,none⟩=some v2)∧(∀j,w5.frozen? ⟨w.heap.size,j,none⟩=false)∧CoS code ns w (((w5.setCell ⟨w.heap.size,k*3,none⟩ (.int .i64 op)).setCell ⟨w.heap.size,k*3+1,none⟩ (.int .i64 a)).setCell ⟨w.heap.size,k*3+2,none⟩ av) (k+1):=by
 obtain⟨hl,L,h1,h2,h3⟩:=h;have hL:L.length=k:=by have:=congrArg List.length h1;simp at this;omega
 have h2':=h2.keep hb;refine⟨⟨_,_,_,h2'.c _ (by omega),h2'.c _ (by omega),h2'.c _ (by omega)⟩,h2'.fz,?_⟩;have hz:=hl.size;refine⟨(((hl.trans (hb.mono hz)).setCell (Nat.le_refl _) _).setCell (Nat.le_refl _) _).setCell (Nat.le_refl _) _,L++[(⟨op,a,code[k].alts⟩,av)],?_,?_,λx hx=>?_⟩
 ·rw[List.map_append,List.take_succ_eq_append_getElem hk,List.map_append,h1];simp[he]
 ·rw[List.map_append];exact h2'.put3 (by simp[hL]) hk _ _ _
 ·refine((?_:MA _ w5 x.2 x.1.alts).set (Nat.lt_succ_self _) _|>.set (Nat.lt_succ_self _) _).set (Nat.lt_succ_self _) _;rcases List.mem_append.1 hx with hx|hx
  ·exact(h3 x hx).keep hb
  ·obtain rfl:=List.mem_singleton.1 hx;exact hm
theorem codeOf_any(code:List LIns)(cv:Value)(ns:List Int)(nv:Value)(w:World)(h:CodeAt w cv code)(hN:NumsAt w nv ns)(hl:code.length<=65536)(hg:∀i∈code,GoodI ns.length i):
 Calls Tryz.prog 164 #[cv,nv] w λe w'=>Below w.heap.size w w'∧∃B,e=.returned (.slice (some ⟨B,0,none⟩) code.length code.length)∧MC w.heap.size w' (.slice (some ⟨B,0,none⟩) code.length code.length) (code.map (cdI ns)):=by
 obtain⟨p,cap,rfl,hs,hI⟩:=h.open;obtain⟨np,nc,rfl,hnc⟩:=id hN;have HI:=hid hI;have HN:=hid hN;have HG:=hid (λk (hk:k<code.length)=>hg code[k] (List.getElem_mem _));have hmk:=mIns_make code.length hl;clear h hI hg hN hnc;go_enter Tryz.func164,Tryz.ntmps164;go_wp2;go_loopw [13] (λkv wr=>∃k:Nat,k<=code.length∧kv=.int .i64 (k:Int)∧Hid (CoS code ns w wr k)) (λkv _=>code.length-(intOf kv).toNat)
 case atStart=>exact⟨0,Nat.zero_le _,rfl,(Below.refl _ _).alloc (Nat.le_refl _) _,[],rfl,FB.made w _ _ _ (by simp),λx hx=>by cases hx⟩
 case round=>
  obtain⟨k,hk,rfl,HS⟩:=hrel;rename World=>wr
  by_cases hlt:k<code.length
  ·have h0:(0:Int)<=(k:Int):=by omega
   have h1:(k:Int)<(code.length:Int):=by omega
   obtain⟨b,o,ap,an,ac,rfl,c0,c1,c2,hal⟩:=HI.out _ HS.out.low k hlt;obtain⟨g1,g2,g3⟩:=HG.out k hlt;have hz:=HS.out.low.size;have HAL:=hid (λX (hb:Below wr.heap.size wr X)=>(altsOf_any code[k].alts _ X (hal.keep hb) g2 g3));have HNX:=hid (λw5 (hb:Below wr.heap.size wr w5) (av:Value) (hm:MA (w.heap.size+1) w5 av code[k].alts) op a he=>HS.out.next hlt hb hm (op:=op) (a:=a) he);obtain⟨ap',ac',e,-,-⟩:=hal.open;have han:an=code[k].alts.length:=by injection e
   have HLW:=hid HS.out.low;have hbl:w.heap.size+1<=wr.heap.size:=by
    obtain⟨L,-,h2,-⟩:=HS.out.l;have:=h2.lt;omega
   clear hal HS e;obtain⟨⟨op,a,al⟩,hx⟩:∃x,code[k]=x:=⟨_,rfl⟩;rw[hx]at c0 c1 g1 HAL HNX han;dsimp only at c0 c1 g1 HAL HNX han;clear hx g2 g3;subst han;go_upto_region 4 with fail
   go_cut [7,6] (λq kq wx=>q=.pointer (some ⟨wr.heap.size,0,none⟩)∧kq=.int .i64 (k:Int)∧wx=wr.alloc (.cells #[.int .i64 op,.int .i64 a,.slice ap al.length ac] 127))
   case first=>
    go_wp2;go_meet
    exact⟨rfl,rfl,rfl⟩
   case rest=>
   obtain⟨rfl,rfl,rfl⟩:=hcut;go_step
   go_step
   go_cut [] (λwx=>Hid (C3 wx wr.heap.size (.int .i64 op) (.int .i64 (cdI ns ⟨op,a,al⟩).a) (.slice ap al.length ac)∧Below wr.heap.size wr wx))
   case first=>
    by_cases hop:op=1
    ·subst hop;obtain⟨ha0,ham⟩:=g1 rfl;obtain⟨m,rfl⟩:∃m:Nat,a=(m:Int):=⟨a.toNat,by omega⟩;have hm:m<ns.length:=by omega
     obtain⟨p2,c2',e,hnc⟩:=HN.out.keep HLW.out;cases e;obtain⟨nb,no,rfl,n0⟩:=hnc m hm;have n0a:=λob=>alloc_old wr ob _ _ _ n0;have HE:Hid ((cdI ns ⟨1,(m:Int),al⟩).a=ns[m]):=by
      show _=_;unfold cdI;simp[hm]
     clear hnc;go_wp2;go_meet
     rw[HE.out];exact⟨C3.new wr _ _ _ _,(Below.refl _ _).alloc (Nat.le_refl _) _⟩
    ·have HE:Hid ((cdI ns ⟨op,a,al⟩).a=a):=by
      show _=_;unfold cdI;simp[hop]
     go_wp2;go_meet
     rw[HE.out];exact⟨C3.new wr _ _ _ _,(Below.refl _ _).alloc (Nat.le_refl _) _⟩
   case rest=>
    rename World=>wx
    obtain⟨s0,s1,s2,-⟩:=hcut.out.1;have HBX:=hid hcut.out.2;have HCD:Hid (cdI ns ⟨op,a,al⟩=⟨op,(cdI ns ⟨op,a,al⟩).a,al⟩):=by
     show _=_;unfold cdI;split<;>rfl
    generalize (cdI ns ⟨op,a,al⟩).a=a' at*;have HA2:=hid (HAL.out wx.drew HBX.out.drew);have hzx:=HBX.out.size;have t0:wx.drew.cell? ⟨wr.heap.size,0,none⟩=_:=s0;have t1:wx.drew.cell? ⟨wr.heap.size,1,none⟩=_:=s1;have t2:wx.drew.cell? ⟨wr.heap.size,2,none⟩=_:=s2;have HST:=hid (λw5 (hb5:Below wx.drew.heap.size wx.drew w5) (B5:Nat) (hm5:MA wx.drew.heap.size w5 (.slice (some ⟨B5,0,none⟩) al.length al.length) al)=>HNX.out w5 (HBX.out.drew.trans (hb5.mono hzx)) _ (hm5.low (Nat.le_trans hbl hzx)) op a' HCD.out);clear hcut c0 c1 c2 HNX HAL;go_upto_region 7 with fail
    go_region_held_law (λw'=>w'.cell? ⟨wr.heap.size,0,none⟩=some (.int .i64 op)∧w'.cell? ⟨wr.heap.size,1,none⟩=some (.int .i64 a')∧w'.cell? ⟨wr.heap.size,2,none⟩=some (.slice ap al.length ac)) (refine⟨?_,?_,?_⟩<;>(first|assumption|(rw[World.cell?_setCell_far _ _ _ _ (by simp;omega),World.cell?_setCell_far _ _ _ _ (by simp;omega),World.cell?_setCell_far _ _ _ _ (by simp;omega)];assumption)))
     (first
      |(go_at_call 223;refine HA2.out.mono ?_;rintro e w5 ⟨hb5,B5,rfl,hm5⟩;have q0:=cell_keep hb5 t0;have q1:=cell_keep hb5 t1;have q2:=cell_keep hb5 t2;obtain⟨⟨v0,v1,v2,e0,e1,e2⟩,ef,hco⟩:=HST.out w5 hb5 B5 hm5;have ef0:=ef (k*3);have ef1:=ef (k*3+1);have ef2:=ef (k*3+2);have HCO:=hid hco;clear hb5 hm5 ef hco))
    all_goals(try go_wp2)
    all_goals go_roundw
    all_goals first
     |exact⟨k+1,by omega,by go_num,HCO.out⟩
     |(simp[intOf];omega)
  ·obtain rfl:k=code.length:=by omega
   have hge:¬(code.length:Int)<(code.length:Int):=by omega
   go_wp2;go_ret;obtain⟨hlw,L,h1,h2,h3⟩:=HS.out;rw[List.take_length]at h1;refine⟨hlw,_,rfl,_,L,Nat.le_refl _,by rw[List.length_map],h1,by rw[List.length_map];exact h2,h3⟩
end Go.Proofs.YtdpodpjdcfjfgaaGreatDoor
