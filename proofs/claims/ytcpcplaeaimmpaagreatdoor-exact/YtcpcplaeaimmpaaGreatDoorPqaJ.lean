import Derived.Test.YtcpcplaeaimmpaaGreatDoorPq7J
import Derived.Test.YtcpcplaeaimmpaaGreatDoorLk0J
set_option maxRecDepth 100000
set_option maxHeartbeats 8000000
namespace Go.Proofs.YtcpcplaeaimmpaaGreatDoor
open Go.RowKit Go.Sort
def ntF(st:LkT)(l:List (Nat×Nat)):LkT:=l.foldl (λst x=>noteP st (kIx x.1) x.2) st
theorem ntF_app(st:LkT)(l m:List (Nat×Nat)):ntF st (l++m)=ntF (ntF st l) m:=List.foldl_append ..
theorem fK_app:∀(a b:Nms) (n:Nat),fK n (a++b)=fK n a++fK (n+a.length) b
 |[],b,n=>by rw[List.nil_append,List.length_nil,Nat.add_zero,fK,List.nil_append]
 |(t,pl)::a,b,n=>by rw[List.cons_append,fK,fK,fK_app a b,List.append_assoc,List.length_cons,show n+1+a.length=n+(a.length+1) by omega]
theorem fK_take{ns:Nms}{k:Nat}(n:Nat)(hk:k<ns.length):fK n (ns.take (k+1))=fK n (ns.take k)++(if 20<=n+k then [(3,ns[k].2)] else []):=by
 rw[List.take_succ_eq_append_getElem hk,fK_app,List.length_take,Nat.min_eq_left (by omega)];rw[show ns[k]=(ns[k].1,ns[k].2) from rfl,fK,fK,List.append_nil]
structure LkW (B w:World) (K:Nat) (adr:Nat->Addr) (gv:Value) (Gn:Nms) (st:LkT):Prop where
 pb:PB B w K adr
 ls:LS w K gv adr st
 g:KnAt w K gv Gn
section
variable {B w w':World} {K:Nat} {adr:Nat->Addr} {gv:Value} {Gn:Nms} {st st':LkT}
theorem LkW.ef(h:LkW B w K adr gv Gn st)(hE:EF K w w')(hL:LS w' K gv adr st'):LkW B w' K adr gv Gn st':=⟨h.pb.ef hE,hL,h.g.ef hE⟩
theorem LkW.keep(h:LkW B w K adr gv Gn st)(hb:Below w.heap.size w w'):LkW B w' K adr gv Gn st:=h.ef (EF.of_below hb) (h.ls.below hb)
end
def gfn(Gn:Nms)(t:ByteArray):Bool:=inB t (Gn.map (·.1)) 0
def LkRes(K:Nat)(gv:Value)(adr:Nat->Addr)(w:World)(st:LkT)(e:Ending)(w':World):Prop:=e=.returned (.tuple #[])∧EF K w w'∧LS w' K gv adr st
def LkEC(B:World)(K:Nat)(adr:Nat->Addr)(gv:Value)(Gn:Nms)(d:Nat):Prop:=∀(w:World) (v:Value) (e:Ex) (bs:List Nat) (kv:Value) (known:Nms) (st:LkT),LkW B w K adr gv Gn st->PX d w (v,e,bs)->K∉bs->(∀b∈bs,b<w.heap.size)->XBnd d e->XLen d e->KnAt w K kv known->known.length+2001*d<=100000->
 Calls Tryz.prog 114 #[.pointer (some ⟨K,0,none⟩),v,kv] w λe' w'=>LkRes K gv adr w (ntF st (gE (gfn Gn) d (known.map (·.1)) e)) e' w'
def LkPC(B:World)(K:Nat)(adr:Nat->Addr)(gv:Value)(Gn:Nms)(d:Nat):Prop:=∀(w:World) (v:Value) (e:Ex) (bs:List Nat) (nv:Value) (ns:Nms) (kv:Value) (known:Nms) (st:LkT),LkW B w K adr gv Gn st->PX d w (v,e,bs)->K∉bs->(∀b∈bs,b<w.heap.size)->XBnd d e->XLen d e->KnAt w K nv ns->KnAt w K kv known->known.length+ns.length+2001*d<=100000->
 Calls Tryz.prog 70 #[.pointer (some ⟨K,0,none⟩),.agg #[v,nv],kv] w λe' w'=>LkRes K gv adr w (ntF st (fK known.length ns++gE (gfn Gn) d (known.map (·.1)++ns.map (·.1)) e)) e' w'
theorem PX.ef{d K:Nat}{w w':World}{v:Value}{e:Ex}{bs:List Nat}(h:PX d w (v,e,bs))(hE:EF K w w')(hK:K∉bs)(hb:∀b∈bs,b<w.heap.size):PX d w' (v,e,bs):=okPX d w w' _ h hE.size λb hb'=>hE.block b (hb b hb') (λe=>hK (e▸hb'))
structure PtSt (B:World) (K:Nat) (adr:Nat->Addr) (gv:Value) (Gn:Nms) (w wr:World) (st:LkT) (n:Nat) (ns:Nms) (v nv:Value) (k:Nat):Prop where
 lk:LkW B wr K adr gv Gn (ntF st (fK n (ns.take k)))
 ef:EF K w wr
 v:V2 wr w.heap.size v nv
section
variable {B:World} {K:Nat} {adr:Nat->Addr} {gv:Value} {Gn:Nms} {w wr w':World} {st:LkT} {n:Nat} {ns:Nms} {v nv:Value} {k:Nat}
theorem PtSt.no(h:PtSt B K adr gv Gn w wr st n ns v nv k)(hk:k<ns.length)(hn:¬20<=n+k)(o:Obj):PtSt B K adr gv Gn w (wr.alloc o) st n ns v nv (k+1):=by
 have hb:Below wr.heap.size wr (wr.alloc o):=(Below.refl _ _).alloc (Nat.le_refl _) _;refine⟨?_,h.ef.trans (EF.of_below hb),h.v.keep hb⟩;rw[fK_take n hk,if_neg hn,List.append_nil];exact h.lk.keep hb
theorem PtSt.yes(h:PtSt B K adr gv Gn w wr st n ns v nv k)(hKw:K<w.heap.size)(hk:k<ns.length)(hn:20<=n+k)(o:Obj):Calls Tryz.prog 113 #[.pointer (some ⟨K,0,none⟩),.iface 447 (.pointer (some (adr 13))),.int .i64 (ns[k].2:Int)] (wr.alloc o) λe w'=>e=.returned (.tuple #[])∧PtSt B K adr gv Gn w w' st n ns v nv (k+1):=by
 have hb:Below wr.heap.size wr (wr.alloc o):=(Below.refl _ _).alloc (Nat.le_refl _) _;refine(note_any 13 ns[k].2 (h.lk.keep hb).ls).mono ?_;rintro e w' ⟨rfl,hE,hL⟩;refine⟨rfl,?_,(h.ef.trans (EF.of_below hb)).trans hE,(h.v.keep hb).ef hE (by omega)⟩;rw[fK_take n hk,if_pos hn,ntF_app];exact(h.lk.keep hb).ef hE hL
end
theorem NmAt.at_{w:World}{p:Option Addr}{n c:Nat}{l:Nms}(h:NmAt w (.slice p n c) l){k:Nat}(hk:k<l.length):∃g o,p=some ⟨g,o,none⟩∧w.cell? ⟨g,o+k*2,none⟩=some (.string l[k].1)∧w.cell? ⟨g,o+k*2+1,none⟩=some (.int .i64 (l[k].2:Int)):=by
 obtain⟨p',c',e,hc⟩:=h;cases e;obtain⟨g,o,rfl,-,hx⟩:=hc (λe=>by rw[e]at hk;simp at hk);exact⟨g,o,rfl,hx k hk⟩
theorem part_of{B:World}{K:Nat}{adr:Nat->Addr}{gv:Value}{Gn:Nms}{d:Nat}(hE:LkEC B K adr gv Gn d):LkPC B K adr gv Gn d:=by
 intro w v e bs nv ns kv known st hw hx hK hbs hxb hxl hn hk hl;obtain⟨vt,vx,rfl⟩:=hx.if_;obtain⟨np,nc,rfl,hnc,hnp⟩:=hn.cap;obtain⟨kp,kc,rfl,hkc,hkp⟩:=hk.cap;have hKl:=hw.ls.lt;have HN:=hid hn;have HK:=hid hk;have HR0:Hid (PtSt B K adr gv Gn w (w.alloc (.cells #[.iface vt vx,.slice np ns.length nc] 186)) st known.length ns (.iface vt vx) (.slice np ns.length nc) 0):=by
  have hb:Below w.heap.size w (w.alloc (.cells #[.iface vt vx,.slice np ns.length nc] 186)):=(Below.refl _ _).alloc (Nat.le_refl _) _;exact⟨hw.keep hb,EF.of_below hb,by simp,by simp,by simp,by simp⟩
 have HF:Hid (∀wr v' X,PtSt B K adr gv Gn w wr st known.length ns (.iface vt vx) (.slice np ns.length nc) ns.length->Below wr.heap.size wr X->KnAt X K v' (known++ns)->Calls Tryz.prog 114 #[.pointer (some ⟨K,0,none⟩),.iface vt vx,v'] X λe' w'=>LkRes K gv adr w (ntF st (fK known.length ns++gE (gfn Gn) d (known.map (·.1)++ns.map (·.1)) e)) e' w'∧V2 w' w.heap.size (.iface vt vx) (.slice np ns.length nc)):=by
  intro wr v' X hS hb hkn;have hE1:=hS.ef.trans (EF.of_below hb);have hlk:=hS.lk;rw[List.take_length]at hlk;refine(hE X (.iface vt vx) e bs v' (known++ns) _ (hlk.keep hb) (hx.ef hE1 hK hbs) hK (λb h=>Nat.lt_of_lt_of_le (hbs b h) hE1.size) hxb hxl hkn (by rw[List.length_append];omega)).mono ?_;rintro e' w' ⟨rfl,h1,h2⟩;refine⟨⟨rfl,hE1.trans h1,?_⟩,(hS.v.keep hb).ef h1 (by omega)⟩;rw[ntF_app,<-List.map_append];exact h2
 clear hw hn hk hx hE;go_enter Tryz.func70,Tryz.ntmps70;go_wp2;go_loopw [11] (λjv wr=>∃k:Nat,k<=ns.length∧jv=.int .i64 (k:Int)∧Hid (PtSt B K adr gv Gn w wr st known.length ns (.iface vt vx) (.slice np ns.length nc) k)) (λjv _=>ns.length-(intOf jv).toNat)
 case atStart=>exact⟨0,Nat.zero_le _,rfl,HR0.out⟩
 case round=>
  clear HR0;obtain⟨k,hk,rfl,HS⟩:=hrel;rename World=>wr
  by_cases hlt:k<ns.length
  ·have h0:(0:Int)<=(k:Int):=by omega
   have h1:(k:Int)<(ns.length:Int):=by omega
   obtain⟨g,o,rfl,c0,c1⟩:=(HN.out.ef HS.out.ef).nm.at_ hlt;have cd:=HS.out.lk.pb.sy.dp;have cdo:=λob=>alloc_old wr ob _ _ _ cd;by_cases h20:20<=known.length+k
   ·have i1:(20:Int)<=(known.length:Int)+(k:Int):=by omega
    have HY:=hid (HS.out.yes hKl hlt h20);clear hnp hnc;go_wp2_with (first
     |(go_at_call 113;refine(HY.out _).mono ?_;rintro e' w2 ⟨rfl,hs2⟩;have HS2:=hid hs2;clear hs2))
    exact⟨⟨k+1,by omega,by go_num,HS2.out⟩,by simp[intOf];omega⟩
   ·have i1:¬(20:Int)<=(known.length:Int)+(k:Int):=by omega
    have HY:=hid (HS.out.no hlt h20);clear hnp hnc;go_wp2;exact⟨⟨k+1,by omega,by go_num,HY.out _⟩,by simp[intOf];omega⟩
  ·obtain rfl:k=ns.length:=by omega
   have hge:¬(ns.length:Int)<(ns.length:Int):=by omega
   have hbd:Below wr.heap.size wr wr.drew:=below_drew1 (Below.refl _ _);obtain⟨s0,s1,-,-⟩:=HS.out.v.keep hbd;have HKD:=hid ((HK.out.ef HS.out.ef).keep hbd);have HND:=hid ((HN.out.ef HS.out.ef).keep hbd);have HKN:Hid (NmAt wr.drew (.slice kp known.length known.length) known):=by
    obtain⟨p',c',e1,hc⟩:=HKD.out.nm;cases e1;exact⟨kp,_,rfl,hc⟩
   have HKP:Hid (kp=none->known.length=0):=λh=>by have:=hkp h;omega
   have HKB:Hid ((Value.slice kp known.length known.length).ownBlock≠some K):=by
    show _≠_;have:=HK.out.nk;cases kp<;>exact this
   have HKL:Hid (K<wr.drew.heap.size):=Nat.lt_of_lt_of_le hKl (Nat.le_trans HS.out.ef.size (Nat.le_refl _));have hkn2:known.length<=1000000:=by omega
   have hcl:known.length+ns.length<=100000:=by omega
   have HX:=hid (λv' X (hb:Below wr.drew.heap.size wr.drew X)=>HF.out wr v' X HS.out (hbd.trans hb));clear HF HN HK;go_upto_region 7 with(fail)
   go_region_held_law (λw'=>w'.cell? ⟨w.heap.size,0,none⟩=some (.iface vt vx)∧w'.cell? ⟨w.heap.size,1,none⟩=some (.slice np ns.length nc)) (exact⟨by assumption,by assumption⟩)
    (first
     |(refine step_clip (K:=K) (kp:=kp) (known:=known) (ns:=ns) rfl (.tmp 31) (.tmp 33) rfl rfl rfl HKN.out HKP.out HKB.out HKL.out HND.out.nm hcl ?_;intro v' X hbX hkX;have t0:=cell_keep hbX s0;have t1:=cell_keep hbX s1;have HX2:=hid (HX.out v' X hbX hkX);clear hbX hkX)
     |(go_at_call 115;refine(clip_any hkc hkp hkn2).mono ?_;rintro e' w2 ⟨rfl,rfl⟩)
     |(go_at_call 114;refine HX2.out.mono ?_;rintro e' w3 ⟨hr3,hv3⟩;have HR3:=hid hr3;obtain⟨rfl,-,-⟩:=hr3;obtain⟨q0,q1,-,-⟩:=hv3))
   refine bE ?_;exact HR3.out
def PAll{α β:Type}(R:α->β->Prop):List α->List β->Prop
 |[],[]=>True
 |a::l,b::m=>R a b∧PAll R l m
 |_,_=>False
section
variable {α β γ:Type} {R:α->β->Prop}
theorem PAll.map{f:γ->α}{g:γ->β}:∀(l:List γ),(∀x∈l,R (f x) (g x))->PAll R (l.map f) (l.map g)
 |[],_=>trivial
 |x::l,h=>⟨h x (List.mem_cons_self ..),PAll.map l λy hy=>h y (List.mem_cons_of_mem _ hy)⟩
theorem PAll.app:∀{l:List α} {m:List β} {l':List α} {m':List β},PAll R l m->PAll R l' m'->PAll R (l++l') (m++m')
 |[],[],_,_,_,h=>h
 |_::_,_::_,_,_,h,k=>⟨h.1,PAll.app h.2 k⟩
theorem PAll.len:∀{l:List α} {m:List β},PAll R l m->l.length=m.length
 |[],[],_=>rfl
 |_::_,_::_,h=>by rw[List.length_cons,List.length_cons,PAll.len h.2]
theorem PAll.get:∀{l:List α} {m:List β},PAll R l m->∀(i:Nat) (h1:i<l.length) (h2:i<m.length),R l[i] m[i]
 |_::_,_::_,h,0,_,_=>h.1
 |_::_,_::_,h,i+1,h1,h2=>PAll.get h.2 i (by simpa using h1) (by simpa using h2)
end
structure POk (d:Nat) (w:World) (K:Nat) (x:Value×Value) (p:Ex×Nms):Prop where
 px:∃bs,PX d w (x.1,p.1,bs)∧K∉bs∧∀b∈bs,b<w.heap.size
 kn:KnAt w K x.2 p.2
 xb:XBnd d p.1
 xl:XLen d p.1
 nl:p.2.length<=2000
theorem POk.ef{d:Nat}{w w':World}{K:Nat}{x:Value×Value}{p:Ex×Nms}(h:POk d w K x p)(hE:EF K w w'):POk d w' K x p:=by
 obtain⟨bs,h1,h2,h3⟩:=h.px;exact⟨⟨bs,h1.ef hE h2 h3,h2,λb hb=>Nat.lt_of_lt_of_le (h3 b hb) hE.size⟩,h.kn.ef hE,h.xb,h.xl,h.nl⟩
def ifU:Value->TypeId×Value
 |.iface t x=>(t,x)
 |_=>(0,.nilIface)
theorem exV_ifU{v:Value}(h:∃t x,v=.iface t x):exV (ifU v)=v:=by obtain⟨t,x,rfl⟩:=h;rfl
theorem ptC_map(xs:List PT):xs.flatMap ptC=xs.map (·.1):=by
 induction xs with
 |nil=>rfl
 |cons x xs ih=>rw[List.flatMap_cons,ih];rfl
section
variable {d:Nat} {w:World} {K lo:Nat} {v:Value} {xs:List PT}
theorem rowE_ex(h:RowE (PX d) w lo v xs):ExAt w v (xs.map λx=>ifU x.1):=by
 obtain⟨p,c,rfl⟩:=h.slice;refine⟨p,c,by simp,λhne=>?_⟩;have hpos:0<xs.length:=by
  rcases xs with _|⟨x,xs⟩
  ·exact absurd rfl hne
  ·simp
 obtain⟨g,cap,hv,-,-⟩:=h.own.form hpos;have hown:=h.own;rw[hv]at hown;cases hv;refine⟨g,0,rfl,λi hi=>?_⟩;have hi':i<xs.length:=by simpa using hi
 rw[Nat.zero_add,hown.cellAt i (by omega),ptC_map,List.getElem?_map,List.getElem?_eq_getElem hi'];have:=exV_ifU (h.it _ (List.getElem_mem hi')).if_;rw[List.getElem_map];exact congrArg some this.symm
theorem pok_of{x:PT}(hx:PX d w x)(hb:∀b∈x.2.2,b≠K∧b<w.heap.size)(h1:XBnd d x.2.1)(h2:XLen d x.2.1){nv:Value}{ns:Nms}(hn:KnAt w K nv ns)(hl:ns.length<=2000):POk d w K (exV (ifU x.1),nv) (x.2.1,ns):=by
 refine⟨⟨x.2.2,?_,λh=>(hb K h).1 rfl,λb h=>(hb b h).2⟩,hn,h1,h2,hl⟩;show PX d w (exV (ifU x.1),x.2.1,x.2.2);rw[exV_ifU hx.if_];exact hx
theorem row_mem{x:PT}(hx:x∈xs)(b:Nat)(hb:b∈x.2.2):b∈rowB ptS v xs:=List.mem_append_right _ (List.mem_flatMap.2 ⟨x,hx,hb⟩)
theorem bare_all(h:RowE (PX d) w lo v xs)(hb:∀b∈rowB ptS v xs,b≠K∧b<w.heap.size)(hX:∀e∈xs.map (λx:PT=>x.2.1),XBnd d e∧XLen d e):PAll (POk d w K) (bareL (xs.map λx=>ifU x.1)) ((xs.map (λx:PT=>x.2.1)).map λx=>(x,[])):=by
 unfold bareL;rw[List.map_map,List.map_map];refine PAll.map xs λx hx=>?_;have:=hX x.2.1 (List.mem_map.2 ⟨x,hx,rfl⟩);exact pok_of (h.it x hx) (λb hb'=>hb b (row_mem hx b hb')) this.1 this.2 (KnAt.nil w K) (Nat.zero_le _)
end
def slU:Value->Option Addr×Nat×Nat
 |.slice p n c=>(p,n,c)
 |_=>(none,0,0)
def bvU(y:BT):BV:=((y.1:Int),slU y.2.1,ifU y.2.2.2.1)
theorem bvU_N{w:World}{y:BT}(h:NmsO w 0 y.2.1 y.2.2.1):bvN (bvU y)=y.2.1:=by
 obtain⟨p,c,e⟩:=h.slice;show Value.slice (slU y.2.1).1 (slU y.2.1).2.1 (slU y.2.1).2.2=_;rw[e];rfl
theorem rowBr_at{d:Nat}{w:World}{lo:Nat}{bv:Value}{ys:List BT}(h:RowBr (okBr (PX d)) w lo bv ys):∃Y:List BV,BrAt w bv Y∧Y.map (λb=>(bvB b,bvN b))=ys.map (λy:BT=>(exV (ifU y.2.2.2.1),y.2.1))∧Y.length=ys.length:=by
 refine⟨ys.map bvU,?_,?_,by simp⟩
 ·obtain⟨p,c,rfl⟩:=h.slice;refine⟨p,c,by simp,λhne=>?_⟩;have hpos:0<ys.length:=by
   rcases ys with _|⟨x,xs⟩
   ·exact absurd rfl hne
   ·simp
  obtain⟨g,cap,hv,-,-⟩:=h.own.form hpos;have hown:=h.own;rw[hv]at hown;cases hv;refine⟨g,0,rfl,λi hi=>?_⟩;have hi':i<ys.length:=by simpa using hi
  have hc:=flat3_at (λy:BT=>(.int .i64 (y.1:Int):Value)) (λy=>y.2.1) (λy=>y.2.2.2.1) ys i hi';have ho:=h.it _ (List.getElem_mem hi');rw[Nat.zero_add,List.getElem_map,hown.cellAt (i*3) (by omega),hown.cellAt (i*3+1) (by omega),hown.cellAt (i*3+2) (by omega)];refine⟨hc.1,hc.2.1.trans (congrArg some (bvU_N ho.1).symm),hc.2.2.trans (congrArg some ?_)⟩;exact(exV_ifU ho.2.if_).symm
 ·rw[List.map_map];refine List.map_congr_left λy hy=>?_;show(bvB (bvU y),bvN (bvU y))=_;rw[bvU_N (h.it y hy).1];rfl
def KP(T F:Nat):Prop:=(T=344∧F=339)∨(T=363∧F=341)∨(T=312∧F=336)∨(T=393∧F=342)∨(T=316∧F=338)∨(T=361∧F=340)
def PartsC(d K:Nat)(F:Nat)(v x:Value)(e:Ex)(bs:List Nat):Prop:=∀w',PX (d+1) w' (v,e,bs)->(∀b∈bs,b<w'.heap.size)->Calls Tryz.prog F #[x] w' λe' w''=>∃l,PaRes w' l e' w''∧PAll (POk d w' K) l (xPr e)
theorem slice_of{w:World}{lo:Nat}{v:Value}{l:Nms}(h:NmsO w lo v l):∃p n c,v=.slice p n c:=by obtain⟨p,c,rfl⟩:=h.slice;exact⟨_,_,_,rfl⟩
theorem parts_kind{d K:Nat}{w:World}{v:Value}{e:Ex}{bs:List Nat}(hx:PX (d+1) w (v,e,bs))(hK:K∉bs)(hB:XBnd (d+1) e)(hL:XLen (d+1) e):(∃g t pl,e=.name g t pl∧v=.iface 170 (.agg #[.string t,.int .i64 (pl:Int)]))∨((∀g t pl,e≠.name g t pl)∧∃T x F,v=.iface T x∧KP T F∧PartsC d K F v x e bs):=by
 have hne:∀b∈bs,b≠K:=λb hb e=>hK (e▸hb);cases e with
 |name g t pl=>exact Or.inl ⟨g,t,pl,rfl,hx.1⟩
 |num n=>
  refine Or.inr ⟨(by intros;intro h;cases h),_,_,_,hx.1,Or.inl ⟨rfl,rfl⟩,λw' _ _=>?_⟩;exact(partsNum_any n w').mono λ_ _ h=>⟨[],h,trivial⟩
 |op k l r=>
  obtain⟨lv,lb,rv,rb,rfl,h1,h2,rfl⟩:=hx;refine Or.inr ⟨(by intros;intro h;cases h),_,_,_,rfl,Or.inr (Or.inr (Or.inr (Or.inr (Or.inr ⟨rfl,rfl⟩)))),λw' hx' hb=>?_⟩;obtain⟨lv',lb',rv',rb',e1,k1,k2,e2⟩:=hx';simp only[Value.iface.injEq,Value.agg.injEq,Array.mk.injEq,List.cons.injEq,true_and,and_true]at e1;obtain⟨rfl,rfl⟩:=e1;have hb1:∀b∈lb'++rb',b≠K∧b<w'.heap.size:=λb h=>⟨hne b (Eq.mpr (congrArg (b∈·) e2) h),hb b (Eq.mpr (congrArg (b∈·) e2) h)⟩;have q1:=exV_ifU k1.if_;have q2:=exV_ifU k2.if_;have:=partsOp_any (9+(k:Int)) (ifU lv) (ifU rv) w';rw[show Value.iface (ifU lv).1 (ifU lv).2=lv from q1,show Value.iface (ifU rv).1 (ifU rv).2=rv from q2]at this;refine this.mono λ_ _ h=>⟨_,h,?_⟩;exact⟨pok_of (x:=(lv,l,lb')) k1 (λb h=>hb1 b (List.mem_append_left _ h)) (hB.2.1 _ (by simp[xPs])) (hL.2.1 _ (by simp[xPs])) (KnAt.nil w' K) (Nat.zero_le _),pok_of (x:=(rv,r,rb')) k2 (λb h=>hb1 b (List.mem_append_right _ h)) (hB.2.1 _ (by simp[xPs])) (hL.2.1 _ (by simp[xPs])) (KnAt.nil w' K) (Nat.zero_le _),trivial⟩
 |con tag fs=>
  obtain⟨fv,xs,rfl,h1,h2,rfl⟩:=hx;refine Or.inr ⟨(by intros;intro h;cases h),_,_,_,rfl,Or.inr (Or.inr (Or.inr (Or.inl ⟨rfl,rfl⟩))),λw' hx' hb=>?_⟩;obtain⟨fv',xs',e1,k1,k2,e2⟩:=hx';simp only[Value.iface.injEq,Value.agg.injEq,Array.mk.injEq,List.cons.injEq,true_and,and_true]at e1;subst e1;subst k2;have hb1:∀b∈rowB ptS fv xs',b≠K∧b<w'.heap.size:=λb h=>⟨hne b (Eq.mpr (congrArg (b∈·) e2) h),hb b (Eq.mpr (congrArg (b∈·) e2) h)⟩;have hlen:xs'.length<=2001:=by have:=hL.1.1;simpa[xPs]using this
  refine(partsCon_any (tag:Int) fv _ w' (rowE_ex k1) (by simp;omega)).mono λ_ _ h=>⟨_,h,?_⟩;exact bare_all k1 hb1 λe he=>⟨hB.2.1 e he,hL.2.1 e he⟩
 |call parts=>
  obtain⟨f,args,fv,fb,av,xs,rfl,rfl,h1,h2,h3,rfl⟩:=hx;refine Or.inr ⟨(by intros;intro h;cases h),_,_,_,rfl,Or.inr (Or.inl ⟨rfl,rfl⟩),λw' hx' hb=>?_⟩;obtain⟨f',args',fv',fb',av',xs',e0,e1,k1,k2,k3,e2⟩:=hx';simp only[List.cons.injEq]at e0;obtain⟨rfl,rfl⟩:=e0;simp only[Value.iface.injEq,Value.agg.injEq,Array.mk.injEq,List.cons.injEq,true_and,and_true]at e1;obtain⟨rfl,rfl⟩:=e1;subst k3;have hb1:∀b∈fb'++rowB ptS av xs',b≠K∧b<w'.heap.size:=λb h=>⟨hne b (Eq.mpr (congrArg (b∈·) e2) h),hb b (Eq.mpr (congrArg (b∈·) e2) h)⟩;have hlen:xs'.length+1<=2001:=by have:=hL.1.1;simpa[xPs]using this
  have hne2:xs'≠[]:=λe=>by have:=hL.1.2.2;rw[e]at this;simp[XC]at this
  have q1:=exV_ifU k1.if_;have:=partsCall_any (ifU fv) av _ w' (rowE_ex k2) (by simpa using hne2) (by simp;omega);rw[show Value.iface (ifU fv).1 (ifU fv).2=fv from q1]at this;refine this.mono λ_ _ h=>⟨_,h,?_⟩;exact⟨pok_of (x:=(fv,f,fb')) k1 (λb h=>hb1 b (List.mem_append_left _ h)) (hB.2.1 _ (by simp[xPs])) (hL.2.1 _ (by simp[xPs])) (KnAt.nil w' K) (Nat.zero_le _),bare_all k2 (λb h=>hb1 b (List.mem_append_right _ h)) λe he=>⟨hB.2.1 e (List.mem_cons_of_mem _ he),hL.2.1 e (List.mem_cons_of_mem _ he)⟩⟩
 |lets r ns es body=>
  obtain⟨nv,ev,xs,bv,bb,rfl,h1,h2,h3,h4,rfl⟩:=hx;refine Or.inr ⟨(by intros;intro h;cases h),_,_,_,rfl,Or.inr (Or.inr (Or.inl ⟨rfl,rfl⟩)),λw' hx' hb=>?_⟩;obtain⟨nv',ev',xs',bv',bb',e1,k1,k2,k3,k4,e2⟩:=hx';simp only[Value.iface.injEq,Value.agg.injEq,Array.mk.injEq,List.cons.injEq,true_and,and_true]at e1;obtain⟨rfl,rfl,rfl⟩:=e1;subst k3;have hb1:∀b∈vB nv++(rowB ptS ev xs'++bb'),b≠K∧b<w'.heap.size:=λb h=>⟨hne b (Eq.mpr (congrArg (b∈·) e2) h),hb b (Eq.mpr (congrArg (b∈·) e2) h)⟩;have hlen:xs'.length+1<=2001:=by have:=hL.1.1;simpa[xPs]using this
  have hnl:ns.length<=2000:=hB.1;have hkn:KnAt w' K nv ns:=KnAt.of_row k1 λe=>(hb1 K (List.mem_append_left _ (mem_vB.2 e))).1 rfl;have q1:=exV_ifU k4.if_;obtain⟨np,nn,nc,rfl⟩:=slice_of k1;have:=partsLet_any r np nn nc ev _ (ifU bv) w' (rowE_ex k2) (by simp;omega);rw[show Value.iface (ifU bv).1 (ifU bv).2=bv from q1]at this;refine this.mono λ_ _ h=>⟨_,h,?_⟩;unfold letL;show PAll _ _ ((xs'.map (λx:PT=>x.2.1)).map (λx=>(x,if r then ns else []))++[(body,ns)]);rw[List.map_map,List.map_map];refine PAll.app (PAll.map xs' λx hx=>?_) ⟨?_,trivial⟩
  ·have hm:x.2.1∈xPs (.lets r ns (xs'.map (λx:PT=>x.2.1)) body):=List.mem_append_left _ (List.mem_map.2 ⟨x,hx,rfl⟩);have hbx:∀b∈x.2.2,b≠K∧b<w'.heap.size:=λb h=>hb1 b (List.mem_append_right _ (List.mem_append_left _ (row_mem hx b h)));cases r with
   |true=>exact pok_of (k2.it x hx) hbx (hB.2.1 _ hm) (hL.2.1 _ hm) hkn hnl
   |false=>exact pok_of (k2.it x hx) hbx (hB.2.1 _ hm) (hL.2.1 _ hm) (KnAt.nil w' K) (Nat.zero_le _)
  ·have hm:body∈xPs (.lets r ns (xs'.map (λx:PT=>x.2.1)) body):=List.mem_append_right _ (List.mem_singleton.2 rfl);exact pok_of (x:=(bv,body,bb')) k4 (λb h=>hb1 b (List.mem_append_right _ (List.mem_append_right _ h))) (hB.2.1 _ hm) (hL.2.1 _ hm) hkn hnl
 |case c brs=>
  obtain⟨ev,eb,bv,ys,rfl,h1,h2,h3,rfl⟩:=hx;refine Or.inr ⟨(by intros;intro h;cases h),_,_,_,rfl,Or.inr (Or.inr (Or.inr (Or.inr (Or.inl ⟨rfl,rfl⟩)))),λw' hx' hb=>?_⟩;obtain⟨ev',eb',bv',ys',e1,k1,k2,k3,e2⟩:=hx';simp only[Value.iface.injEq,Value.agg.injEq,Array.mk.injEq,List.cons.injEq,true_and,and_true]at e1;obtain⟨rfl,rfl⟩:=e1;subst k3;have hb1:∀b∈eb'++rowB btS bv ys',b≠K∧b<w'.heap.size:=λb h=>⟨hne b (Eq.mpr (congrArg (b∈·) e2) h),hb b (Eq.mpr (congrArg (b∈·) e2) h)⟩;have hlen:ys'.length<=2000:=by have:=hL.1.2.1;simpa[xAl]using this
  have q1:=exV_ifU k1.if_;obtain⟨Y,hY1,hY2⟩:=rowBr_at k2;have:=partsCase_any (ifU ev) bv Y w' hY1 (by omega);rw[show Value.iface (ifU ev).1 (ifU ev).2=ev from q1]at this;refine this.mono λ_ _ h=>⟨_,h,?_⟩;unfold caseL;rw[hY2.1];show PAll _ _ ((c,[])::(ys'.map (λy:BT=>(y.1,y.2.2.1,y.2.2.2.2.1))).map λb=>(b.2.2,b.2.1));rw[List.map_map];refine⟨pok_of (x:=(ev,c,eb')) k1 (λb h=>hb1 b (List.mem_append_left _ h)) (hB.2.1 _ (by simp[xPs])) (hL.2.1 _ (by simp[xPs])) (KnAt.nil w' K) (Nat.zero_le _),PAll.map ys' λy hy=>?_⟩;have hm:(y.1,y.2.2.1,y.2.2.2.2.1)∈xAl (.case c (ys'.map (λy:BT=>(y.1,y.2.2.1,y.2.2.2.2.1)))):=List.mem_map.2 ⟨y,hy,rfl⟩;have hby:∀b∈btS y,b≠K∧b<w'.heap.size:=λb h=>hb1 b (List.mem_append_right _ (List.mem_append_right _ (List.mem_flatMap.2 ⟨y,hy,h⟩)));have ho:=k2.it y hy;exact pok_of (x:=y.2.2.2) ho.2 (λb h=>hby b (List.mem_append_right _ h)) (hB.2.2 _ hm).2 (hL.2.2 _ hm) (KnAt.of_row ho.1 λe=>(hby K (List.mem_append_left _ (mem_vB.2 e))).1 rfl) (hB.2.2 _ hm).1
end Go.Proofs.YtcpcplaeaimmpaaGreatDoor
