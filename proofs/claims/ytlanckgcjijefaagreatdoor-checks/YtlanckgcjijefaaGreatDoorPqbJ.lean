import Derived.Test.YtlanckgcjijefaaGreatDoorPq6J
import Derived.Deep.Upon
import Derived.Test.YtlanckgcjijefaaGreatDoorLx6J
import Derived.Deep.RegionHeldLaw
set_option maxRecDepth 100000
set_option maxHeartbeats 8000000
namespace Go.Proofs.YtlanckgcjijefaaGreatDoor
open Go.RowKit Go.Sort
structure KnAt (w:World) (K:Nat) (v:Value) (l:Nms):Prop where
 nm:NmAt w v l
 cap:∃p c,v=.slice p l.length c∧l.length<=c∧(p=none->c=0)
 nk:v.ownBlock≠some K
theorem NmAt.blk{w:World}{v:Value}{l:Nms}(h:NmAt w v l){w':World}(hz:w.heap.size<=w'.heap.size)(e:∀b,v.ownBlock=some b->b<w.heap.size->w'.heap[b]?=w.heap[b]?):NmAt w' v l:=by
 obtain⟨p,c,rfl,hc⟩:=h;refine⟨p,c,rfl,λhl=>?_⟩;obtain⟨g,o,rfl,hg,hx⟩:=hc hl;have eb:=e g rfl hg;exact⟨g,o,rfl,Nat.lt_of_lt_of_le hg hz,λi hi=>⟨by rw[World.cell?_of_block (a:=⟨g,o+i*2,none⟩) eb];exact(hx i hi).1,by rw[World.cell?_of_block (a:=⟨g,o+i*2+1,none⟩) eb];exact(hx i hi).2⟩⟩
theorem KnAt.ef{w w':World}{K:Nat}{v:Value}{l:Nms}(h:KnAt w K v l)(hE:EF K w w'):KnAt w' K v l:=
 ⟨h.nm.blk hE.size λb hb hl=>hE.block b hl (λe=>h.nk (by rw[hb,e])),h.cap,h.nk⟩
theorem KnAt.keep{w w':World}{K:Nat}{v:Value}{l:Nms}(h:KnAt w K v l)(hb:Below w.heap.size w w'):KnAt w' K v l:=⟨h.nm.keep hb,h.cap,h.nk⟩
theorem KnAt.nil(w:World)(K:Nat):KnAt w K (.slice none 0 0) []:=⟨⟨none,0,rfl,λh=>absurd rfl h⟩,⟨none,0,rfl,Nat.le_refl _,λ_=>rfl⟩,λh=>by cases h⟩
theorem KnAt.of_row{w:World}{K lo:Nat}{v:Value}{l:Nms}(h:NmsO w lo v l)(hn:v.ownBlock≠some K):KnAt w K v l:=by
 refine⟨h.nm,?_,hn⟩;rcases h.own.2 with⟨rfl,h0⟩|⟨g,cap,cur,rfl,-,-,hc,-⟩
 ·exact⟨none,0,by rw[h0],by omega,λ_=>rfl⟩
 ·exact⟨_,cap,rfl,hc,λe=>by cases e⟩
theorem clip_any{w:World}{p:Option Addr}{n c:Nat}(hc:n<=c)(hp:p=none->c=0)(hn:n<=1000000):Calls Tryz.prog 57 #[.slice p n c] w λe w'=>e=.returned (.slice p n n)∧w'=w:=by
 have i1:(n:Int)<=(c:Int):=by omega
 have i0:(0:Int)<=(n:Int):=by omega
 have i2:¬((n:Int)<0):=by omega
 have i3:¬((c:Int)<(n:Int)):=by omega
 cases p with
 |none=>
  obtain rfl:=hp rfl;obtain rfl:n=0:=by omega
  go_enter Tryz.func57,Tryz.ntmps57;go_wp2;go_ret;exact⟨rfl,rfl⟩
 |some a=>
  go_enter Tryz.func57,Tryz.ntmps57;go_wp2;go_ret;exact⟨rfl,rfl⟩
theorem nm_cells{w:World}{g o:Nat}{l:Nms}(h:∀i (hi:i<l.length),w.cell? ⟨g,o+i*2,none⟩=some (.string l[i].1)∧w.cell? ⟨g,o+i*2+1,none⟩=some (.int .i64 (l[i].2:Int))):∀j u,(l.flatMap wC)[j]?=some u->w.cell? ((⟨g,o,none⟩:Addr).add j)=some u:=by
 intro j u hu;have hlen:(l.flatMap wC).length=l.length*2:=flat2_len _ _ l;have hj:j<l.length*2:=by
  rw[<-hlen];exact(List.getElem?_eq_some_iff.1 hu).1
 rw[Addr.add_lit];have hm:j / 2<l.length:=by omega
 have hc:=flat_wC l (j / 2) hm;rcases Nat.mod_two_eq_zero_or_one j with h0|h1
 ·have ej:j / 2*2=j:=by omega
  rw[ej]at hc;rw[hc.1]at hu;have:=(h (j / 2) hm).1;rw[ej]at this;rw[this];exact hu
 ·have ej:j / 2*2+1=j:=by omega
  rw[ej]at hc;rw[hc.2]at hu;have:=(h (j / 2) hm).2;rw[Nat.add_assoc,ej]at this;rw[this];exact hu
theorem wC_one(l:Nms):∀u∈l.flatMap wC,u.oneCell'=true:=by
 intro u hu;obtain⟨x,-,hx⟩:=List.mem_flatMap.1 hu;simp only[wC,List.mem_cons,List.not_mem_nil,or_false]at hx;rcases hx with rfl|rfl<;>rfl
theorem clip_append{w:World}{K:Nat}{kp:Option Addr}{known ns:Nms}{nv:Value}(hk:NmAt w (.slice kp known.length known.length) known)(hp:kp=none->known.length=0)(hkb:(Value.slice kp known.length known.length).ownBlock≠some K)(hK:K<w.heap.size)(hn:NmAt w nv ns)(hl:known.length+ns.length<=100000)(ty:TypeId):
 ∃v' w',(Builtin.append_ #[59,59] ty #[.slice kp known.length known.length,nv]).run Tryz.prog w=.ok v' w'∧Below w.heap.size w w'∧KnAt w' K v' (known++ns):=by
 obtain⟨ii,hii,hij⟩:=Option.map_eq_some_iff.1 Tryz.nameI;simp only[Prod.mk.injEq]at hij;obtain⟨hi0,hi1,hi2⟩:=hij;obtain⟨np,nc,rfl,hnc⟩:=hn;by_cases h0:ns=[]
 ·subst h0;refine⟨.slice kp known.length known.length,w,?_,Below.refl _ _,?_⟩
  ·refine run_append_nothing w _ _ ty 91 ii Tryz.underlying59 hii kp _ _ (Nat.le_refl _) _ ?_;cases np with
   |none=>exact Src.ofNil w Tryz.underlying59 nc
   |some a=>exact Src.ofSlice w Tryz.underlying59 a 0 nc [] (by simp) (λj u h=>by simp at h) (λu h=>by cases h)
  ·rw[List.append_nil];exact⟨hk,⟨kp,known.length,rfl,Nat.le_refl _,hp⟩,hkb⟩
 ·obtain⟨g,o,rfl,hg,hx⟩:=hnc h0;have hpos:0<ns.length:=List.length_pos_iff.2 h0;have hnl:(ns.flatMap wC).length=ns.length*2:=flat2_len _ _ ns;have hkl:(known.flatMap wC).length=known.length*2:=flat2_len _ _ known;have fin:∀v' w',w'.ownsRow w.heap.size 91 2 v' (known.length+ns.length) (known.flatMap wC++ns.flatMap wC)->w.grownBy w' none->Below w.heap.size w w'∧KnAt w' K v' (known++ns):=by
   intro v' w' hown hgr;have hrow:NmsO w' w.heap.size v' (known++ns):=by
    refine⟨?_,λ_ _=>trivial,?_,λb hb=>?_⟩
    ·rw[List.length_append,List.flatMap_append];exact⟨hown.1,by
      rcases hown.2 with⟨h1,h2⟩|⟨g',cap,cur,h1,h2,h3⟩
      ·exact Or.inl ⟨h1,h2⟩
      ·exact Or.inr ⟨g',cap,cur,h1,Nat.zero_le _,h3⟩⟩
    ·unfold rowB;rw[show((known++ns).flatMap λ_=>([]:List Nat))=[] by simp,List.append_nil];exact vB_nodup _
    ·unfold rowB at hb;rw[show((known++ns).flatMap λ_=>([]:List Nat))=[] by simp,List.append_nil]at hb;exact hown.lt b (mem_vB.1 hb)
   refine⟨(Below.refl _ _).grown hgr (Nat.le_refl _) (λb hb=>by cases hb),KnAt.of_row hrow λe=>?_⟩;have:=(hrow.rg K (List.mem_append_left _ (mem_vB.2 e))).1;omega
  have hb63:known.length+ns.length<=maxLen:=by unfold maxLen;omega
  cases kp with
  |some b=>
   have hkc:∀j u,(known.flatMap wC)[j]?=some u->w.cell? (b.add j)=some u:=by
    by_cases hk0:known=[]
    ·subst hk0;intro j u h;simp at h
    ·obtain⟨p',c',e1,hc'⟩:=hk;obtain⟨g',o',e2,-,hx'⟩:=hc' hk0;cases e1;cases e2;exact nm_cells hx'
   obtain⟨v',w',hrun,r1,r2⟩:=run_append_arg_grows (P:=Tryz.prog) w 59 ty 91 ii _ 2 24 Tryz.underlying59 hii hi0 hi1 hi2 rfl (by omega) b known.length known.length (known.flatMap wC) hkl hkc ⟨g,o,none⟩ ns.length nc (ns.flatMap wC) hnl (nm_cells hx) (by omega) hb63 (by omega);exact⟨v',w',hrun,fin v' w' r1 r2⟩
  |none=>
   have hz:=hp rfl;obtain rfl:known=[]:=List.eq_nil_of_length_eq_zero hz;obtain⟨v',w',hrun,r1,r2,_⟩:=run_append_own (P:=Tryz.prog) w w.heap.size 59 ty 91 ii _ 2 24 Tryz.underlying59 hii hi0 hi1 hi2 rfl (by omega) (.slice none 0 0) 0 [] (World.ownsRow_nil w _ _ _) ⟨g,o,none⟩ ns.length nc (ns.flatMap wC) hnl (nm_cells hx) (wC_one ns) (by simpa using hb63) (by simp at hl;omega) (Nat.le_refl _);exact⟨v',w',hrun,fin v' w' r1 r2⟩
theorem step_clip{ops:Array Oper}{o:Oper}{a:Act}{Kc:Act->World->Prop}{Q:Exit->Act->World->Prop}{E:Prop}{w:World}{K:Nat}{kp:Option Addr}{known ns:Nms}{nv:Value}(hgd:o.guard=none)(s x:Operand)(ho:o.op=.call {callee:=.builtin .append,args:=#[s,x],argTypes:=#[59,59]})
 (hs:a.eval s=.slice kp known.length known.length) (hx:a.eval x=nv) (hk:NmAt w (.slice kp known.length known.length) known) (hp:kp=none->known.length=0) (hkb:(Value.slice kp known.length known.length).ownBlock≠some K) (hK:K<w.heap.size) (hn:NmAt w nv ns) (hl:known.length+ns.length<=100000)
 (h:∀v' w',Below w.heap.size w w'->KnAt w' K v' (known++ns)->Kc (a.put o.dst v') w'):if Region.wanted o (yielded ops a.tmps)=true then Oper.wp Tryz.prog o a w Kc Q else E:=by
 have hw:Region.wanted o (yielded ops a.tmps)=true:=by simp[Region.wanted,hgd]
 rw[if_pos hw];obtain⟨v',w',hr,h1,h2⟩:=clip_append hk hp hkb hK hn hl o.type;unfold Oper.wp execOp;simp only[ho,resolve,invoke,builtin,Sem.run_bind,Sem.run_pure,Result.andThen_ok,List.map_toArray,List.map_cons,List.map_nil,hs,hx,hr];exact h v' w' h1 h2
def ntF(st:LkT)(l:List (Nat×Nat)):LkT:=l.foldl (λst x=>noteP st (kIx x.1) x.2) st
theorem ntF_app(st:LkT)(l m:List (Nat×Nat)):ntF st (l++m)=ntF (ntF st l) m:=List.foldl_append ..
theorem fK_app:∀(a b:Nms) (n:Nat),fK n (a++b)=fK n a++fK (n+a.length) b
 |[],b,n=>by rw[List.nil_append,List.length_nil,Nat.add_zero,fK,List.nil_append]
 |(t,pl)::a,b,n=>by rw[List.cons_append,fK,fK,fK_app a b,List.append_assoc,List.length_cons,show n+1+a.length=n+(a.length+1) by omega]
theorem fK_take{ns:Nms}{k:Nat}(n:Nat)(hk:k<ns.length):fK n (ns.take (k+1))=fK n (ns.take k)++(if 20<=n+k then [(3,ns[k].2)] else []):=by
 rw[List.take_succ_eq_append_getElem hk,fK_app,List.length_take,Nat.min_eq_left (by omega)];rw[show ns[k]=(ns[k].1,ns[k].2) from rfl,fK,fK,List.append_nil]
structure LkW (B w:World) (K:Nat) (adr:Nat->Addr) (gv:Value) (Gn:Nms) (st:LkT):Prop where
 pb:PB B w K adr
 ls:LS w K gv adr st
 g:KnAt w K gv Gn
section
variable {B w w':World} {K:Nat} {adr:Nat->Addr} {gv:Value} {Gn:Nms} {st st':LkT}
theorem LkW.ef(h:LkW B w K adr gv Gn st)(hE:EF K w w')(hL:LS w' K gv adr st'):LkW B w' K adr gv Gn st':=⟨h.pb.ef hE,hL,h.g.ef hE⟩
theorem LkW.keep(h:LkW B w K adr gv Gn st)(hb:Below w.heap.size w w'):LkW B w' K adr gv Gn st:=h.ef (EF.of_below hb) (h.ls.below hb)
end
def gfn(Gn:Nms)(t:ByteArray):Bool:=inB t (Gn.map (·.1)) 0
def LkRes(K:Nat)(gv:Value)(adr:Nat->Addr)(w:World)(st:LkT)(e:Ending)(w':World):Prop:=e=.returned (.tuple #[])∧EF K w w'∧LS w' K gv adr st
def LkEC(B:World)(K:Nat)(adr:Nat->Addr)(gv:Value)(Gn:Nms)(d:Nat):Prop:=∀(w:World) (v:Value) (e:Ex) (bs:List Nat) (kv:Value) (known:Nms) (st:LkT),LkW B w K adr gv Gn st->PX d w (v,e,bs)->K∉bs->(∀b∈bs,b<w.heap.size)->XBnd d e->XLen d e->KnAt w K kv known->known.length+2001*d<=100000->
 Calls Tryz.prog 56 #[.pointer (some ⟨K,0,none⟩),v,kv] w λe' w'=>LkRes K gv adr w (ntF st (gE (gfn Gn) d (known.map (·.1)) e)) e' w'
def LkPC(B:World)(K:Nat)(adr:Nat->Addr)(gv:Value)(Gn:Nms)(d:Nat):Prop:=∀(w:World) (v:Value) (e:Ex) (bs:List Nat) (nv:Value) (ns:Nms) (kv:Value) (known:Nms) (st:LkT),LkW B w K adr gv Gn st->PX d w (v,e,bs)->K∉bs->(∀b∈bs,b<w.heap.size)->XBnd d e->XLen d e->KnAt w K nv ns->KnAt w K kv known->known.length+ns.length+2001*d<=100000->
 Calls Tryz.prog 36 #[.pointer (some ⟨K,0,none⟩),.agg #[v,nv],kv] w λe' w'=>LkRes K gv adr w (ntF st (fK known.length ns++gE (gfn Gn) d (known.map (·.1)++ns.map (·.1)) e)) e' w'
theorem PX.ef{d K:Nat}{w w':World}{v:Value}{e:Ex}{bs:List Nat}(h:PX d w (v,e,bs))(hE:EF K w w')(hK:K∉bs)(hb:∀b∈bs,b<w.heap.size):PX d w' (v,e,bs):=okPX d w w' _ h hE.size λb hb'=>hE.block b (hb b hb') (λe=>hK (e▸hb'))
structure PtSt (B:World) (K:Nat) (adr:Nat->Addr) (gv:Value) (Gn:Nms) (w wr:World) (st:LkT) (n:Nat) (ns:Nms) (v nv:Value) (k:Nat):Prop where
 lk:LkW B wr K adr gv Gn (ntF st (fK n (ns.take k)))
 ef:EF K w wr
 v:V2 wr w.heap.size v nv
section
variable {B:World} {K:Nat} {adr:Nat->Addr} {gv:Value} {Gn:Nms} {w wr w':World} {st:LkT} {n:Nat} {ns:Nms} {v nv:Value} {k:Nat}
theorem PtSt.no(h:PtSt B K adr gv Gn w wr st n ns v nv k)(hk:k<ns.length)(hn:¬20<=n+k)(o:Obj):PtSt B K adr gv Gn w (wr.alloc o) st n ns v nv (k+1):=by
 have hb:Below wr.heap.size wr (wr.alloc o):=(Below.refl _ _).alloc (Nat.le_refl _) _;refine⟨?_,h.ef.trans (EF.of_below hb),h.v.keep hb⟩;rw[fK_take n hk,if_neg hn,List.append_nil];exact h.lk.keep hb
theorem PtSt.yes(h:PtSt B K adr gv Gn w wr st n ns v nv k)(hKw:K<w.heap.size)(hk:k<ns.length)(hn:20<=n+k)(o:Obj):Calls Tryz.prog 55 #[.pointer (some ⟨K,0,none⟩),.iface 217 (.pointer (some (adr 13))),.int .i64 (ns[k].2:Int)] (wr.alloc o) λe w'=>e=.returned (.tuple #[])∧PtSt B K adr gv Gn w w' st n ns v nv (k+1):=by
 have hb:Below wr.heap.size wr (wr.alloc o):=(Below.refl _ _).alloc (Nat.le_refl _) _;refine(note_any 13 ns[k].2 (h.lk.keep hb).ls).mono ?_;rintro e w' ⟨rfl,hE,hL⟩;refine⟨rfl,?_,(h.ef.trans (EF.of_below hb)).trans hE,(h.v.keep hb).ef hE (by omega)⟩;rw[fK_take n hk,if_pos hn,ntF_app];exact(h.lk.keep hb).ef hE hL
end
theorem NmAt.at_{w:World}{p:Option Addr}{n c:Nat}{l:Nms}(h:NmAt w (.slice p n c) l){k:Nat}(hk:k<l.length):∃g o,p=some ⟨g,o,none⟩∧w.cell? ⟨g,o+k*2,none⟩=some (.string l[k].1)∧w.cell? ⟨g,o+k*2+1,none⟩=some (.int .i64 (l[k].2:Int)):=by
 obtain⟨p',c',e,hc⟩:=h;cases e;obtain⟨g,o,rfl,-,hx⟩:=hc (λe=>by rw[e]at hk;simp at hk);exact⟨g,o,rfl,hx k hk⟩
theorem part_of{B:World}{K:Nat}{adr:Nat->Addr}{gv:Value}{Gn:Nms}{d:Nat}(hE:LkEC B K adr gv Gn d):LkPC B K adr gv Gn d:=by
 intro w v e bs nv ns kv known st hw hx hK hbs hxb hxl hn hk hl;obtain⟨vt,vx,rfl⟩:=hx.if_;obtain⟨np,nc,rfl,hnc,hnp⟩:=hn.cap;obtain⟨kp,kc,rfl,hkc,hkp⟩:=hk.cap;have hKl:=hw.ls.lt;have HN:=hid hn;have HK:=hid hk;have HR0:Hid (PtSt B K adr gv Gn w (w.alloc (.cells #[.iface vt vx,.slice np ns.length nc] 107)) st known.length ns (.iface vt vx) (.slice np ns.length nc) 0):=by
  have hb:Below w.heap.size w (w.alloc (.cells #[.iface vt vx,.slice np ns.length nc] 107)):=(Below.refl _ _).alloc (Nat.le_refl _) _;exact⟨hw.keep hb,EF.of_below hb,by simp,by simp,by simp,by simp⟩
 have HF:Hid (∀wr v' X,PtSt B K adr gv Gn w wr st known.length ns (.iface vt vx) (.slice np ns.length nc) ns.length->Below wr.heap.size wr X->KnAt X K v' (known++ns)->Calls Tryz.prog 56 #[.pointer (some ⟨K,0,none⟩),.iface vt vx,v'] X λe' w'=>LkRes K gv adr w (ntF st (fK known.length ns++gE (gfn Gn) d (known.map (·.1)++ns.map (·.1)) e)) e' w'∧V2 w' w.heap.size (.iface vt vx) (.slice np ns.length nc)):=by
  intro wr v' X hS hb hkn;have hE1:=hS.ef.trans (EF.of_below hb);have hlk:=hS.lk;rw[List.take_length]at hlk;refine(hE X (.iface vt vx) e bs v' (known++ns) _ (hlk.keep hb) (hx.ef hE1 hK hbs) hK (λb h=>Nat.lt_of_lt_of_le (hbs b h) hE1.size) hxb hxl hkn (by rw[List.length_append];omega)).mono ?_;rintro e' w' ⟨rfl,h1,h2⟩;refine⟨⟨rfl,hE1.trans h1,?_⟩,(hS.v.keep hb).ef h1 (by omega)⟩;rw[ntF_app,<-List.map_append];exact h2
 clear hw hn hk hx hE;go_enter Tryz.func36,Tryz.ntmps36;go_wp2;go_loopw [11] (λjv wr=>∃k:Nat,k<=ns.length∧jv=.int .i64 (k:Int)∧Hid (PtSt B K adr gv Gn w wr st known.length ns (.iface vt vx) (.slice np ns.length nc) k)) (λjv _=>ns.length-(intOf jv).toNat)
 case atStart=>exact⟨0,Nat.zero_le _,rfl,HR0.out⟩
 case round=>
  clear HR0;obtain⟨k,hk,rfl,HS⟩:=hrel;rename World=>wr
  by_cases hlt:k<ns.length
  ·have h0:(0:Int)<=(k:Int):=by omega
   have h1:(k:Int)<(ns.length:Int):=by omega
   obtain⟨g,o,rfl,c0,c1⟩:=(HN.out.ef HS.out.ef).nm.at_ hlt;have cd:=HS.out.lk.pb.sy.dp;have cdo:=λob=>alloc_old wr ob _ _ _ cd;by_cases h20:20<=known.length+k
   ·have i1:(20:Int)<=(known.length:Int)+(k:Int):=by omega
    have HY:=hid (HS.out.yes hKl hlt h20);clear hnp hnc;go_wp2_with (first
     |(go_at_call 55;refine(HY.out _).mono ?_;rintro e' w2 ⟨rfl,hs2⟩;have HS2:=hid hs2;clear hs2))
    exact⟨⟨k+1,by omega,by go_num,HS2.out⟩,by simp[intOf];omega⟩
   ·have i1:¬(20:Int)<=(known.length:Int)+(k:Int):=by omega
    have HY:=hid (HS.out.no hlt h20);clear hnp hnc;go_wp2;exact⟨⟨k+1,by omega,by go_num,HY.out _⟩,by simp[intOf];omega⟩
  ·obtain rfl:k=ns.length:=by omega
   have hge:¬(ns.length:Int)<(ns.length:Int):=by omega
   have hbd:Below wr.heap.size wr wr.drew:=below_drew1 (Below.refl _ _);obtain⟨s0,s1,-,-⟩:=HS.out.v.keep hbd;have HKD:=hid ((HK.out.ef HS.out.ef).keep hbd);have HND:=hid ((HN.out.ef HS.out.ef).keep hbd);have HKN:Hid (NmAt wr.drew (.slice kp known.length known.length) known):=by
    obtain⟨p',c',e1,hc⟩:=HKD.out.nm;cases e1;exact⟨kp,_,rfl,hc⟩
   have HKP:Hid (kp=none->known.length=0):=λh=>by have:=hkp h;omega
   have HKB:Hid ((Value.slice kp known.length known.length).ownBlock≠some K):=by
    show _≠_;have:=HK.out.nk;cases kp<;>exact this
   have HKL:Hid (K<wr.drew.heap.size):=Nat.lt_of_lt_of_le hKl (Nat.le_trans HS.out.ef.size (Nat.le_refl _));have hkn2:known.length<=1000000:=by omega
   have hcl:known.length+ns.length<=100000:=by omega
   have HX:=hid (λv' X (hb:Below wr.drew.heap.size wr.drew X)=>HF.out wr v' X HS.out (hbd.trans hb));clear HF HN HK;go_upto_region 7 with(fail)
   go_region_held_law (λw'=>w'.cell? ⟨w.heap.size,0,none⟩=some (.iface vt vx)∧w'.cell? ⟨w.heap.size,1,none⟩=some (.slice np ns.length nc)) (exact⟨by assumption,by assumption⟩)
    (first
     |(refine step_clip (K:=K) (kp:=kp) (known:=known) (ns:=ns) rfl (.tmp 31) (.tmp 33) rfl rfl rfl HKN.out HKP.out HKB.out HKL.out HND.out.nm hcl ?_;intro v' X hbX hkX;have t0:=cell_keep hbX s0;have t1:=cell_keep hbX s1;have HX2:=hid (HX.out v' X hbX hkX);clear hbX hkX)
     |(go_at_call 57;refine(clip_any hkc hkp hkn2).mono ?_;rintro e' w2 ⟨rfl,rfl⟩)
     |(go_at_call 56;refine HX2.out.mono ?_;rintro e' w3 ⟨hr3,hv3⟩;have HR3:=hid hr3;obtain⟨rfl,-,-⟩:=hr3;obtain⟨q0,q1,-,-⟩:=hv3))
   refine bE ?_;exact HR3.out
def PAll{α β:Type}(R:α->β->Prop):List α->List β->Prop
 |[],[]=>True
 |a::l,b::m=>R a b∧PAll R l m
 |_,_=>False
section
variable {α β γ:Type} {R:α->β->Prop}
theorem PAll.map{f:γ->α}{g:γ->β}:∀(l:List γ),(∀x∈l,R (f x) (g x))->PAll R (l.map f) (l.map g)
 |[],_=>trivial
 |x::l,h=>⟨h x (List.mem_cons_self ..),PAll.map l λy hy=>h y (List.mem_cons_of_mem _ hy)⟩
theorem PAll.app:∀{l:List α} {m:List β} {l':List α} {m':List β},PAll R l m->PAll R l' m'->PAll R (l++l') (m++m')
 |[],[],_,_,_,h=>h
 |_::_,_::_,_,_,h,k=>⟨h.1,PAll.app h.2 k⟩
theorem PAll.len:∀{l:List α} {m:List β},PAll R l m->l.length=m.length
 |[],[],_=>rfl
 |_::_,_::_,h=>by rw[List.length_cons,List.length_cons,PAll.len h.2]
theorem PAll.get:∀{l:List α} {m:List β},PAll R l m->∀(i:Nat) (h1:i<l.length) (h2:i<m.length),R l[i] m[i]
 |_::_,_::_,h,0,_,_=>h.1
 |_::_,_::_,h,i+1,h1,h2=>PAll.get h.2 i (by simpa using h1) (by simpa using h2)
end
structure POk (d:Nat) (w:World) (K:Nat) (x:Value×Value) (p:Ex×Nms):Prop where
 px:∃bs,PX d w (x.1,p.1,bs)∧K∉bs∧∀b∈bs,b<w.heap.size
 kn:KnAt w K x.2 p.2
 xb:XBnd d p.1
 xl:XLen d p.1
 nl:p.2.length<=2000
theorem POk.ef{d:Nat}{w w':World}{K:Nat}{x:Value×Value}{p:Ex×Nms}(h:POk d w K x p)(hE:EF K w w'):POk d w' K x p:=by
 obtain⟨bs,h1,h2,h3⟩:=h.px;exact⟨⟨bs,h1.ef hE h2 h3,h2,λb hb=>Nat.lt_of_lt_of_le (h3 b hb) hE.size⟩,h.kn.ef hE,h.xb,h.xl,h.nl⟩
def ifU:Value->TypeId×Value
 |.iface t x=>(t,x)
 |_=>(0,.nilIface)
theorem exV_ifU{v:Value}(h:∃t x,v=.iface t x):exV (ifU v)=v:=by obtain⟨t,x,rfl⟩:=h;rfl
theorem ptC_map(xs:List PT):xs.flatMap ptC=xs.map (·.1):=by
 induction xs with
 |nil=>rfl
 |cons x xs ih=>rw[List.flatMap_cons,ih];rfl
section
variable {d:Nat} {w:World} {K lo:Nat} {v:Value} {xs:List PT}
theorem rowE_ex(h:RowE (PX d) w lo v xs):ExAt w v (xs.map λx=>ifU x.1):=by
 obtain⟨p,c,rfl⟩:=h.slice;refine⟨p,c,by simp,λhne=>?_⟩;have hpos:0<xs.length:=by
  rcases xs with _|⟨x,xs⟩
  ·exact absurd rfl hne
  ·simp
 obtain⟨g,cap,hv,-,-⟩:=h.own.form hpos;have hown:=h.own;rw[hv]at hown;cases hv;refine⟨g,0,rfl,λi hi=>?_⟩;have hi':i<xs.length:=by simpa using hi
 rw[Nat.zero_add,hown.cellAt i (by omega),ptC_map,List.getElem?_map,List.getElem?_eq_getElem hi'];have:=exV_ifU (h.it _ (List.getElem_mem hi')).if_;rw[List.getElem_map];exact congrArg some this.symm
theorem pok_of{x:PT}(hx:PX d w x)(hb:∀b∈x.2.2,b≠K∧b<w.heap.size)(h1:XBnd d x.2.1)(h2:XLen d x.2.1){nv:Value}{ns:Nms}(hn:KnAt w K nv ns)(hl:ns.length<=2000):POk d w K (exV (ifU x.1),nv) (x.2.1,ns):=by
 refine⟨⟨x.2.2,?_,λh=>(hb K h).1 rfl,λb h=>(hb b h).2⟩,hn,h1,h2,hl⟩;show PX d w (exV (ifU x.1),x.2.1,x.2.2);rw[exV_ifU hx.if_];exact hx
theorem row_mem{x:PT}(hx:x∈xs)(b:Nat)(hb:b∈x.2.2):b∈rowB ptS v xs:=List.mem_append_right _ (List.mem_flatMap.2 ⟨x,hx,hb⟩)
theorem bare_all(h:RowE (PX d) w lo v xs)(hb:∀b∈rowB ptS v xs,b≠K∧b<w.heap.size)(hX:∀e∈xs.map (λx:PT=>x.2.1),XBnd d e∧XLen d e):PAll (POk d w K) (bareL (xs.map λx=>ifU x.1)) ((xs.map (λx:PT=>x.2.1)).map λx=>(x,[])):=by
 unfold bareL;rw[List.map_map,List.map_map];refine PAll.map xs λx hx=>?_;have:=hX x.2.1 (List.mem_map.2 ⟨x,hx,rfl⟩);exact pok_of (h.it x hx) (λb hb'=>hb b (row_mem hx b hb')) this.1 this.2 (KnAt.nil w K) (Nat.zero_le _)
end
def slU:Value->Option Addr×Nat×Nat
 |.slice p n c=>(p,n,c)
 |_=>(none,0,0)
def bvU(y:BT):BV:=((y.1:Int),slU y.2.1,ifU y.2.2.2.1)
theorem bvU_N{w:World}{y:BT}(h:NmsO w 0 y.2.1 y.2.2.1):bvN (bvU y)=y.2.1:=by
 obtain⟨p,c,e⟩:=h.slice;show Value.slice (slU y.2.1).1 (slU y.2.1).2.1 (slU y.2.1).2.2=_;rw[e];rfl
theorem rowBr_at{d:Nat}{w:World}{lo:Nat}{bv:Value}{ys:List BT}(h:RowBr (okBr (PX d)) w lo bv ys):∃Y:List BV,BrAt w bv Y∧Y.map (λb=>(bvB b,bvN b))=ys.map (λy:BT=>(exV (ifU y.2.2.2.1),y.2.1))∧Y.length=ys.length:=by
 refine⟨ys.map bvU,?_,?_,by simp⟩
 ·obtain⟨p,c,rfl⟩:=h.slice;refine⟨p,c,by simp,λhne=>?_⟩;have hpos:0<ys.length:=by
   rcases ys with _|⟨x,xs⟩
   ·exact absurd rfl hne
   ·simp
  obtain⟨g,cap,hv,-,-⟩:=h.own.form hpos;have hown:=h.own;rw[hv]at hown;cases hv;refine⟨g,0,rfl,λi hi=>?_⟩;have hi':i<ys.length:=by simpa using hi
  have hc:=flat3_at (λy:BT=>(.int .i64 (y.1:Int):Value)) (λy=>y.2.1) (λy=>y.2.2.2.1) ys i hi';have ho:=h.it _ (List.getElem_mem hi');rw[Nat.zero_add,List.getElem_map,hown.cellAt (i*3) (by omega),hown.cellAt (i*3+1) (by omega),hown.cellAt (i*3+2) (by omega)];refine⟨hc.1,hc.2.1.trans (congrArg some (bvU_N ho.1).symm),hc.2.2.trans (congrArg some ?_)⟩;exact(exV_ifU ho.2.if_).symm
 ·rw[List.map_map];refine List.map_congr_left λy hy=>?_;show(bvB (bvU y),bvN (bvU y))=_;rw[bvU_N (h.it y hy).1];rfl
def KP(T F:Nat):Prop:=(T=170∧F=162)∨(T=202∧F=168)∨(T=187∧F=165)∨(T=191∧F=166)∨(T=194∧F=167)∨(T=184∧F=163)
def PartsC(d K:Nat)(F:Nat)(v x:Value)(e:Ex)(bs:List Nat):Prop:=∀w',PX (d+1) w' (v,e,bs)->(∀b∈bs,b<w'.heap.size)->Calls Tryz.prog F #[x] w' λe' w''=>∃l,PaRes w' l e' w''∧PAll (POk d w' K) l (xPr e)
theorem slice_of{w:World}{lo:Nat}{v:Value}{l:Nms}(h:NmsO w lo v l):∃p n c,v=.slice p n c:=by obtain⟨p,c,rfl⟩:=h.slice;exact⟨_,_,_,rfl⟩
theorem parts_kind{d K:Nat}{w:World}{v:Value}{e:Ex}{bs:List Nat}(hx:PX (d+1) w (v,e,bs))(hK:K∉bs)(hB:XBnd (d+1) e)(hL:XLen (d+1) e):(∃g t pl,e=.name g t pl∧v=.iface 91 (.agg #[.string t,.int .i64 (pl:Int)]))∨((∀g t pl,e≠.name g t pl)∧∃T x F,v=.iface T x∧KP T F∧PartsC d K F v x e bs):=by
 have hne:∀b∈bs,b≠K:=λb hb e=>hK (e▸hb);cases e with
 |name g t pl=>exact Or.inl ⟨g,t,pl,rfl,hx.1⟩
 |num n=>
  refine Or.inr ⟨(by intros;intro h;cases h),_,_,_,hx.1,Or.inl ⟨rfl,rfl⟩,λw' _ _=>?_⟩;exact(partsNum_any n w').mono λ_ _ h=>⟨[],h,trivial⟩
 |op k l r=>
  obtain⟨lv,lb,rv,rb,rfl,h1,h2,rfl⟩:=hx;refine Or.inr ⟨(by intros;intro h;cases h),_,_,_,rfl,Or.inr (Or.inr (Or.inr (Or.inr (Or.inr ⟨rfl,rfl⟩)))),λw' hx' hb=>?_⟩;obtain⟨lv',lb',rv',rb',e1,k1,k2,e2⟩:=hx';simp only[Value.iface.injEq,Value.agg.injEq,Array.mk.injEq,List.cons.injEq,true_and,and_true]at e1;obtain⟨rfl,rfl⟩:=e1;have hb1:∀b∈lb'++rb',b≠K∧b<w'.heap.size:=λb h=>⟨hne b (Eq.mpr (congrArg (b∈·) e2) h),hb b (Eq.mpr (congrArg (b∈·) e2) h)⟩;have q1:=exV_ifU k1.if_;have q2:=exV_ifU k2.if_;have:=partsOp_any (9+(k:Int)) (ifU lv) (ifU rv) w';rw[show Value.iface (ifU lv).1 (ifU lv).2=lv from q1,show Value.iface (ifU rv).1 (ifU rv).2=rv from q2]at this;refine this.mono λ_ _ h=>⟨_,h,?_⟩;exact⟨pok_of (x:=(lv,l,lb')) k1 (λb h=>hb1 b (List.mem_append_left _ h)) (hB.2.1 _ (by simp[xPs])) (hL.2.1 _ (by simp[xPs])) (KnAt.nil w' K) (Nat.zero_le _),pok_of (x:=(rv,r,rb')) k2 (λb h=>hb1 b (List.mem_append_right _ h)) (hB.2.1 _ (by simp[xPs])) (hL.2.1 _ (by simp[xPs])) (KnAt.nil w' K) (Nat.zero_le _),trivial⟩
 |con tag fs=>
  obtain⟨fv,xs,rfl,h1,h2,rfl⟩:=hx;refine Or.inr ⟨(by intros;intro h;cases h),_,_,_,rfl,Or.inr (Or.inr (Or.inr (Or.inl ⟨rfl,rfl⟩))),λw' hx' hb=>?_⟩;obtain⟨fv',xs',e1,k1,k2,e2⟩:=hx';simp only[Value.iface.injEq,Value.agg.injEq,Array.mk.injEq,List.cons.injEq,true_and,and_true]at e1;subst e1;subst k2;have hb1:∀b∈rowB ptS fv xs',b≠K∧b<w'.heap.size:=λb h=>⟨hne b (Eq.mpr (congrArg (b∈·) e2) h),hb b (Eq.mpr (congrArg (b∈·) e2) h)⟩;have hlen:xs'.length<=2001:=by have:=hL.1.1;simpa[xPs]using this
  refine(partsCon_any (tag:Int) fv _ w' (rowE_ex k1) (by simp;omega)).mono λ_ _ h=>⟨_,h,?_⟩;exact bare_all k1 hb1 λe he=>⟨hB.2.1 e he,hL.2.1 e he⟩
 |call parts=>
  obtain⟨f,args,fv,fb,av,xs,rfl,rfl,h1,h2,h3,rfl⟩:=hx;refine Or.inr ⟨(by intros;intro h;cases h),_,_,_,rfl,Or.inr (Or.inl ⟨rfl,rfl⟩),λw' hx' hb=>?_⟩;obtain⟨f',args',fv',fb',av',xs',e0,e1,k1,k2,k3,e2⟩:=hx';simp only[List.cons.injEq]at e0;obtain⟨rfl,rfl⟩:=e0;simp only[Value.iface.injEq,Value.agg.injEq,Array.mk.injEq,List.cons.injEq,true_and,and_true]at e1;obtain⟨rfl,rfl⟩:=e1;subst k3;have hb1:∀b∈fb'++rowB ptS av xs',b≠K∧b<w'.heap.size:=λb h=>⟨hne b (Eq.mpr (congrArg (b∈·) e2) h),hb b (Eq.mpr (congrArg (b∈·) e2) h)⟩;have hlen:xs'.length+1<=2001:=by have:=hL.1.1;simpa[xPs]using this
  have hne2:xs'≠[]:=λe=>by have:=hL.1.2.2;rw[e]at this;simp[XC]at this
  have q1:=exV_ifU k1.if_;have:=partsCall_any (ifU fv) av _ w' (rowE_ex k2) (by simpa using hne2) (by simp;omega);rw[show Value.iface (ifU fv).1 (ifU fv).2=fv from q1]at this;refine this.mono λ_ _ h=>⟨_,h,?_⟩;exact⟨pok_of (x:=(fv,f,fb')) k1 (λb h=>hb1 b (List.mem_append_left _ h)) (hB.2.1 _ (by simp[xPs])) (hL.2.1 _ (by simp[xPs])) (KnAt.nil w' K) (Nat.zero_le _),bare_all k2 (λb h=>hb1 b (List.mem_append_right _ h)) λe he=>⟨hB.2.1 e (List.mem_cons_of_mem _ he),hL.2.1 e (List.mem_cons_of_mem _ he)⟩⟩
 |lets r ns es body=>
  obtain⟨nv,ev,xs,bv,bb,rfl,h1,h2,h3,h4,rfl⟩:=hx;refine Or.inr ⟨(by intros;intro h;cases h),_,_,_,rfl,Or.inr (Or.inr (Or.inl ⟨rfl,rfl⟩)),λw' hx' hb=>?_⟩;obtain⟨nv',ev',xs',bv',bb',e1,k1,k2,k3,k4,e2⟩:=hx';simp only[Value.iface.injEq,Value.agg.injEq,Array.mk.injEq,List.cons.injEq,true_and,and_true]at e1;obtain⟨rfl,rfl,rfl⟩:=e1;subst k3;have hb1:∀b∈vB nv++(rowB ptS ev xs'++bb'),b≠K∧b<w'.heap.size:=λb h=>⟨hne b (Eq.mpr (congrArg (b∈·) e2) h),hb b (Eq.mpr (congrArg (b∈·) e2) h)⟩;have hlen:xs'.length+1<=2001:=by have:=hL.1.1;simpa[xPs]using this
  have hnl:ns.length<=2000:=hB.1;have hkn:KnAt w' K nv ns:=KnAt.of_row k1 λe=>(hb1 K (List.mem_append_left _ (mem_vB.2 e))).1 rfl;have q1:=exV_ifU k4.if_;obtain⟨np,nn,nc,rfl⟩:=slice_of k1;have:=partsLet_any r np nn nc ev _ (ifU bv) w' (rowE_ex k2) (by simp;omega);rw[show Value.iface (ifU bv).1 (ifU bv).2=bv from q1]at this;refine this.mono λ_ _ h=>⟨_,h,?_⟩;unfold letL;show PAll _ _ ((xs'.map (λx:PT=>x.2.1)).map (λx=>(x,if r then ns else []))++[(body,ns)]);rw[List.map_map,List.map_map];refine PAll.app (PAll.map xs' λx hx=>?_) ⟨?_,trivial⟩
  ·have hm:x.2.1∈xPs (.lets r ns (xs'.map (λx:PT=>x.2.1)) body):=List.mem_append_left _ (List.mem_map.2 ⟨x,hx,rfl⟩);have hbx:∀b∈x.2.2,b≠K∧b<w'.heap.size:=λb h=>hb1 b (List.mem_append_right _ (List.mem_append_left _ (row_mem hx b h)));cases r with
   |true=>exact pok_of (k2.it x hx) hbx (hB.2.1 _ hm) (hL.2.1 _ hm) hkn hnl
   |false=>exact pok_of (k2.it x hx) hbx (hB.2.1 _ hm) (hL.2.1 _ hm) (KnAt.nil w' K) (Nat.zero_le _)
  ·have hm:body∈xPs (.lets r ns (xs'.map (λx:PT=>x.2.1)) body):=List.mem_append_right _ (List.mem_singleton.2 rfl);exact pok_of (x:=(bv,body,bb')) k4 (λb h=>hb1 b (List.mem_append_right _ (List.mem_append_right _ h))) (hB.2.1 _ hm) (hL.2.1 _ hm) hkn hnl
 |case c brs=>
  obtain⟨ev,eb,bv,ys,rfl,h1,h2,h3,rfl⟩:=hx;refine Or.inr ⟨(by intros;intro h;cases h),_,_,_,rfl,Or.inr (Or.inr (Or.inr (Or.inr (Or.inl ⟨rfl,rfl⟩)))),λw' hx' hb=>?_⟩;obtain⟨ev',eb',bv',ys',e1,k1,k2,k3,e2⟩:=hx';simp only[Value.iface.injEq,Value.agg.injEq,Array.mk.injEq,List.cons.injEq,true_and,and_true]at e1;obtain⟨rfl,rfl⟩:=e1;subst k3;have hb1:∀b∈eb'++rowB btS bv ys',b≠K∧b<w'.heap.size:=λb h=>⟨hne b (Eq.mpr (congrArg (b∈·) e2) h),hb b (Eq.mpr (congrArg (b∈·) e2) h)⟩;have hlen:ys'.length<=2000:=by have:=hL.1.2.1;simpa[xAl]using this
  have q1:=exV_ifU k1.if_;obtain⟨Y,hY1,hY2⟩:=rowBr_at k2;have:=partsCase_any (ifU ev) bv Y w' hY1 (by omega);rw[show Value.iface (ifU ev).1 (ifU ev).2=ev from q1]at this;refine this.mono λ_ _ h=>⟨_,h,?_⟩;unfold caseL;rw[hY2.1];show PAll _ _ ((c,[])::(ys'.map (λy:BT=>(y.1,y.2.2.1,y.2.2.2.2.1))).map λb=>(b.2.2,b.2.1));rw[List.map_map];refine⟨pok_of (x:=(ev,c,eb')) k1 (λb h=>hb1 b (List.mem_append_left _ h)) (hB.2.1 _ (by simp[xPs])) (hL.2.1 _ (by simp[xPs])) (KnAt.nil w' K) (Nat.zero_le _),PAll.map ys' λy hy=>?_⟩;have hm:(y.1,y.2.2.1,y.2.2.2.2.1)∈xAl (.case c (ys'.map (λy:BT=>(y.1,y.2.2.1,y.2.2.2.2.1)))):=List.mem_map.2 ⟨y,hy,rfl⟩;have hby:∀b∈btS y,b≠K∧b<w'.heap.size:=λb h=>hb1 b (List.mem_append_right _ (List.mem_append_right _ (List.mem_flatMap.2 ⟨y,hy,h⟩)));have ho:=k2.it y hy;exact pok_of (x:=y.2.2.2) ho.2 (λb h=>hby b (List.mem_append_right _ h)) (hB.2.2 _ hm).2 (hL.2.2 _ hm) (KnAt.of_row ho.1 λe=>(hby K (List.mem_append_left _ (mem_vB.2 e))).1 rfl) (hB.2.2 _ hm).1
theorem PAll.mono{α β:Type}{R S:α->β->Prop}(hi:∀a b,R a b->S a b):∀{l:List α} {m:List β},PAll R l m->PAll S l m
 |[],[],_=>trivial
 |_::_,_::_,h=>⟨hi _ _ h.1,PAll.mono hi h.2⟩
theorem fN_nil{G:ByteArray->Bool}{names:List ByteArray}{e:Ex}(h:∀g t pl,e≠.name g t pl):fN G names e=[]:=by
 cases e with
 |name g t pl=>exact absurd rfl (h g t pl)
 |_=>rfl
def pF(Gn:Nms)(d:Nat)(known:Nms)(x:Ex×Nms):List (Nat×Nat):=fK known.length x.2++gE (gfn Gn) d (known.map (·.1)++x.2.map (·.1)) x.1
theorem gE_succ{Gn:Nms}{d:Nat}{known:Nms}{e:Ex}(h:∀g t pl,e≠.name g t pl):gE (gfn Gn) (d+1) (known.map (·.1)) e=(xPr e).flatMap (pF Gn d known):=by
 rw[gE,fN_nil h,List.nil_append,List.length_map];rfl
structure ExSt (B:World) (K:Nat) (adr:Nat->Addr) (gv:Value) (Gn:Nms) (d:Nat) (w wr:World) (st:LkT) (kv:Value) (known:Nms) (vp:Option Addr) (vc:Nat) (l:List (Value×Value)) (ps:List (Ex×Nms)) (k:Nat):Prop where
 lk:LkW B wr K adr gv Gn (ntF st ((ps.take k).flatMap (pF Gn d known)))
 ef:EF K w wr
 row:RowP wr (K+1) (.slice vp l.length vc) l
 ok:PAll (POk d wr K) l ps
 kn:KnAt wr K kv known
section
variable {B:World} {K:Nat} {adr:Nat->Addr} {gv:Value} {Gn:Nms} {d:Nat} {w wr:World} {st:LkT} {kv:Value} {known:Nms} {vp:Option Addr} {vc:Nat} {l:List (Value×Value)} {ps:List (Ex×Nms)} {k:Nat}
theorem ExSt.step(hP:LkPC B K adr gv Gn d)(h:ExSt B K adr gv Gn d w wr st kv known vp vc l ps k)(hk:k<l.length)(hl:known.length+2001*(d+1)<=100000)(ob:Obj):
 Calls Tryz.prog 36 #[.pointer (some ⟨K,0,none⟩),.agg #[l[k].1,l[k].2],kv] (wr.alloc ob) λe' w'=>e'=.returned (.tuple #[])∧ExSt B K adr gv Gn d w w' st kv known vp vc l ps (k+1):=by
 have hk2:k<ps.length:=by rw[<-h.ok.len];exact hk
 have hb:Below wr.heap.size wr (wr.alloc ob):=(Below.refl _ _).alloc (Nat.le_refl _) _;have hE0:EF K wr (wr.alloc ob):=EF.of_below hb;have hp:=(h.ok.get k hk hk2).ef hE0;obtain⟨bs,hx,hKb,hbs⟩:=hp.px;have hnl:=hp.nl;refine(hP (wr.alloc ob) l[k].1 ps[k].1 bs l[k].2 ps[k].2 kv known _ (h.lk.keep hb) hx hKb hbs hp.xb hp.xl hp.kn (h.kn.ef hE0) (by omega)).mono ?_;rintro e' w' ⟨rfl,hE,hL⟩;refine⟨rfl,?_⟩;have hE1:=hE0.trans hE;have e:ntF st ((ps.take (k+1)).flatMap (pF Gn d known))=ntF (ntF st ((ps.take k).flatMap (pF Gn d known))) (fK known.length ps[k].2++gE (gfn Gn) d (known.map (·.1)++ps[k].2.map (·.1)) ps[k].1):=by
  rw[<-ntF_app,List.take_succ_eq_append_getElem hk2,List.flatMap_append,List.flatMap_cons,List.flatMap_nil,List.append_nil];rfl
 refine⟨?_,h.ef.trans hE1,h.row.ef okP hE1 (Nat.lt_succ_self _),h.ok.mono λ_ _ hh=>hh.ef hE1,h.kn.ef hE1⟩;rw[e];exact h.lk.ef hE1 hL
theorem ExSt.at_(h:ExSt B K adr gv Gn d w wr st kv known vp vc l ps k)(hk:k<l.length):∃g t x np nn nc,vp=some ⟨g,0,none⟩∧l[k].1=.iface t x∧l[k].2=.slice np nn nc∧wr.cell? ⟨g,k*2,none⟩=some (.iface t x)∧wr.cell? ⟨g,k*2+1,none⟩=some (.slice np nn nc):=by
 have hk2:k<ps.length:=by rw[<-h.ok.len];exact hk
 have hp:=h.ok.get k hk hk2;obtain⟨bs,hx,-⟩:=hp.px;obtain⟨t,x,e1⟩:=hx.if_;obtain⟨np,nc,e2,-⟩:=hp.kn.cap;obtain⟨g,cap,hv,-,-⟩:=h.row.own.form (by omega);have hown:=h.row.own;rw[hv]at hown;cases hv;have hc:=flat2_at (λx:Value×Value=>x.1) (λx=>x.2) l k hk;refine⟨g,t,x,np,_,nc,rfl,e1,e2,?_,?_⟩
 ·rw[hown.cellAt (k*2) (by omega)];exact hc.1.trans (congrArg some e1)
 ·rw[hown.cellAt (k*2+1) (by omega)];exact hc.2.trans (congrArg some e2)
theorem ExSt.start(hw:LkW B w K adr gv Gn st){X w2:World}{l:List (Value×Value)}{vp:Option Addr}{vc:Nat}(hb:Below w.heap.size w X)(hk:KnAt w K kv known)(hr:PaRes X l (.returned (.slice vp l.length vc)) w2)(ha:PAll (POk d X K) l ps):ExSt B K adr gv Gn d w w2 st kv known vp vc l ps 0:=by
 obtain⟨h1,v',e,h2⟩:=hr;cases e;have hE:EF K w w2:=(EF.of_below hb).trans (EF.of_below h1);have hKl:K<w.heap.size:=hw.ls.lt;refine⟨(hw.keep hb).keep h1,hE,h2.low (by have:=hb.size;omega),ha.mono λ_ _ hh=>hh.ef (EF.of_below h1),hk.ef hE⟩
end
theorem ta_num(x:Value)(w:World):Sem.run Tryz.prog (Instr.typeAssert (.iface 170 x) 102 91 true) w=.ok (.tuple #[.agg #[.string ⟨#[]⟩,.int .i64 0],.bool false]) w:=by kernel_rfl
theorem ta_call(x:Value)(w:World):Sem.run Tryz.prog (Instr.typeAssert (.iface 202 x) 102 91 true) w=.ok (.tuple #[.agg #[.string ⟨#[]⟩,.int .i64 0],.bool false]) w:=by kernel_rfl
theorem ta_let(x:Value)(w:World):Sem.run Tryz.prog (Instr.typeAssert (.iface 187 x) 102 91 true) w=.ok (.tuple #[.agg #[.string ⟨#[]⟩,.int .i64 0],.bool false]) w:=by kernel_rfl
theorem ta_con(x:Value)(w:World):Sem.run Tryz.prog (Instr.typeAssert (.iface 191 x) 102 91 true) w=.ok (.tuple #[.agg #[.string ⟨#[]⟩,.int .i64 0],.bool false]) w:=by kernel_rfl
theorem ta_case(x:Value)(w:World):Sem.run Tryz.prog (Instr.typeAssert (.iface 194 x) 102 91 true) w=.ok (.tuple #[.agg #[.string ⟨#[]⟩,.int .i64 0],.bool false]) w:=by kernel_rfl
theorem ta_op(x:Value)(w:World):Sem.run Tryz.prog (Instr.typeAssert (.iface 184 x) 102 91 true) w=.ok (.tuple #[.agg #[.string ⟨#[]⟩,.int .i64 0],.bool false]) w:=by kernel_rfl
theorem ta_name(x:Value)(w:World):Sem.run Tryz.prog (Instr.typeAssert (.iface 91 x) 102 91 true) w=.ok (.tuple #[x,.bool true]) w:=by kernel_rfl
theorem mp_num(x:Value)(w:World):Sem.run Tryz.prog (method 362 170 x "Parts") w=.ok (162,x) w:=by kernel_rfl
theorem mp_call(x:Value)(w:World):Sem.run Tryz.prog (method 362 202 x "Parts") w=.ok (168,x) w:=by kernel_rfl
theorem mp_let(x:Value)(w:World):Sem.run Tryz.prog (method 362 187 x "Parts") w=.ok (165,x) w:=by kernel_rfl
theorem mp_con(x:Value)(w:World):Sem.run Tryz.prog (method 362 191 x "Parts") w=.ok (166,x) w:=by kernel_rfl
theorem mp_case(x:Value)(w:World):Sem.run Tryz.prog (method 362 194 x "Parts") w=.ok (167,x) w:=by kernel_rfl
theorem mp_op(x:Value)(w:World):Sem.run Tryz.prog (method 362 184 x "Parts") w=.ok (163,x) w:=by kernel_rfl
theorem mp_name(x:Value)(w:World):Sem.run Tryz.prog (method 362 91 x "Parts") w=.ok (147,x) w:=by kernel_rfl
theorem expr_node{B:World}{K:Nat}{adr:Nat->Addr}{gv:Value}{Gn:Nms}{d:Nat}(hP:LkPC B K adr gv Gn d){w:World}{T F:Nat}{x:Value}{e:Ex}{bs:List Nat}{kp:Option Addr}{kn kc:Nat}{known:Nms}{st:LkT}(hw:LkW B w K adr gv Gn st)(hx:PX (d+1) w (.iface T x,e,bs))(hK:K∉bs)(hbs:∀b∈bs,b<w.heap.size)(hnn:∀g t pl,e≠.name g t pl)(hKP:KP T F)(hPC:PartsC d K F (.iface T x) x e bs)(hk:KnAt w K (.slice kp kn kc) known)(hl:known.length+2001*(d+1)<=100000)(hlen:(xPr e).length<=10000):
 Calls Tryz.prog 56 #[.pointer (some ⟨K,0,none⟩),.iface T x,.slice kp kn kc] w λe' w'=>LkRes K gv adr w (ntF st (gE (gfn Gn) (d+1) (known.map (·.1)) e)) e' w':=by
 rw[gE_succ hnn];have HC:Hid (∀X,Below w.heap.size w X->Calls Tryz.prog F #[x] X λe' w2=>∃l vp vc,e'=.returned (.slice vp l.length vc)∧l.length=(xPr e).length∧Hid (ExSt B K adr gv Gn d w w2 st (.slice kp kn kc) known vp vc l (xPr e) 0)):=by
  intro X hb;refine(hPC X (hx.ef (EF.of_below hb) hK hbs) (λb h=>Nat.lt_of_lt_of_le (hbs b h) hb.size)).mono ?_;rintro e' w2 ⟨l,h1,h2⟩;obtain⟨vp,vc,rfl⟩:=h1.slice;exact⟨l,vp,vc,rfl,h2.len,ExSt.start hw hb hk h1 h2⟩
 have HP:=hid hP;clear hPC hx hw hk hP hbs hK hnn;rcases hKP with⟨rfl,rfl⟩|⟨rfl,rfl⟩|⟨rfl,rfl⟩|⟨rfl,rfl⟩|⟨rfl,rfl⟩|⟨rfl,rfl⟩
 ·have hta:=ta_num;have hmp:=mp_num;go_enter Tryz.func56,Tryz.ntmps56;go_upto_region 1 with(fail)
  go_region
  go_wp2_with (first
   |(go_at_call 162;refine(HC.out _ (below_drew1 ((Below.refl _ _).alloc (Nat.le_refl _) _))).mono ?_;rintro e' w2 ⟨l,vp,vc,rfl,hll,HS0⟩;have hlb:l.length<=10000:=(by omega);have HLL:=hid hll;clear hll))
  clear HC hta hmp;go_loopw [41] (λjv wr=>∃k:Nat,k<=l.length∧jv=.int .i64 (k:Int)∧Hid (ExSt B K adr gv Gn d w wr st (.slice kp kn kc) known vp vc l (xPr e) k)) (λjv _=>l.length-(intOf jv).toNat)
  case atStart=>exact⟨0,Nat.zero_le _,rfl,HS0.out⟩
  case round=>
   clear HS0;obtain⟨k,hk,rfl,HS⟩:=hrel;rename World=>wr
   by_cases hlt:k<l.length
   ·have h0:(0:Int)<=(k:Int):=by omega
    have h1:(k:Int)<(l.length:Int):=by omega
    obtain⟨g,pt,px,np,nn,nc,rfl,e1,e2,c0,c1⟩:=HS.out.at_ hlt;have HP2:=hid (HS.out.step HP.out hlt hl);rw[e1,e2]at HP2;clear e1 e2;go_wp2_with (first
     |(go_at_call 36;refine(HP2.out _).mono ?_;rintro e' w3 ⟨rfl,hs3⟩;have HS3:=hid hs3;clear hs3))
    exact⟨⟨k+1,by omega,by go_num,HS3.out⟩,by simp[intOf];omega⟩
   ·obtain rfl:k=l.length:=by omega
    have hge:¬(l.length:Int)<(l.length:Int):=by omega
    go_wp2;refine bE ?_;have hlk:=HS.out.lk;rw[HLL.out,List.take_length]at hlk;exact⟨rfl,HS.out.ef,hlk.ls⟩
 ·have hta:=ta_call;have hmp:=mp_call;go_enter Tryz.func56,Tryz.ntmps56;go_upto_region 1 with(fail)
  go_region
  go_wp2_with (first
   |(go_at_call 168;refine(HC.out _ (below_drew1 ((Below.refl _ _).alloc (Nat.le_refl _) _))).mono ?_;rintro e' w2 ⟨l,vp,vc,rfl,hll,HS0⟩;have hlb:l.length<=10000:=(by omega);have HLL:=hid hll;clear hll))
  clear HC hta hmp;go_loopw [41] (λjv wr=>∃k:Nat,k<=l.length∧jv=.int .i64 (k:Int)∧Hid (ExSt B K adr gv Gn d w wr st (.slice kp kn kc) known vp vc l (xPr e) k)) (λjv _=>l.length-(intOf jv).toNat)
  case atStart=>exact⟨0,Nat.zero_le _,rfl,HS0.out⟩
  case round=>
   clear HS0;obtain⟨k,hk,rfl,HS⟩:=hrel;rename World=>wr
   by_cases hlt:k<l.length
   ·have h0:(0:Int)<=(k:Int):=by omega
    have h1:(k:Int)<(l.length:Int):=by omega
    obtain⟨g,pt,px,np,nn,nc,rfl,e1,e2,c0,c1⟩:=HS.out.at_ hlt;have HP2:=hid (HS.out.step HP.out hlt hl);rw[e1,e2]at HP2;clear e1 e2;go_wp2_with (first
     |(go_at_call 36;refine(HP2.out _).mono ?_;rintro e' w3 ⟨rfl,hs3⟩;have HS3:=hid hs3;clear hs3))
    exact⟨⟨k+1,by omega,by go_num,HS3.out⟩,by simp[intOf];omega⟩
   ·obtain rfl:k=l.length:=by omega
    have hge:¬(l.length:Int)<(l.length:Int):=by omega
    go_wp2;refine bE ?_;have hlk:=HS.out.lk;rw[HLL.out,List.take_length]at hlk;exact⟨rfl,HS.out.ef,hlk.ls⟩
 ·have hta:=ta_let;have hmp:=mp_let;go_enter Tryz.func56,Tryz.ntmps56;go_upto_region 1 with(fail)
  go_region
  go_wp2_with (first
   |(go_at_call 165;refine(HC.out _ (below_drew1 ((Below.refl _ _).alloc (Nat.le_refl _) _))).mono ?_;rintro e' w2 ⟨l,vp,vc,rfl,hll,HS0⟩;have hlb:l.length<=10000:=(by omega);have HLL:=hid hll;clear hll))
  clear HC hta hmp;go_loopw [41] (λjv wr=>∃k:Nat,k<=l.length∧jv=.int .i64 (k:Int)∧Hid (ExSt B K adr gv Gn d w wr st (.slice kp kn kc) known vp vc l (xPr e) k)) (λjv _=>l.length-(intOf jv).toNat)
  case atStart=>exact⟨0,Nat.zero_le _,rfl,HS0.out⟩
  case round=>
   clear HS0;obtain⟨k,hk,rfl,HS⟩:=hrel;rename World=>wr
   by_cases hlt:k<l.length
   ·have h0:(0:Int)<=(k:Int):=by omega
    have h1:(k:Int)<(l.length:Int):=by omega
    obtain⟨g,pt,px,np,nn,nc,rfl,e1,e2,c0,c1⟩:=HS.out.at_ hlt;have HP2:=hid (HS.out.step HP.out hlt hl);rw[e1,e2]at HP2;clear e1 e2;go_wp2_with (first
     |(go_at_call 36;refine(HP2.out _).mono ?_;rintro e' w3 ⟨rfl,hs3⟩;have HS3:=hid hs3;clear hs3))
    exact⟨⟨k+1,by omega,by go_num,HS3.out⟩,by simp[intOf];omega⟩
   ·obtain rfl:k=l.length:=by omega
    have hge:¬(l.length:Int)<(l.length:Int):=by omega
    go_wp2;refine bE ?_;have hlk:=HS.out.lk;rw[HLL.out,List.take_length]at hlk;exact⟨rfl,HS.out.ef,hlk.ls⟩
 ·have hta:=ta_con;have hmp:=mp_con;go_enter Tryz.func56,Tryz.ntmps56;go_upto_region 1 with(fail)
  go_region
  go_wp2_with (first
   |(go_at_call 166;refine(HC.out _ (below_drew1 ((Below.refl _ _).alloc (Nat.le_refl _) _))).mono ?_;rintro e' w2 ⟨l,vp,vc,rfl,hll,HS0⟩;have hlb:l.length<=10000:=(by omega);have HLL:=hid hll;clear hll))
  clear HC hta hmp;go_loopw [41] (λjv wr=>∃k:Nat,k<=l.length∧jv=.int .i64 (k:Int)∧Hid (ExSt B K adr gv Gn d w wr st (.slice kp kn kc) known vp vc l (xPr e) k)) (λjv _=>l.length-(intOf jv).toNat)
  case atStart=>exact⟨0,Nat.zero_le _,rfl,HS0.out⟩
  case round=>
   clear HS0;obtain⟨k,hk,rfl,HS⟩:=hrel;rename World=>wr
   by_cases hlt:k<l.length
   ·have h0:(0:Int)<=(k:Int):=by omega
    have h1:(k:Int)<(l.length:Int):=by omega
    obtain⟨g,pt,px,np,nn,nc,rfl,e1,e2,c0,c1⟩:=HS.out.at_ hlt;have HP2:=hid (HS.out.step HP.out hlt hl);rw[e1,e2]at HP2;clear e1 e2;go_wp2_with (first
     |(go_at_call 36;refine(HP2.out _).mono ?_;rintro e' w3 ⟨rfl,hs3⟩;have HS3:=hid hs3;clear hs3))
    exact⟨⟨k+1,by omega,by go_num,HS3.out⟩,by simp[intOf];omega⟩
   ·obtain rfl:k=l.length:=by omega
    have hge:¬(l.length:Int)<(l.length:Int):=by omega
    go_wp2;refine bE ?_;have hlk:=HS.out.lk;rw[HLL.out,List.take_length]at hlk;exact⟨rfl,HS.out.ef,hlk.ls⟩
 ·have hta:=ta_case;have hmp:=mp_case;go_enter Tryz.func56,Tryz.ntmps56;go_upto_region 1 with(fail)
  go_region
  go_wp2_with (first
   |(go_at_call 167;refine(HC.out _ (below_drew1 ((Below.refl _ _).alloc (Nat.le_refl _) _))).mono ?_;rintro e' w2 ⟨l,vp,vc,rfl,hll,HS0⟩;have hlb:l.length<=10000:=(by omega);have HLL:=hid hll;clear hll))
  clear HC hta hmp;go_loopw [41] (λjv wr=>∃k:Nat,k<=l.length∧jv=.int .i64 (k:Int)∧Hid (ExSt B K adr gv Gn d w wr st (.slice kp kn kc) known vp vc l (xPr e) k)) (λjv _=>l.length-(intOf jv).toNat)
  case atStart=>exact⟨0,Nat.zero_le _,rfl,HS0.out⟩
  case round=>
   clear HS0;obtain⟨k,hk,rfl,HS⟩:=hrel;rename World=>wr
   by_cases hlt:k<l.length
   ·have h0:(0:Int)<=(k:Int):=by omega
    have h1:(k:Int)<(l.length:Int):=by omega
    obtain⟨g,pt,px,np,nn,nc,rfl,e1,e2,c0,c1⟩:=HS.out.at_ hlt;have HP2:=hid (HS.out.step HP.out hlt hl);rw[e1,e2]at HP2;clear e1 e2;go_wp2_with (first
     |(go_at_call 36;refine(HP2.out _).mono ?_;rintro e' w3 ⟨rfl,hs3⟩;have HS3:=hid hs3;clear hs3))
    exact⟨⟨k+1,by omega,by go_num,HS3.out⟩,by simp[intOf];omega⟩
   ·obtain rfl:k=l.length:=by omega
    have hge:¬(l.length:Int)<(l.length:Int):=by omega
    go_wp2;refine bE ?_;have hlk:=HS.out.lk;rw[HLL.out,List.take_length]at hlk;exact⟨rfl,HS.out.ef,hlk.ls⟩
 ·have hta:=ta_op;have hmp:=mp_op;go_enter Tryz.func56,Tryz.ntmps56;go_upto_region 1 with(fail)
  go_region
  go_wp2_with (first
   |(go_at_call 163;refine(HC.out _ (below_drew1 ((Below.refl _ _).alloc (Nat.le_refl _) _))).mono ?_;rintro e' w2 ⟨l,vp,vc,rfl,hll,HS0⟩;have hlb:l.length<=10000:=(by omega);have HLL:=hid hll;clear hll))
  clear HC hta hmp;go_loopw [41] (λjv wr=>∃k:Nat,k<=l.length∧jv=.int .i64 (k:Int)∧Hid (ExSt B K adr gv Gn d w wr st (.slice kp kn kc) known vp vc l (xPr e) k)) (λjv _=>l.length-(intOf jv).toNat)
  case atStart=>exact⟨0,Nat.zero_le _,rfl,HS0.out⟩
  case round=>
   clear HS0;obtain⟨k,hk,rfl,HS⟩:=hrel;rename World=>wr
   by_cases hlt:k<l.length
   ·have h0:(0:Int)<=(k:Int):=by omega
    have h1:(k:Int)<(l.length:Int):=by omega
    obtain⟨g,pt,px,np,nn,nc,rfl,e1,e2,c0,c1⟩:=HS.out.at_ hlt;have HP2:=hid (HS.out.step HP.out hlt hl);rw[e1,e2]at HP2;clear e1 e2;go_wp2_with (first
     |(go_at_call 36;refine(HP2.out _).mono ?_;rintro e' w3 ⟨rfl,hs3⟩;have HS3:=hid hs3;clear hs3))
    exact⟨⟨k+1,by omega,by go_num,HS3.out⟩,by simp[intOf];omega⟩
   ·obtain rfl:k=l.length:=by omega
    have hge:¬(l.length:Int)<(l.length:Int):=by omega
    go_wp2;refine bE ?_;have hlk:=HS.out.lk;rw[HLL.out,List.take_length]at hlk;exact⟨rfl,HS.out.ef,hlk.ls⟩
end Go.Proofs.YtlanckgcjijefaaGreatDoor
