import Derived.Test.YtefpamchdheldaaGreatDoorEye6J
import Derived.Deep.CutBlock
import Derived.Laws.OwnMore
set_option maxRecDepth 100000
set_option maxHeartbeats 8000000
namespace Go.Proofs.YtefpamchdheldaaGreatDoor
open Go.RowKit Go.Sort
theorem stOf_ok{α:Type}{r:Rd α}{q:Nat}(h:stOf r=.ok q):∃x,r=.ok (x,q):=by
 match r,h with
 |.ok (x,q'),h=>cases h;exact⟨x,rfl⟩
theorem stOf_err{α:Type}{r:Rd α}{e:Nat×Nat}(h:stOf r=.error e):r=.error e:=by
 match r,h with
 |.error e',h=>cases h;rfl
theorem nx_ok{α:Type}{st:Except (Nat×Nat) Nat}{f:Nat->Rd α}{x:α}{q:Nat}(h:nx st f=.ok (x,q)):∃p,st=.ok p∧f p=.ok (x,q):=by
 match st,h with
 |.ok p,h=>exact⟨p,rfl,h⟩
theorem RowS.away{α:Type}{cells:α->List Value}{sub:α->List Nat}{ok:World->α->Prop}{e:TypeId}{size:Nat}{w:World}{lo:Nat}{v:Value}{xs:List α}(h:RowS cells sub ok e size w lo v xs){E:Nat}(hE:E<lo):Away E v:=by
 intro p n c hv a ha;subst hv ha;rcases row_at h.own with⟨h1,-⟩|⟨g,cap,h1,-⟩
 ·simp at h1
 ·simp only[Value.slice.injEq,Option.some.injEq]at h1;have h2:=h.rg g (List.mem_append_left _ (mem_vB.2 (by rw[h1.1];rfl)));rw[h1.1];show g≠E;omega
structure Bx4 (w:World) (b:Nat) (x y z u:Value):Prop where
 c0:w.cell? ⟨b,0,none⟩=some x
 c1:w.cell? ⟨b,1,none⟩=some y
 c2:w.cell? ⟨b,2,none⟩=some z
 c3:w.cell? ⟨b,3,none⟩=some u
 f0:w.frozen? ⟨b,0,none⟩=false
 f1:w.frozen? ⟨b,1,none⟩=false
 f2:w.frozen? ⟨b,2,none⟩=false
 f3:w.frozen? ⟨b,3,none⟩=false
theorem Bx4.new(w:World)(x y z u:Value)(t:TypeId):Bx4 (w.alloc (.cells #[x,y,z,u] t)) w.heap.size x y z u:=⟨by simp,by simp,by simp,by simp,by simp,by simp,by simp,by simp⟩
theorem Bx4.lt{w:World}{b:Nat}{x y z u:Value}(h:Bx4 w b x y z u):b<w.heap.size:=block_lt_of_cell h.c0
theorem Bx4.of_block{w w':World}{b:Nat}{x y z u:Value}(h:Bx4 w b x y z u)(e:w'.heap[b]?=w.heap[b]?):Bx4 w' b x y z u:=by
 refine⟨?_,?_,?_,?_,?_,?_,?_,?_⟩
 ·rw[World.cell?_of_block (a:=⟨b,0,none⟩) e];exact h.c0
 ·rw[World.cell?_of_block (a:=⟨b,1,none⟩) e];exact h.c1
 ·rw[World.cell?_of_block (a:=⟨b,2,none⟩) e];exact h.c2
 ·rw[World.cell?_of_block (a:=⟨b,3,none⟩) e];exact h.c3
 ·rw[World.frozen?_of_block (a:=⟨b,0,none⟩) e];exact h.f0
 ·rw[World.frozen?_of_block (a:=⟨b,1,none⟩) e];exact h.f1
 ·rw[World.frozen?_of_block (a:=⟨b,2,none⟩) e];exact h.f2
 ·rw[World.frozen?_of_block (a:=⟨b,3,none⟩) e];exact h.f3
theorem Bx4.off{bs:List Nat}{w w':World}{b:Nat}{x y z u:Value}(h:Bx4 w b x y z u)(ho:Off bs w w')(hn:b∉bs):Bx4 w' b x y z u:=h.of_block (ho.block b h.lt hn)
theorem Bx4.ef{E:Nat}{w w':World}{b:Nat}{x y z u:Value}(h:Bx4 w b x y z u)(hE:EF E w w')(hne:b≠E):Bx4 w' b x y z u:=h.of_block (hE.block b h.lt hne)
theorem Bx4.keep{w w':World}{b:Nat}{x y z u:Value}(h:Bx4 w b x y z u)(hb:Below w.heap.size w w'):Bx4 w' b x y z u:=h.of_block (hb.block b h.lt)
theorem Bx4.set1{w:World}{b:Nat}{x y z u:Value}(h:Bx4 w b x y z u)(v:Value):Bx4 (w.setCell ⟨b,1,none⟩ v) b x v z u:=
 ⟨by rw[World.cell?_setCell_other _ _ _ _ (off_ne (by omega))];exact h.c0,World.cell?_setCell_same _ _ _ h.c1,by rw[World.cell?_setCell_other _ _ _ _ (off_ne (by omega))];exact h.c2,by rw[World.cell?_setCell_other _ _ _ _ (off_ne (by omega))];exact h.c3,by rw[World.frozen?_setCell];exact h.f0,by rw[World.frozen?_setCell];exact h.f1,by rw[World.frozen?_setCell];exact h.f2,by rw[World.frozen?_setCell];exact h.f3⟩
theorem Bx4.set2{w:World}{b:Nat}{x y z u:Value}(h:Bx4 w b x y z u)(v:Value):Bx4 (w.setCell ⟨b,2,none⟩ v) b x y v u:=
 ⟨by rw[World.cell?_setCell_other _ _ _ _ (off_ne (by omega))];exact h.c0,by rw[World.cell?_setCell_other _ _ _ _ (off_ne (by omega))];exact h.c1,World.cell?_setCell_same _ _ _ h.c2,by rw[World.cell?_setCell_other _ _ _ _ (off_ne (by omega))];exact h.c3,by rw[World.frozen?_setCell];exact h.f0,by rw[World.frozen?_setCell];exact h.f1,by rw[World.frozen?_setCell];exact h.f2,by rw[World.frozen?_setCell];exact h.f3⟩
theorem Bx4.set3{w:World}{b:Nat}{x y z u:Value}(h:Bx4 w b x y z u)(v:Value):Bx4 (w.setCell ⟨b,3,none⟩ v) b x y z v:=
 ⟨by rw[World.cell?_setCell_other _ _ _ _ (off_ne (by omega))];exact h.c0,by rw[World.cell?_setCell_other _ _ _ _ (off_ne (by omega))];exact h.c1,by rw[World.cell?_setCell_other _ _ _ _ (off_ne (by omega))];exact h.c2,World.cell?_setCell_same _ _ _ h.c3,by rw[World.frozen?_setCell];exact h.f0,by rw[World.frozen?_setCell];exact h.f1,by rw[World.frozen?_setCell];exact h.f2,by rw[World.frozen?_setCell];exact h.f3⟩
theorem stays_alloc_app{w X0 w6:World}{v:Value}{ob:Obj}(hg:(X0.alloc ob).grownBy w6 v.ownBlock){b lo:Nat}(hb:b<X0.heap.size){α:Type}{cells:α->List Value}{sub:α->List Nat}{ok:World->α->Prop}{e:TypeId}{size:Nat}{xs:List α}(h:RowS cells sub ok e size w lo v xs)(hl:b<lo):w6.heap[b]?=X0.heap[b]?:=by
 rw[(Off.app hg).block b (by simp;omega) (h.notIn hl)];exact((Below.refl X0.heap.size X0).alloc (Nat.le_refl _) ob).block b hb
structure ImpSt (E R O:Nat) (s nm:ByteArray) (n:Nat) (T:Rd (List LImp)) (w2 wr:World) (got:List LImp) (last:ByteArray) (st:Except (Nat×Nat) Nat) (vp:Option Addr) (vc:Nat):Prop where
 le:got.length<=n
 eye:EyeSt wr E s st
 r:Bx3 wr R (.string ⟨#[]⟩) (.slice none 0 0) (.slice none 0 0)
 o:Bx3 wr O (.string nm) (.slice vp got.length vc) (.slice none 0 0)
 row:ImpsO wr w2.heap.size (.slice vp got.length vc) got
 nms:∀x∈got,x.name.size<=16
 rd:T=nx st (rdImps s (n-got.length) got last)
 small:∀p,st=.ok p->got.length<=p
 bnd:got.length<=s.size+1
 off:Off [E,O] w2 wr
theorem ImpSt.app{E R O:Nat}{s nm:ByteArray}{n:Nat}{T:Rd (List LImp)}{w2 wr X0 w6:World}{got:List LImp}{last:ByteArray}{st:Except (Nat×Nat) Nat}{vp:Option Addr}{vc:Nat}{ob:Obj}(hc:ImpSt E R O s nm n T w2 wr got last st vp vc)(hOX:Off [E] wr X0)(hEO:O≠E)(hO:O<w2.heap.size)(hg:(X0.alloc ob).grownBy w6 (Value.slice vp got.length vc).ownBlock):Bx3 w6 O (.string nm) (.slice vp got.length vc) (.slice none 0 0):=
 (hc.o.off hOX (by simpa using hEO)).of_block (stays_alloc_app hg (Nat.lt_of_lt_of_le hc.o.lt hOX.size) hc.row hO)
theorem ImpSt.next{E R O:Nat}{s nm:ByteArray}{n:Nat}{T:Rd (List LImp)}{w2 wr X0 w6:World}{got:List LImp}{last:ByteArray}{p3:Nat}{vp:Option Addr}{vc:Nat}{ob:Obj}(hc:ImpSt E R O s nm n T w2 wr got last (.ok p3) vp vc)(hlt:got.length<n)(hOX:Off [E] wr X0)(hE:E<R)(hR:R<O)(hO:O<w2.heap.size)(t:ByteArray)(a:Nat)(ht:t.size<=16)
 (h1:∀t' q,rdNameB s last [] p3=.ok (t',q)->t=t') (h2:∀a' q,nx (stOf (rdNameB s last [] p3)) (rdN s 0 20)=.ok (a',q)->a=a') (hS:EyeSt X0 E s (stOf (nx (stOf (rdNameB s last [] p3)) (rdN s 0 20))))
 (hg:(X0.alloc ob).grownBy w6 (Value.slice vp got.length vc).ownBlock) {g c:Nat} (hat:(Value.slice vp got.length vc).ownBlock=some g∨g=(X0.alloc ob).heap.size) (hlg:g<w6.heap.size) (hown:w6.ownsRow 0 63 2 (.slice (some ⟨g,0,none⟩) (got.length+1) c) (got.length+1) (got.flatMap impC++[.string t,.int .i64 (a:Int)])):
 ImpSt E R O s nm n T w2 (w6.setCell ⟨O,1,none⟩ (.slice (some ⟨g,0,none⟩) (got.length+1) c)) (got++[⟨t,a⟩]) t (stOf (nx (stOf (rdNameB s last [] p3)) (rdN s 0 20))) (some ⟨g,0,none⟩) c:=by
 have hl:(got++[(⟨t,a⟩:LImp)]).length=got.length+1:=by simp
 have hrow:=hc.row.off okImp hOX (by simp;omega);have hb:Below X0.heap.size X0 (X0.alloc ob):=(Below.refl _ _).alloc (Nat.le_refl _) _;have hsz:w2.heap.size<=X0.heap.size:=Nat.le_trans hc.off.size hOX.size;have hpush:ImpsO w6 w2.heap.size (.slice (some ⟨g,0,none⟩) (got.length+1) c) (got++[⟨t,a⟩]):=hrow.push okImp hsz (λb hb'=>hb.block b (hrow.rg b hb').2) hb.size trivial (λb hb'=>by cases hb') List.nodup_nil hg rfl hat hlg hown;have ho6:Off (vB (Value.slice vp got.length vc)) (X0.alloc ob) w6:=Off.app hg;have hset:Off [O] w6 (w6.setCell ⟨O,1,none⟩ (.slice (some ⟨g,0,none⟩) (got.length+1) c)):=(Off.refl _ _).set (Or.inl (by simp)) _;refine⟨by omega,((hS.keep hb).off ho6 (hrow.notIn (by omega))).off hset (by simp;omega),(((hc.r.off hOX (by simp;omega)).keep hb).off ho6 (hrow.notIn (by omega))).off hset (by simp;omega),?_,?_,?_,?_,?_,?_,?_⟩
 ·rw[hl];exact(hc.app hOX (by omega) hO hg).set1 _
 ·rw[hl];exact hpush.off okImp hset (by simp;omega)
 ·intro x hx;rcases List.mem_append.1 hx with hx|hx
  ·exact hc.nms x hx
  ·obtain rfl:=List.mem_singleton.1 hx;exact ht
 ·rw[hc.rd];show rdImps s (n-got.length) got last p3=_;rw[show n-got.length=(n-(got++[(⟨t,a⟩:LImp)]).length)+1 by omega];exact imp_step s last t _ got p3 a h1 h2
 ·intro p hp;obtain⟨x,h3⟩:=stOf_ok hp;obtain⟨q,h4,h5⟩:=nx_ok h3;obtain⟨y,h6⟩:=stOf_ok h4;have k1:=rdName_ok (rdNameB_ok h6).1;have k2:=rdN_ok h5;have k3:=hc.small _ rfl;omega
 ·have k3:=hc.small _ rfl;have k4:=hc.eye.2;omega
 ·refine(Off.trans ?_ ((Off.refl _ _).set (Or.inl (by simp)) _));refine(((hc.off.trans (hOX.more (by simp))).alloc ob).grown hg λb e=>Or.inr ?_);exact(hrow.rg b (List.mem_append_left _ (mem_vB.2 e))).1
def insOf(r:Rd LIns)(op a:Int):LIns:=
 match r with
 |.ok (x,_)=>x
 |.error _=>⟨op,a,[]⟩
structure CodeSt (E G:Nat) (s:ByteArray) (n:Nat) (T:Rd (List LIns)) (w7 wr:World) (got:InsL) (st:Except (Nat×Nat) Nat) (vp:Option Addr) (vc:Nat) (x0 x1 x2:Value):Prop where
 le:got.length<=n
 eye:EyeSt wr E s st
 g:Bx4 wr G x0 x1 x2 (.slice vp got.length vc)
 row:(∃p,st=.ok p)->CodeO wr w7.heap.size (.slice vp got.length vc) got
 rd:T=nx st (rdCode s (n-got.length) (got.map (·.1)))
 small:∀p,st=.ok p->got.length<=p
 off:Off [E,G] w7 wr
theorem CodeSt.app{E G:Nat}{s:ByteArray}{n:Nat}{T:Rd (List LIns)}{w7 wr X0 w9:World}{got:InsL}{p3:Nat}{vp:Option Addr}{vc:Nat}{x0 x1 x2:Value}{ob:Obj}(hc:CodeSt E G s n T w7 wr got (.ok p3) vp vc x0 x1 x2)(hOX:Off [E] wr X0)(hEG:G≠E)(hG:G<w7.heap.size)(hg:(X0.alloc ob).grownBy w9 (Value.slice vp got.length vc).ownBlock):Bx4 w9 G x0 x1 x2 (.slice vp got.length vc):=
 (hc.g.off hOX (by simpa using hEG)).of_block (stays_alloc_app hg (Nat.lt_of_lt_of_le hc.g.lt hOX.size) (hc.row ⟨_,rfl⟩) hG)
theorem CodeSt.next{E G:Nat}{s:ByteArray}{n:Nat}{T:Rd (List LIns)}{w7 wr w8 X0 w9:World}{got:InsL}{p3:Nat}{vp:Option Addr}{vc:Nat}{x0 x1 x2:Value}{ob:Obj}(hc:CodeSt E G s n T w7 wr got (.ok p3) vp vc x0 x1 x2)(hlt:got.length<n)(hE8:EF E wr w8)(hX:Below w8.heap.size w8 X0)(hE:E<G)(hG:G<w7.heap.size)(op a:Int)(ap:Option Addr)(an ac:Nat)
 (hin:∀x q,rdIns s p3=.ok (x,q)->op=x.op∧a=x.a∧AltsO w8 wr.heap.size (.slice ap an ac) x.alts) (hS:EyeSt w8 E s (stOf (rdIns s p3)))
 (hg:(X0.alloc ob).grownBy w9 (Value.slice vp got.length vc).ownBlock) {g c:Nat} (hat:(Value.slice vp got.length vc).ownBlock=some g∨g=(X0.alloc ob).heap.size) (hlg:g<w9.heap.size) (hown:w9.ownsRow 0 75 3 (.slice (some ⟨g,0,none⟩) (got.length+1) c) (got.length+1) (got.flatMap insC++[.int .i64 op,.int .i64 a,.slice ap an ac])):
 CodeSt E G s n T w7 (w9.setCell ⟨G,3,none⟩ (.slice (some ⟨g,0,none⟩) (got.length+1) c)) (got++[(insOf (rdIns s p3) op a,.slice ap an ac)]) (stOf (rdIns s p3)) (some ⟨g,0,none⟩) c x0 x1 x2:=by
 have hl:(got++[((insOf (rdIns s p3) op a,.slice ap an ac):LIns×Value)]).length=got.length+1:=by simp
 have hOX:Off [E] wr X0:=(Off.of_ef hE8 (by simp)).trans (Off.of_below hX);have hr0:=hc.row ⟨_,rfl⟩;have hrow:=hr0.off okIns hOX (by simp;omega);have hb:Below X0.heap.size X0 (X0.alloc ob):=(Below.refl _ _).alloc (Nat.le_refl _) _;have hsz:w7.heap.size<=X0.heap.size:=Nat.le_trans hc.off.size hOX.size;have ho6:Off (vB (Value.slice vp got.length vc)) (X0.alloc ob) w9:=Off.app hg;have hset:Off [G] w9 (w9.setCell ⟨G,3,none⟩ (.slice (some ⟨g,0,none⟩) (got.length+1) c)):=(Off.refl _ _).set (Or.inl (by simp)) _;refine⟨by omega,(((hS.keep hX).keep hb).off ho6 (hrow.notIn (by omega))).off hset (by simp;omega),?_,?_,?_,?_,?_⟩
 ·rw[hl];exact(hc.app hOX (by omega) hG hg).set3 _
 ·rintro⟨p,hp⟩;rw[hl];obtain⟨x,hx⟩:=stOf_ok hp;obtain⟨e1,e2,hA⟩:=hin x p hx;rw[show insOf (rdIns s p3) op a=x by rw[hx];rfl];subst e1 e2;have hbX:Below w8.heap.size w8 (X0.alloc ob):=hX.trans (by have:=hX.size;exact(Below.refl _ _).alloc this _);have hp9:CodeO w9 w7.heap.size (.slice (some ⟨g,0,none⟩) (got.length+1) c) (got++[(x,.slice ap an ac)]):=by
   refine hr0.push okIns hc.off.size (w1:=X0.alloc ob) (x:=(x,.slice ap an ac)) (λb hb'=>?_) (Nat.le_trans hOX.size hb.size) ((hA.keep okAlt hbX).low (Nat.zero_le _)) (λb hb'=>?_) hA.nd hg rfl hat hlg hown
   ·have h1:=hr0.rg b hb';have h2:=hOX.size;rw[hb.block b (by omega)];exact hOX.block b h1.2 (by simp;omega)
   ·have h1:=hA.rg b hb';have h2:=hX.size;have h3:=hb.size;omega
  exact hp9.off okIns hset (by simp;omega)
 ·rw[hc.rd];show rdCode s (n-got.length) (got.map (·.1)) p3=_;rw[show n-got.length=(n-(got++[((insOf (rdIns s p3) op a,.slice ap an ac):LIns×Value)]).length)+1 by omega,List.map_append];exact code_step s _ _ p3 _ λx q h=>by rw[h];rfl
 ·intro p hp;obtain⟨x,h3⟩:=stOf_ok hp;have k1:=rdIns_ok h3;have k3:=hc.small _ rfl;omega
 ·refine(Off.trans ?_ ((Off.refl _ _).set (Or.inl (by simp)) _));refine(((hc.off.trans (hOX.more (by simp))).alloc ob).grown hg λb e=>Or.inr ?_);exact(hrow.rg b (List.mem_append_left _ (mem_vB.2 e))).1
theorem CodeSt.end{E G:Nat}{s:ByteArray}{n:Nat}{T:Rd (List LIns)}{w7 wr:World}{got:InsL}{st:Except (Nat×Nat) Nat}{vp:Option Addr}{vc:Nat}{x0 x1 x2:Value}(hc:CodeSt E G s n T w7 wr got st vp vc x0 x1 x2)(hend:(∃e,st=.error e)∨got.length=n):stOf T=st∧∀l q,T=.ok (l,q)->got.map (·.1)=l:=by
 have hrd:=hc.rd;match st,hend with
 |.error e,_=>rw[hrd];exact⟨rfl,λl q h=>by cases h⟩
 |.ok q,Or.inr hn=>
  rw[hn,Nat.sub_self]at hrd;rw[hrd];exact⟨rfl,λl q h=>by cases h;rfl⟩
structure GlobSt (E R O lo:Nat) (s nm:ByteArray) (imps:List LImp) (ip:Option Addr) (ic n:Nat) (T:Rd (List LGlob)) (w4 wr:World) (got:GlobL) (last:ByteArray) (st:Except (Nat×Nat) Nat) (vp:Option Addr) (vc:Nat):Prop where
 le:got.length<=n
 eye:EyeSt wr E s st
 r:Bx3 wr R (.string ⟨#[]⟩) (.slice none 0 0) (.slice none 0 0)
 o:Bx3 wr O (.string nm) (.slice ip imps.length ic) (.slice vp got.length vc)
 imp:ImpsO wr lo (.slice ip imps.length ic) imps
 row:(∃p,st=.ok p)->GlobsO wr w4.heap.size (.slice vp got.length vc) got
 rd:T=nx st (rdGlobs s imps (n-got.length) (got.map (·.1)) last)
 small:∀p,st=.ok p->got.length<=p
 off:Off [E,O] w4 wr
theorem GlobSt.app{E R O lo:Nat}{s nm:ByteArray}{imps:List LImp}{ip:Option Addr}{ic n:Nat}{T:Rd (List LGlob)}{w4 wr X0 w9:World}{got:GlobL}{last:ByteArray}{p3:Nat}{vp:Option Addr}{vc:Nat}{ob:Obj}(hc:GlobSt E R O lo s nm imps ip ic n T w4 wr got last (.ok p3) vp vc)(hOX:Off [E] wr X0)(hEO:O≠E)(hO:O<w4.heap.size)(hg:(X0.alloc ob).grownBy w9 (Value.slice vp got.length vc).ownBlock):Bx3 w9 O (.string nm) (.slice ip imps.length ic) (.slice vp got.length vc):=
 (hc.o.off hOX (by simpa using hEO)).of_block (stays_alloc_app hg (Nat.lt_of_lt_of_le hc.o.lt hOX.size) (hc.row ⟨_,rfl⟩) hO)
theorem GlobSt.next{E R O lo G:Nat}{s nm:ByteArray}{imps:List LImp}{ip:Option Addr}{ic n c:Nat}{T:Rd (List LGlob)}{TC:Rd (List LIns)}{w4 wr w7 X0 w9:World}{got:GlobL}{last:ByteArray}{p3:Nat}{vp:Option Addr}{vc:Nat}{ob:Obj}{cgot:InsL}{cst:Except (Nat×Nat) Nat}{cp:Option Addr}{cc:Nat}{x0 x1 x2:Value}(hc:GlobSt E R O lo s nm imps ip ic n T w4 wr got last (.ok p3) vp vc)(hlt:got.length<n)(hOX:Off [E] wr X0)(hE:E<R)(hR:R<O)(hO:O<lo)(hlo:lo<=w4.heap.size)(hil:(∀b∈rowB (noB (α:=LImp)) (.slice ip imps.length ic) imps,b<w4.heap.size))
 (hcs:CodeSt E G s c TC w7 X0 cgot cst cp cc x0 x1 x2) (hw7:wr.heap.size<=w7.heap.size) (t:ByteArray) (ar ex:Nat) (hce:(∃e,cst=.error e)∨cgot.length=c)
 (hTC:TC=bd (nx (stOf (nx (stOf (nx (stOf (rdNameB s last imps p3)) (rdN s 0 20))) (rdN s 0 1))) (rdN s 0 65535)) (λc p=>rdCode s c [] p))
 (h1:∀t' q,rdNameB s last imps p3=.ok (t',q)->t=t') (h2:∀a' q,nx (stOf (rdNameB s last imps p3)) (rdN s 0 20)=.ok (a',q)->ar=a') (h3:∀a' q,nx (stOf (nx (stOf (rdNameB s last imps p3)) (rdN s 0 20))) (rdN s 0 1)=.ok (a',q)->ex=a')
 (hg:(X0.alloc ob).grownBy w9 (Value.slice vp got.length vc).ownBlock) {g k:Nat} (hat:(Value.slice vp got.length vc).ownBlock=some g∨g=(X0.alloc ob).heap.size) (hlg:g<w9.heap.size) (hown:w9.ownsRow 0 66 4 (.slice (some ⟨g,0,none⟩) (got.length+1) k) (got.length+1) (got.flatMap globC++[.string t,.int .i64 (ar:Int),.bool ((ex:Int)==1),.slice cp cgot.length cc])):
 GlobSt E R O lo s nm imps ip ic n T w4 (w9.setCell ⟨O,2,none⟩ (.slice (some ⟨g,0,none⟩) (got.length+1) k)) (got++[(⟨t,ar,(ex:Int)==1,cgot.map (·.1)⟩,.slice cp cgot.length cc,cgot)]) t cst (some ⟨g,0,none⟩) k:=by
 have hl:(got++[((⟨t,ar,(ex:Int)==1,cgot.map (·.1)⟩,.slice cp cgot.length cc,cgot):LGlob×Value×InsL)]).length=got.length+1:=by simp
 obtain⟨he1,he2⟩:=hcs.end hce;have hr0:=hc.row ⟨_,rfl⟩;have hrow:=hr0.off okGlob hOX (by simp;omega);have himp:=hc.imp.off okImp hOX (by simp;omega);have hb:Below X0.heap.size X0 (X0.alloc ob):=(Below.refl _ _).alloc (Nat.le_refl _) _;have hsz:w4.heap.size<=X0.heap.size:=Nat.le_trans hc.off.size hOX.size;have ho6:Off (vB (Value.slice vp got.length vc)) (X0.alloc ob) w9:=Off.app hg;have hset:Off [O] w9 (w9.setCell ⟨O,2,none⟩ (.slice (some ⟨g,0,none⟩) (got.length+1) k)):=(Off.refl _ _).set (Or.inl (by simp)) _;refine⟨by omega,((hcs.eye.keep hb).off ho6 (hrow.notIn (by omega))).off hset (by simp;omega),(((hc.r.off hOX (by simp;omega)).keep hb).off ho6 (hrow.notIn (by omega))).off hset (by simp;omega),?_,?_,?_,?_,?_,?_⟩
 ·rw[hl];exact(hc.app hOX (by omega) (by omega) hg).set2 _
 ·refine((himp.keep okImp hb).off okImp ho6 (λb hb'=>Or.inr (Or.inr λhm=>?_))).off okImp hset (by simp;omega);have h4:=hil b hm;have h5:=hrow.rg b (List.mem_append_left _ hb');omega
 ·rintro⟨p,hp⟩;rw[hl];have hC:=hcs.row ⟨p,hp⟩;have hp9:GlobsO w9 w4.heap.size (.slice (some ⟨g,0,none⟩) (got.length+1) k) (got++[(⟨t,ar,(ex:Int)==1,cgot.map (·.1)⟩,.slice cp cgot.length cc,cgot)]):=by
   refine hr0.push okGlob hc.off.size (w1:=X0.alloc ob) (x:=(⟨t,ar,(ex:Int)==1,cgot.map (·.1)⟩,.slice cp cgot.length cc,cgot)) (λb hb'=>?_) (Nat.le_trans hOX.size hb.size) ⟨(hC.keep okIns hb).low (Nat.zero_le _),rfl⟩ (λb hb'=>?_) hC.nd hg rfl hat hlg hown
   ·have h1:=hr0.rg b hb';have h2:=hOX.size;rw[hb.block b (by omega)];exact hOX.block b h1.2 (by simp;omega)
   ·have h1:=hC.rg b hb';have h3:=hb.size;omega
  exact hp9.off okGlob hset (by simp;omega)
 ·rw[hc.rd];show rdGlobs s imps (n-got.length) (got.map (·.1)) last p3=_;rw[show n-got.length=(n-(got++[((⟨t,ar,(ex:Int)==1,cgot.map (·.1)⟩,.slice cp cgot.length cc,cgot):LGlob×Value×InsL)]).length)+1 by omega,List.map_append,<-he1,hTC];exact glob_step s last t imps _ _ p3 ar ex (cgot.map (·.1)) h1 h2 h3 λl q h=>he2 l q (by rw[hTC];exact h)
 ·intro p hp;rw[<-he1,hTC]at hp;obtain⟨x,h4⟩:=stOf_ok hp;obtain⟨c',q4,h5,h6⟩:=bd_ok_inv h4;obtain⟨q3,h7,h8⟩:=nx_ok h5;obtain⟨_,h9⟩:=stOf_ok h7;obtain⟨q2,h10,h11⟩:=nx_ok h9;obtain⟨_,h12⟩:=stOf_ok h10;obtain⟨q1,h13,h14⟩:=nx_ok h12;obtain⟨_,h15⟩:=stOf_ok h13;have k1:=rdName_ok (rdNameB_ok h15).1;have k2:=rdN_ok h14;have k3:=rdN_ok h11;have k4:=rdN_ok h8;have k5:=rdCode_ok _ _ _ _ _ h6 (by omega);have k6:=hc.small _ rfl;omega
 ·refine(Off.trans ?_ ((Off.refl _ _).set (Or.inl (by simp)) _));refine(((hc.off.trans (hOX.more (by simp))).alloc ob).grown hg λb e=>Or.inr ?_);exact(hrow.rg b (List.mem_append_left _ (mem_vB.2 e))).1
structure ObjSt (E:Nat) (s:ByteArray) (r:Rd LObj) (w:World) (e:Ending) (w':World):Prop where
 ret:∃(nm:ByteArray) (ip:Option Addr) (il ic:Nat) (gp:Option Addr) (gl gc:Nat),e=.returned (.agg #[.string nm,.slice ip il ic,.slice gp gl gc])∧∀x q,r=.ok (x,q)->nm=x.name∧ImpsO w' w.heap.size (.slice ip il ic) x.imps∧∃G:GlobL,GlobsO w' w.heap.size (.slice gp gl gc) G∧G.map (·.1)=x.globs
 st:EyeSt w' E s (stOf r)
 ef:EF E w w'
def MarkIs(s:ByteArray)(k err pl:Nat):Prop:=(err=0∧pl=0∧rdMark s 4 0=rdMark s (4-k) k)∨(err=8∧rdMark s 4 0=.error (8,pl))
theorem ImpSt.end{E R O:Nat}{s nm:ByteArray}{n:Nat}{T:Rd (List LImp)}{w2 wr:World}{got:List LImp}{last:ByteArray}{st:Except (Nat×Nat) Nat}{vp:Option Addr}{vc:Nat}(hc:ImpSt E R O s nm n T w2 wr got last st vp vc)(hend:(∃e,st=.error e)∨got.length=n):stOf T=st∧∀l q,T=.ok (l,q)->got=l:=by
 have hrd:=hc.rd;match st,hend with
 |.error e,_=>rw[hrd];exact⟨rfl,λl q h=>by cases h⟩
 |.ok q,Or.inr hn=>
  rw[hn,Nat.sub_self]at hrd;rw[hrd];exact⟨rfl,λl q h=>by cases h;rfl⟩
theorem GlobSt.end{E R O lo:Nat}{s nm:ByteArray}{imps:List LImp}{ip:Option Addr}{ic n:Nat}{T:Rd (List LGlob)}{w4 wr:World}{got:GlobL}{last:ByteArray}{st:Except (Nat×Nat) Nat}{vp:Option Addr}{vc:Nat}(hc:GlobSt E R O lo s nm imps ip ic n T w4 wr got last st vp vc)(hend:(∃e,st=.error e)∨got.length=n):stOf T=st∧∀l q,T=.ok (l,q)->got.map (·.1)=l:=by
 have hrd:=hc.rd;match st,hend with
 |.error e,_=>rw[hrd];exact⟨rfl,λl q h=>by cases h⟩
 |.ok q,Or.inr hn=>
  rw[hn,Nat.sub_self]at hrd;rw[hrd];exact⟨rfl,λl q h=>by cases h;rfl⟩
theorem objDone{E:Nat}{s:ByteArray}{r:Rd LObj}{w wX:World}(hE:E<w.heap.size)(hS:EyeSt wX E s (stOf r))(hO:Off [E] w wX)(nm:ByteArray)(ip:Option Addr)(il ic:Nat)(gp:Option Addr)(gl gc:Nat)
 (hA:∀x q,r=.ok (x,q)->nm=x.name∧ImpsO wX (w.heap.size+1) (.slice ip il ic) x.imps∧∃G:GlobL,GlobsO wX (w.heap.size+1) (.slice gp gl gc) G∧G.map (·.1)=x.globs):
 ObjSt E s r w (.returned (.agg #[.string nm,.slice ip il ic,.slice gp gl gc])) (((wX.setCell ⟨w.heap.size,0,none⟩ (.string nm)).setCell ⟨w.heap.size,1,none⟩ (.slice ip il ic)).setCell ⟨w.heap.size,2,none⟩ (.slice gp gl gc)):=by
 have ho:Off [w.heap.size] wX (((wX.setCell ⟨w.heap.size,0,none⟩ (.string nm)).setCell ⟨w.heap.size,1,none⟩ (.slice ip il ic)).setCell ⟨w.heap.size,2,none⟩ (.slice gp gl gc)):=(((Off.refl _ _).set (Or.inl (by simp)) _).set (Or.inl (by simp)) _).set (Or.inl (by simp)) _;refine⟨⟨nm,ip,il,ic,gp,gl,gc,rfl,λx q h=>?_⟩,hS.off ho (by simp;omega),?_⟩
 ·obtain⟨h1,h2,G,h3,h4⟩:=hA x q h;refine⟨h1,(h2.off okImp ho (by simp)).low (Nat.le_succ _),G,(h3.off okGlob ho (by simp)).low (Nat.le_succ _),h4⟩
 ·exact((hO.set (Or.inr (Nat.le_refl _)) _).set (Or.inr (Nat.le_refl _)) _).set (Or.inr (Nat.le_refl _)) _|>.ef (by simp)
theorem ES.pos{w:World}{E:Nat}{s:ByteArray}{p err pl:Nat}(h:ES w E s p err pl):(intOf ((w.cell? ⟨E,1,none⟩).getD (.int .i64 0))).toNat=p:=by rw[h.c1];simp[intOf]
theorem mark_step(s:ByteArray)(k:Nat)(hk:k<4)(h:k<s.size):rdMark s (4-k) k=if s[k].toNat=(⟨#[84,65,82,78]⟩:ByteArray)[k].toNat then rdMark s (4-(k+1)) (k+1) else .error (8,k):=by
 rw[show 4-k=(4-(k+1))+1 by omega,rdMark];have h1:s.data.toList.getD k 0=s[k]:=by
  have h2:k<s.data.size:=h;simp only[List.getD,Array.getElem?_toList,Array.getElem?_eq_getElem h2];rfl
 have h3:(⟨#[84,65,82,78]⟩:ByteArray)[k].toNat=mkB k:=by
  obtain rfl|rfl|rfl|rfl:k=0∨k=1∨k=2∨k=3:=by omega
  all_goals rfl
 rw[h1,h3]
theorem eyeObject_any(E:Nat)(s:ByteArray)(w:World)(hs:s.size<=100000)(h4:4<=s.size)(h:ES w E s 0 0 0):
 Calls Tryz.prog 15 #[.pointer (some ⟨E,0,none⟩)] w λe w'=>ObjSt E s (rdObj s) w e w':=by
 obtain⟨c0,c1,c2,c3,-⟩:=id h;have hE:E<w.heap.size:=block_lt_of_cell c0;have HS:=hid h;clear h;go_enter Tryz.func15,Tryz.ntmps15;go_wp2;have HB1:Hid (Below w.heap.size w ((w.alloc (Obj.cells #[.string ⟨#[]⟩,.slice none 0 0,.slice none 0 0] 33)).alloc (Obj.cells #[.string ⟨#[]⟩,.slice none 0 0,.slice none 0 0] 33))):=((Below.refl _ _).alloc (Nat.le_refl _) _).alloc (by simp) _;have HR1:=hid ((Bx3.new w (.string ⟨#[]⟩) (.slice none 0 0) (.slice none 0 0) 33).keep ((Below.refl _ _).alloc (Nat.le_refl _) (Obj.cells #[.string ⟨#[]⟩,.slice none 0 0,.slice none 0 0] 33)));have HO1:Hid (Bx3 ((w.alloc (Obj.cells #[.string ⟨#[]⟩,.slice none 0 0,.slice none 0 0] 33)).alloc (Obj.cells #[.string ⟨#[]⟩,.slice none 0 0,.slice none 0 0] 33)) (w.heap.size+1) (.string ⟨#[]⟩) (.slice none 0 0) (.slice none 0 0)):=by
  have:=Bx3.new (w.alloc (Obj.cells #[.string ⟨#[]⟩,.slice none 0 0,.slice none 0 0] 33)) (.string ⟨#[]⟩) (.slice none 0 0) (.slice none 0 0) 33;show Bx3 _ _ _ _ _;simpa using this
 have HS1:=hid (HS.out.keep HB1.out);generalize hW1:(w.alloc (Obj.cells #[.string ⟨#[]⟩,.slice none 0 0,.slice none 0 0] 33)).alloc (Obj.cells #[.string ⟨#[]⟩,.slice none 0 0,.slice none 0 0] 33)=W1 at*;clear hW1;have hR1:w.heap.size<W1.heap.size:=HR1.out.lt;have hO1:w.heap.size+1<W1.heap.size:=HO1.out.lt;go_loopw [] (λwr=>∃k err pl:Nat,k<=4∧Hid (MarkIs s k err pl)∧Hid (ES wr E s k err pl)∧Hid (Off [E] W1 wr)) (λwr=>4-(intOf ((wr.cell? ⟨E,1,none⟩).getD (.int .i64 0))).toNat)
 case atStart=>exact⟨0,0,0,Nat.zero_le _,Or.inl ⟨rfl,rfl,rfl⟩,HS1.out,Off.refl _ _⟩
 case round=>
  obtain⟨k,err,pl,hk,HM,HK,HOK⟩:=hrel;rename World=>wr
  obtain⟨d0,d1,d2,d3,hg⟩:=id HK.out;have g1:=hg 1 (by omega);clear hg;by_cases hlt:k<4
  ·have hk0:(0:Int)<=(k:Int):=by omega
   have hk1:(k:Int)<(s.size:Int):=by omega
   have hk4:(k:Int)<4:=by omega
   have HAT:Hid (∀w' p' e' l',ES w' E s k e' l'->p'=k+1->ES (w'.setCell ⟨E,1,none⟩ (.int .i64 ((k:Int)+1))) E s p' e' l'):=by
    rintro w' p' e' l' h rfl;have:=h.at (k+1);rwa[show(((k+1:Nat)):Int)=(k:Int)+1 by omega]at this
   have HMK:Hid (rdMark s (4-k) k=if s[k].toNat=(⟨#[84,65,82,78]⟩:ByteArray)[k].toNat then rdMark s (4-(k+1)) (k+1) else .error (8,k)):=mark_step s k hlt (by omega);go_wp2;go_quiet (fail);generalize s[k].toNat=x at*;generalize (⟨#[84,65,82,78]⟩:ByteArray)[k].toNat=y at*;by_cases hxy:x=y
   ·subst hxy;have hb:((x:Int) !=(x:Int))=false:=by simp
    go_wp2;have HN:=hid (HAT.out _ _ _ _ (HK.out.keep (below_drewN (Below.refl _ _) nq)) rfl);refine⟨⟨k+1,err,pl,by omega,?_,HN.out,(HOK.out.drewN _).set (Or.inl (by simp)) _⟩,?_⟩
    ·rcases HM.out with⟨e1,e2,e3⟩|e1
     ·refine Or.inl ⟨e1,e2,?_⟩;rw[e3,HMK.out,if_pos rfl]
     ·exact Or.inr e1
    ·rw[HN.out.pos,HK.out.pos];omega
   ·have hb:((x:Int) !=(y:Int))=true:=by simp;omega
    rcases HM.out with⟨rfl,rfl,e3⟩|⟨rfl,e1⟩
    ·go_wp2_with (first
      |(go_at_call 26;refine(eyeFail_first E s k 0 8 k _ (HK.out.keep (below_drewN (Below.refl _ _) _))).mono ?_;rintro e w2 ⟨rfl,hS2,hE2⟩;obtain⟨y0,y1,y2,y3,yf⟩:=id hS2;have y4:=yf 1 (by omega);have HS2:=hid hS2;have HO2:=hid ((HOK.out.drewN _).trans (Off.of_ef (bs:=[E]) hE2 (by simp)));clear yf hS2 hE2))
     have HN:=hid (HAT.out _ _ _ _ HS2.out rfl);refine⟨⟨k+1,8,k,by omega,Or.inr ⟨rfl,?_⟩,HN.out,HO2.out.set (Or.inl (by simp)) _⟩,?_⟩
     ·rw[e3,HMK.out,if_neg hxy]
     ·rw[HN.out.pos,HK.out.pos];omega
    ·go_wp2_with (first
      |(go_at_call 26;refine(eyeFail_later E s k 8 pl 8 k _ (HK.out.keep (below_drewN (Below.refl _ _) _)) (by omega)).mono ?_;rintro e w2 ⟨rfl,hS2,hE2⟩;obtain⟨y0,y1,y2,y3,yf⟩:=id hS2;have y4:=yf 1 (by omega);have HS2:=hid hS2;have HO2:=hid ((HOK.out.drewN _).trans (Off.of_ef (bs:=[E]) hE2 (by simp)));clear yf hS2 hE2))
     have HN:=hid (HAT.out _ _ _ _ HS2.out rfl);refine⟨⟨k+1,8,pl,by omega,Or.inr ⟨rfl,e1⟩,HN.out,HO2.out.set (Or.inl (by simp)) _⟩,?_⟩;rw[HN.out.pos,HK.out.pos];omega
  ·obtain rfl:k=4:=by omega
   have HST:Hid (EyeSt wr E s (stOf (rdMark s 4 0))):=by
    rcases HM.out with⟨rfl,rfl,e3⟩|⟨rfl,e1⟩
    ·rw[e3];exact⟨HK.out,h4⟩
    ·rw[e1];exact⟨by omega,4,HK.out,h4⟩
   have HRA:=hid (HR1.out.off HOK.out (by simp;omega));have HOA:=hid (HO1.out.off HOK.out (by simp;omega));have HOO:=hid ((Off.of_below (bs:=[E]) HB1.out).trans HOK.out);clear HM HK HOK HB1 HR1 HO1 HS1 HS d2 d3 c0 c1 c2 c3 g1;generalize hr1:rdMark s 4 0=r1 at*;obtain⟨o0,o1,o2,f0,f1,f2⟩:=id HOA.out;have HNM:=hid (eyeName_st E s ⟨#[]⟩ [] (.slice none 0 0) (stOf r1) wr hs HST.out ⟨none,0,rfl,(show(0:Nat)<_ by omega),λi hi=>absurd hi (by simp)⟩ (by intro p n c e a ha;cases e;cases ha));go_wp2_with (first
    |(go_at_call 27;refine HNM.out.mono ?_;rintro e w2 ⟨⟨nm,rfl,hnm,hnm2⟩,hS2,hE2⟩;have HNM2:=hid hnm2;have HS2:=hid hS2;have HO2:=hid (HOA.out.ef hE2 (by omega));have HR2:=hid (HRA.out.ef hE2 (by omega));have HF2:=hid (HOO.out.trans (Off.of_ef hE2 (by simp)));obtain⟨o0',o1',o2',f0',f1',f2'⟩:=id HO2.out;clear hS2 hE2 hnm2 HNM)
    |(go_at_call 28;fail))
   have hR':w.heap.size<w2.heap.size:=HR2.out.lt;have hO':w.heap.size+1<w2.heap.size:=HO2.out.lt;have HSO:Hid (Off [w.heap.size+1] w2 (w2.setCell ⟨w.heap.size+1,0,none⟩ (.string nm))):=(Off.refl _ _).set (Or.inl (by simp)) _;have HXE:=hid (HS2.out.off HSO.out (by simp;omega));have HXO:=hid (HO2.out.set0 (.string nm));have HXR:=hid (HR2.out.off HSO.out (by simp));have HXF:=hid (HF2.out.set (b:=w.heap.size+1) (o:=0) (Or.inr (by omega)) (.string nm));clear HS2 HO2 HR2 HF2 HSO o0 o1 o2 f0 f1 f2 o0' o1' o2' f0' f1' f2' HST HRA HOA HOO;have hsz2:(w2.setCell ⟨w.heap.size+1,0,none⟩ (.string nm)).heap.size=w2.heap.size:=by simp
   generalize hX2:w2.setCell ⟨w.heap.size+1,0,none⟩ (.string nm)=X2 at*;clear hX2;generalize hr2:nx (stOf r1) (rdNameB s ⟨#[]⟩ [])=r2 at*;have HV:=hid (eyeVarint_st E s (stOf r2) X2 hs HXE.out);go_upto_block 2 with(first
    |(go_at_call 28;refine HV.out.mono ?_;rintro e w3 hr;obtain⟨n,rfl,hn64,hn1,hS3,hE3⟩:=hr.any;have HN1:=hid hn1;have HS3:=hid hS3;have HO3:=hid (HXO.out.ef hE3 (by omega));have HR3:=hid (HXR.out.ef hE3 (by omega));have HF3:=hid (HXF.out.trans (Off.of_ef hE3 (by simp)));clear hr hn1 hS3 hE3 HV HXE HXO HXR HXF))
   generalize hr3:nx (stOf r2) (rdV s)=r3 at*;generalize hTI:bd r3 (λn p=>rdImps s n [] ⟨#[]⟩ p)=TI at*;have HI0:Hid (ImpSt E w.heap.size (w.heap.size+1) s nm n TI w3 w3 [] ⟨#[]⟩ (stOf r3) none 0):=by
    refine⟨Nat.zero_le _,HS3.out,HR3.out,HO3.out,RowS.nil _ _,(λx hx=>by cases hx),?_,λp _=>Nat.zero_le _,Nat.zero_le _,Off.refl _ _⟩;rw[<-hTI];match hm:r3 with
    |.error e=>rfl
    |.ok (n',r)=>obtain rfl:=HN1.out _ _ rfl;rfl
   have hO3:w.heap.size+1<w3.heap.size:=HO3.out.lt;have HTI:=hid hTI;have HR3E:=hid hr3;have HR2E:=hid hr2;have HR1E:=hid hr1;clear HS3 HR3 HO3 hTI hr3 hr2 hr1;go_cut [] (λwx=>∃(got:List LImp) (last:ByteArray) (st:Except (Nat×Nat) Nat) (vp:Option Addr) (vc:Nat),Hid (ImpSt E w.heap.size (w.heap.size+1) s nm n TI w3 wx got last st vp vc∧((∃e,st=.error e)∨got.length=n)))
   case first=>
    obtain⟨ii,hii,hij⟩:=Option.map_eq_some_iff.1 Tryz.impI;simp only[Prod.mk.injEq]at hij;obtain⟨hi0,hi1,hi2⟩:=hij;go_wp2_with fail
    go_loopw [5,6] (λlv kv wr=>∃(got:List LImp) (last:ByteArray) (st:Except (Nat×Nat) Nat) (vp:Option Addr) (vc:Nat),lv=.string last∧kv=.int .u64 ((got.length:Nat):Int)∧Hid (ImpSt E w.heap.size (w.heap.size+1) s nm n TI w3 wr got last st vp vc)) (λ_ kv _=>n-(intOf kv).toNat)
    case atStart=>exact⟨[],_,_,none,0,rfl,rfl,HI0.out⟩
    case round=>
     obtain⟨got,last,st,vp,vc,rfl,rfl,HC⟩:=hrel;rename World=>wr
     have hle:=HC.out.le;cases st with
     |error x=>
      obtain⟨c,a⟩:=x;obtain⟨hc0,q3,⟨d0,d1,d2,d3,-⟩,hq3⟩:=id HC.out.eye;have hc:((c:Int)==0)=false:=by rw[beq_eq_false_iff_ne];omega
      by_cases hlt:got.length<n;all_goals go_wp2_with fail
      all_goals go_meet
      all_goals exact⟨_,_,_,_,_,HC.out,Or.inl ⟨_,rfl⟩⟩
     |ok p3=>
      obtain⟨⟨d0,d1,d2,d3,-⟩,hp3⟩:=id HC.out.eye;by_cases hlt:got.length<n
      ·have hsm:=HC.out.small _ rfl;obtain⟨o0,o1,o2,f0,f1,f2⟩:=id HC.out.o;have hOr:w.heap.size+1<wr.heap.size:=HC.out.o.lt;have HNB:=hid (eyeName_st E s last [] (.slice none 0 0) (.ok p3) wr hs HC.out.eye ⟨none,0,rfl,(show(0:Nat)<_ by omega),λi hi=>absurd hi (by simp)⟩ (by intro p n c e a ha;cases e;cases ha));go_wp2_with (first
        |(go_at_call 27;refine HNB.out.mono ?_;rintro e w5 ⟨⟨t,rfl,ht,ht2⟩,hS5,hE5⟩;have HT2:=hid ht2;have HO5:=hid (HC.out.o.ef hE5 (by omega));have HF5:=hid ((Off.of_ef (bs:=[E]) hE5 (by simp)).alloc (Obj.cells #[.string t,.int .i64 0] 63));have HNN:=hid (eyeNumber_st E s _ 0 20 _ hs (hS5.keep ((Below.refl _ _).alloc (Nat.le_refl _) (Obj.cells #[.string t,.int .i64 0] 63))) (by omega) (by omega));have hO5:w.heap.size+1<w5.heap.size:=HO5.out.lt;have HSZ:Hid (wr.heap.size<=w5.heap.size):=hE5.size;clear hS5 hE5 ht2 HNB)
        |(go_at_call 29;refine HNN.out.mono ?_;rintro e w6 hr6;obtain⟨a,rfl,ha1,-,hS6,hE6⟩:=hr6.any;have HA1:=hid ha1;have HOX:=hid ((HF5.out.trans (Off.of_ef (bs:=[E]) hE6 (by simp))).set (b:=w5.heap.size) (o:=1) (Or.inr HSZ.out) (.int .i64 (a:Int)));have HSX:=hid (hS6.off (bs:=[w5.heap.size]) ((Off.refl _ _).set (b:=w5.heap.size) (o:=1) (Or.inl (by simp)) (.int .i64 (a:Int))) (by simp;omega));have HM6:=hid ((Bx2.new w5 (.string t) (.int .i64 0) 63).of_block (hE6.block _ (by simp) (by omega)));have HO6:=hid ((HO5.out.keep ((Below.refl _ _).alloc (Nat.le_refl _) (Obj.cells #[.string t,.int .i64 0] 63))).ef hE6 (by omega));obtain⟨m0,m1,n0,n1⟩:=id HM6.out;obtain⟨y0,y1,y2,z0,z1,z2⟩:=id HO6.out;have hO6:w.heap.size+1<w6.heap.size:=HO6.out.lt;have hM6:w5.heap.size<w6.heap.size:=HM6.out.lt;clear hr6 ha1 hS6 hE6 HNN)
        |(at_builtin;refine wpList_append_lies _ rfl (.tmp 73) (.tmp 75) 30 rfl 0 63 ii _ 2 24 Tryz.underlying30 hii hi0 hi1 hi2 rfl (by omega) (.slice vp got.length vc) got.length (got.flatMap impC) rfl ((HC.out.row.off okImp HOX.out (by simp;omega)).own.alloc _) ⟨w6.heap.size,0,none⟩ 1 1 [.string t,.int .i64 (a:Int)] rfl rfl (by simpa using World.news_of_block (heap_alloc_new (w6.setCell ⟨w5.heap.size,1,none⟩ (.int .i64 (a:Int))) (Obj.cells #[.string t,.int .i64 (a:Int)] 63))) (by intro u hu;simp at hu;rcases hu with rfl|rfl<;>rfl) (by omega) (by unfold maxLen;omega) (by omega) (Nat.zero_le _) _ rfl ?_;intro g1 k1 w7 hown hgrow hat hlt1;have HI7:=hid (HC.out.app HOX.out (by omega) (by omega) hgrow);obtain⟨yy0,yy1,yy2,zz0,zz1,zz2⟩:=id HI7.out;have HNX:=hid (HC.out.next hlt HOX.out hE (by omega) (by omega) t a ht HT2.out HA1.out HSX.out hgrow hat hlt1 hown);clear hown hgrow hat hlt1))
       exact⟨⟨_,_,_,_,_,rfl,by simp,HNX.out⟩,by simp[intOf];omega⟩
      ·go_wp2_with fail
       go_meet
       exact⟨_,_,_,_,_,HC.out,Or.inr (by omega)⟩
   case rest=>
    obtain⟨got,last,st,vp,vc,hcut⟩:=hcut;rename World=>wc
    have HI:=hid hcut.out.1;have HIE:=hid (hcut.out.1.end hcut.out.2);have HV:=hid (eyeVarint_st E s st wc hs HI.out.eye);have hOc:w.heap.size+1<wc.heap.size:=HI.out.o.lt;clear hcut HI0 HN1;go_upto_block 4 with(first
     |(go_at_call 28;refine HV.out.mono ?_;rintro e w4 hr;obtain⟨m,rfl,hm64,hm1,hS4,hE4⟩:=hr.any;have HM1:=hid hm1;have HS4:=hid hS4;have HF4:=hid (Off.of_ef (bs:=[E]) hE4 (by simp));clear hr hm1 hS4 hE4 HV))
    generalize hr5:nx st (rdV s)=r5 at*;generalize hTG:bd r5 (λn p=>rdGlobs s got n [] ⟨#[]⟩ p)=TG at*;have HG0:Hid (GlobSt E w.heap.size (w.heap.size+1) w3.heap.size s nm got vp vc m TG w4 w4 [] ⟨#[]⟩ (stOf r5) none 0):=by
     refine⟨Nat.zero_le _,HS4.out,HI.out.r.off HF4.out (by simp;omega),HI.out.o.off HF4.out (by simp;omega),HI.out.row.off okImp HF4.out (by simp;omega),λ_=>RowS.nil _ _,?_,λp _=>Nat.zero_le _,Off.refl _ _⟩;rw[<-hTG];match hm:r5 with
     |.error e=>rfl
     |.ok (n',r)=>obtain rfl:=HM1.out _ _ rfl;rfl
    have HF34:=hid ((HF3.out.more (cs:=[E,w.heap.size+1]) (by simp)).trans (HI.out.off.trans (HF4.out.more (by simp))));have HIL:Hid (∀b∈rowB (noB (α:=LImp)) (.slice vp got.length vc) got,b<w4.heap.size):=λb hb=>Nat.lt_of_lt_of_le (HI.out.row.rg b hb).2 HF4.out.size;have HNMS:=hid HI.out.nms;have HGB:Hid (got.length<=s.size+1):=HI.out.bnd;have hw34:w3.heap.size<=w4.heap.size:=Nat.le_trans HI.out.off.size HF4.out.size;have HTG:=hid hTG;have HR5E:=hid hr5;clear HI HF4 HS4 HM1 hTG HF3 hr5;go_cut [] (λwx=>∃(ggot:GlobL) (last:ByteArray) (st:Except (Nat×Nat) Nat) (gp:Option Addr) (gc:Nat),Hid (GlobSt E w.heap.size (w.heap.size+1) w3.heap.size s nm got vp vc m TG w4 wx ggot last st gp gc∧((∃e,st=.error e)∨ggot.length=m)))
    case first=>
     obtain⟨gi,hgi,hgg⟩:=Option.map_eq_some_iff.1 Tryz.globI;simp only[Prod.mk.injEq]at hgg;obtain⟨hh0,hh1,hh2⟩:=hgg;obtain⟨ji,hji,hjj⟩:=Option.map_eq_some_iff.1 Tryz.insI;simp only[Prod.mk.injEq]at hjj;obtain⟨hj0,hj1,hj2⟩:=hjj;go_wp2_with fail
     go_loopw [5,8] (λlv kv wr=>∃(ggot:GlobL) (last:ByteArray) (st:Except (Nat×Nat) Nat) (gp:Option Addr) (gc:Nat),lv=.string last∧kv=.int .u64 ((ggot.length:Nat):Int)∧Hid (GlobSt E w.heap.size (w.heap.size+1) w3.heap.size s nm got vp vc m TG w4 wr ggot last st gp gc)) (λ_ kv _=>m-(intOf kv).toNat)
     case atStart=>exact⟨[],_,_,none,0,rfl,rfl,HG0.out⟩
     case round=>
      clear HG0;obtain⟨ggot,last,st,gp,gc,rfl,rfl,HC⟩:=hrel;rename World=>wr
      have hle:=HC.out.le;cases st with
      |error x=>
       obtain⟨c,a⟩:=x;obtain⟨hc0,q3,⟨d0,d1,d2,d3,-⟩,hq3⟩:=id HC.out.eye;have hc:((c:Int)==0)=false:=by rw[beq_eq_false_iff_ne];omega
       by_cases hlt:ggot.length<m;all_goals go_wp2_with fail
       all_goals go_meet
       all_goals exact⟨_,_,_,_,_,HC.out,Or.inl ⟨_,rfl⟩⟩
      |ok p3=>
       obtain⟨⟨d0,d1,d2,d3,-⟩,hp3⟩:=id HC.out.eye;by_cases hlt:ggot.length<m
       ·have hsm:=HC.out.small _ rfl;obtain⟨o0,o1,o2,f0,f1,f2⟩:=id HC.out.o;have hOr:w.heap.size+1<wr.heap.size:=HC.out.o.lt;have HNB:=hid (eyeName_st E s last got (.slice vp got.length vc) (.ok p3) wr hs HC.out.eye (ImpsO.at HC.out.imp (by have:=HGB.out;show _<_;omega) (λx hx=>by have:=HNMS.out x hx;unfold maxLen;omega)) (HC.out.imp.away (by omega)));go_upto_block 6 with(first
         |(go_at_call 27;refine HNB.out.mono ?_;rintro e w5 ⟨⟨t,rfl,ht,ht2⟩,hS5,hE5⟩;have HT2:=hid ht2;have HF5:=hid ((Off.of_ef (bs:=[E]) hE5 (by simp)).alloc (Obj.cells #[.string t,.int .i64 0,.bool false,.slice none 0 0] 66));have HNA:=hid (eyeNumber_st E s _ 0 20 _ hs (hS5.keep ((Below.refl _ _).alloc (Nat.le_refl _) (Obj.cells #[.string t,.int .i64 0,.bool false,.slice none 0 0] 66))) (by omega) (by omega));have HG5:=hid (Bx4.new w5 (.string t) (.int .i64 0) (.bool false) (.slice none 0 0) 66);have hE5':E<w5.heap.size:=(by have:=hE5.size;omega);have HSZ:Hid (wr.heap.size<=w5.heap.size):=hE5.size;clear hS5 hE5 ht2 HNB)
         |(go_at_call 29;refine HNA.out.mono ?_;rintro e w6 hr6;obtain⟨ar,rfl,ha1,-,hS6,hE6⟩:=hr6.any;have HAR:=hid ha1;have hG6:=HG5.out.ef hE6 (by omega);obtain⟨g0,g1,g2,g3,e0,e1,e2,e3⟩:=id hG6;have hG6':w5.heap.size<w6.heap.size:=hG6.lt;have HG6:=hid (hG6.set1 (.int .i64 (ar:Int)));have HF6:=hid ((HF5.out.trans (Off.of_ef (bs:=[E]) hE6 (by simp))).set (b:=w5.heap.size) (o:=1) (Or.inr HSZ.out) (.int .i64 (ar:Int)));have HNB2:=hid (eyeNumber_st E s _ 0 1 _ hs (hS6.off (bs:=[w5.heap.size]) ((Off.refl _ _).set (b:=w5.heap.size) (o:=1) (Or.inl (by simp)) (.int .i64 (ar:Int))) (by simp;omega)) (by omega) (by omega));clear hr6 ha1 hS6 hE6 hG6 HNA HG5 HF5)
         |(go_at_call 29;refine HNB2.out.mono ?_;rintro e w7 hr7;obtain⟨ex,rfl,ha1,-,hS7,hE7⟩:=hr7.any;have HEX:=hid ha1;have hG7:=HG6.out.ef hE7 (by omega);obtain⟨g0',g1',g2',g3',e0',e1',e2',e3'⟩:=id hG7;have hG7':w5.heap.size<w7.heap.size:=hG7.lt;have HG7:=hid (hG7.set2 (.bool ((ex:Int)==1)));have HF7:=hid ((HF6.out.trans (Off.of_ef (bs:=[E]) hE7 (by simp))).set (b:=w5.heap.size) (o:=2) (Or.inr HSZ.out) (.bool ((ex:Int)==1)));have HNC:=hid (eyeNumber_st E s _ 0 65535 _ hs (hS7.off (bs:=[w5.heap.size]) ((Off.refl _ _).set (b:=w5.heap.size) (o:=2) (Or.inl (by simp)) (.bool ((ex:Int)==1))) (by simp;omega)) (by omega) (by omega));clear hr7 ha1 hS7 hE7 hG7 HNB2 HG6 HF6)
         |(go_at_call 29;refine HNC.out.mono ?_;rintro e w8 hr8;obtain⟨c,rfl,ha1,hc1,hS8,hE8⟩:=hr8.any;have HCC:=hid ha1;have HCE:=hid hc1;have HG8:=hid (HG7.out.ef hE8 (by omega));have hG8:w5.heap.size<w8.heap.size:=HG8.out.lt;have HF8:=hid (HF7.out.trans (Off.of_ef (bs:=[E]) hE8 (by simp)));have HS8:=hid hS8;clear hr8 ha1 hc1 hS8 hE8 HNC HG7 HF7))
        have HC0:Hid (CodeSt E w5.heap.size s c (bd (nx (stOf (nx (stOf (nx (stOf (rdNameB s last got p3)) (rdN s 0 20))) (rdN s 0 1))) (rdN s 0 65535)) (λc p=>rdCode s c [] p)) w8 w8 [] (stOf (nx (stOf (nx (stOf (nx (stOf (rdNameB s last got p3)) (rdN s 0 20))) (rdN s 0 1))) (rdN s 0 65535))) none 0 (.string t) (.int .i64 (ar:Int)) (.bool ((ex:Int)==1))):=by
         refine⟨Nat.zero_le _,HS8.out,HG8.out,λ_=>RowS.nil _ _,?_,λp _=>Nat.zero_le _,Off.refl _ _⟩;match hm:nx (stOf (nx (stOf (nx (stOf (rdNameB s last got p3)) (rdN s 0 20))) (rdN s 0 1))) (rdN s 0 65535) with
         |.error e=>rfl
         |.ok (n',r)=>obtain rfl:=HCC.out _ _ hm;rfl
        have hE8:E<w8.heap.size:=by omega
        have hc65:c<=65535:=by
         match hm:nx (stOf (nx (stOf (nx (stOf (rdNameB s last got p3)) (rdN s 0 20))) (rdN s 0 1))) (rdN s 0 65535) with
         |.error e=>have:=HCE.out ⟨e,hm⟩;omega
         |.ok (n',r)=>obtain rfl:=HCC.out _ _ hm;obtain⟨q',-,h'⟩:=nx_ok hm;exact(rdN_ok h').2.1
        clear HS8 HG8 HCC HCE g0 g1 g2 g3 e0 e1 e2 e3 g0' g1' g2' g3' e0' e1' e2' e3' o0 o1 o2 f0 f1 f2 d0 d1 d2 d3;generalize hTC:bd (nx (stOf (nx (stOf (nx (stOf (rdNameB s last got p3)) (rdN s 0 20))) (rdN s 0 1))) (rdN s 0 65535)) (λc p=>rdCode s c [] p)=TC at*;have HTC:=hid hTC;clear hTC;go_cut [] (λwx=>∃(cgot:InsL) (cst:Except (Nat×Nat) Nat) (cp:Option Addr) (cc:Nat),Hid (CodeSt E w5.heap.size s c TC w8 wx cgot cst cp cc (.string t) (.int .i64 (ar:Int)) (.bool ((ex:Int)==1))∧((∃e,cst=.error e)∨cgot.length=c)))
        case first=>
         go_wp2_with fail
         go_loopw [11] (λkv wq=>∃(cgot:InsL) (cst:Except (Nat×Nat) Nat) (cp:Option Addr) (cc:Nat),kv=.int .i64 ((cgot.length:Nat):Int)∧Hid (CodeSt E w5.heap.size s c TC w8 wq cgot cst cp cc (.string t) (.int .i64 (ar:Int)) (.bool ((ex:Int)==1)))) (λkv _=>c-(intOf kv).toNat)
         case atStart=>exact⟨[],_,none,0,rfl,HC0.out⟩
         case round=>
          clear HC0;obtain⟨cgot,cst,cp,cc,rfl,HCS⟩:=hrel;rename World=>wq
          have hcle:=HCS.out.le;cases cst with
          |error x=>
           obtain⟨cx,ax⟩:=x;obtain⟨hc0,q4,⟨d0,d1,d2,d3,-⟩,hq4⟩:=id HCS.out.eye;have hc:((cx:Int)==0)=false:=by rw[beq_eq_false_iff_ne];omega
           by_cases hclt:cgot.length<c;all_goals go_wp2_with fail
           all_goals go_meet
           all_goals exact⟨_,_,_,_,HCS.out,Or.inl ⟨_,rfl⟩⟩
          |ok p4=>
           obtain⟨⟨d0,d1,d2,d3,-⟩,hp4⟩:=id HCS.out.eye;by_cases hclt:cgot.length<c
           ·have hcsm:=HCS.out.small _ rfl;have HIN:=hid (eyeIns_any E s p4 wq hs HCS.out.eye);have hGq:w5.heap.size<wq.heap.size:=HCS.out.g.lt;go_wp2_with (first
             |(go_at_call 30;refine HIN.out.mono ?_;rintro e w10 hr;obtain⟨⟨op,a,ap,an,ac,rfl,hin⟩,hS10,hE10⟩:=id hr;have HI10:=hid hin;have HS10:=hid hS10;have HE10:=hid hE10;have HG10:=hid (HCS.out.g.ef hE10 (by omega));obtain⟨g0,g1,g2,g3,e0,e1,e2,e3⟩:=id HG10.out;have hG10:w5.heap.size<w10.heap.size:=HG10.out.lt;have HOX:=hid ((Off.of_ef (bs:=[E]) hE10 (by simp)).alloc (Obj.cells #[.int .i64 op,.int .i64 a,.slice ap an ac] 75));clear hr hin hS10 hE10 HIN)
             |(at_builtin;refine wpList_append_lies _ rfl (.tmp 123) (.tmp 125) 64 rfl 0 75 ji _ 3 40 Tryz.underlying64 hji hj0 hj1 hj2 rfl (by omega) (.slice cp cgot.length cc) cgot.length (cgot.flatMap insC) rfl (((HCS.out.row ⟨_,rfl⟩).off okIns HOX.out (by simp;omega)).own.alloc _) ⟨w10.heap.size+1,0,none⟩ 1 1 [.int .i64 op,.int .i64 a,.slice ap an ac] rfl rfl (by simpa using World.news_of_block (heap_alloc_new (w10.alloc (Obj.cells #[.int .i64 op,.int .i64 a,.slice ap an ac] 75)) (Obj.cells #[.int .i64 op,.int .i64 a,.slice ap an ac] 75))) (by intro u hu;simp at hu;rcases hu with rfl|rfl|rfl<;>rfl) (by omega) (by unfold maxLen;omega) (by omega) (Nat.zero_le _) _ rfl ?_;intro g' k' w11 hown hgrow hat hlt1;have HG11:=hid (HCS.out.app HOX.out (by omega) (by omega) hgrow);obtain⟨y0,y1,y2,y3,z0,z1,z2,z3⟩:=id HG11.out;have HNX:=hid (HCS.out.next hclt HE10.out ((Below.refl _ _).alloc (Nat.le_refl _) _) (by omega) (by omega) op a ap an ac HI10.out HS10.out hgrow hat hlt1 hown);clear hown hgrow hat hlt1))
            exact⟨⟨_,_,_,_,by simp,HNX.out⟩,by simp[intOf];omega⟩
           ·go_wp2_with fail
            go_meet
            exact⟨_,_,_,_,HCS.out,Or.inr (by omega)⟩
        case rest=>
         obtain⟨cgot,cst,cp,cc,hcut⟩:=hcut;rename World=>X0
         have HCS:=hid hcut.out.1;have HCE:=hid hcut.out.2;have HOX:Hid (Off [E] wr X0):=((HF8.out.more (cs:=[E,w5.heap.size]) (by simp)).trans HCS.out.off).more (by have:=HSZ.out;simp;omega);have HOB:=hid (HC.out.o.off HOX.out (by simp;omega));have hOX:w.heap.size+1<X0.heap.size:=HOB.out.lt;have hGX:w5.heap.size<X0.heap.size:=HCS.out.g.lt;have HW78:Hid (wr.heap.size<=w8.heap.size):=HF8.out.size;obtain⟨g0,g1,g2,g3,e0,e1,e2,e3⟩:=id HCS.out.g;obtain⟨o0,o1,o2,f0,f1,f2⟩:=id HOB.out;clear hcut HC0;go_wp2_with (first
          |(at_builtin;refine wpList_append_lies _ rfl (.tmp 129) (.tmp 131) 31 rfl 0 66 gi _ 4 56 Tryz.underlying31 hgi hh0 hh1 hh2 rfl (by omega) (.slice gp ggot.length gc) ggot.length (ggot.flatMap globC) rfl (((HC.out.row ⟨_,rfl⟩).off okGlob HOX.out (by simp;omega)).own.alloc _) ⟨X0.heap.size,0,none⟩ 1 1 [.string t,.int .i64 (ar:Int),.bool ((ex:Int)==1),.slice cp cgot.length cc] rfl rfl (by simpa using World.news_of_block (heap_alloc_new X0 (Obj.cells #[.string t,.int .i64 (ar:Int),.bool ((ex:Int)==1),.slice cp cgot.length cc] 66))) (by intro u hu;simp at hu;rcases hu with rfl|rfl|rfl|rfl<;>rfl) (by omega) (by unfold maxLen;omega) (by omega) (Nat.zero_le _) _ rfl ?_;intro g' k' w11 hown hgrow hat hlt1;have HG11:=hid (HC.out.app HOX.out (by omega) (by omega) hgrow);obtain⟨y0,y1,y2,z0,z1,z2⟩:=id HG11.out;have HNX:=hid (HC.out.next hlt HOX.out hE (by omega) (by omega) hw34 HIL.out HCS.out HW78.out t ar ex HCE.out HTC.out.symm HT2.out HAR.out HEX.out hgrow hat hlt1 hown);clear hown hgrow hat hlt1))
         go_roundw
         case rel=>
          first
          |exact⟨_,_,_,_,_,rfl,by simp,HNX.out⟩
          |((repeat apply Exists.intro);exact⟨⟨_,_,_,_,_,rfl,by simp,HNX.out⟩,rfl⟩)
         case measure=>simp[intOf];omega
       ·go_wp2_with fail
        go_meet
        exact⟨_,_,_,_,_,HC.out,Or.inr (by omega)⟩
    case rest=>
     obtain⟨ggot,glast,gst,gp,gc,hcut⟩:=hcut;rename World=>wz
     have HG:=hid hcut.out.1;have HGE:=hid (hcut.out.1.end hcut.out.2);clear hcut HG0;obtain⟨r0,r1,r2,k0,k1,k2⟩:=id HG.out.r;obtain⟨o0,o1,o2,f0,f1,f2⟩:=id HG.out.o;have hOz:w.heap.size+1<wz.heap.size:=HG.out.o.lt;have hRz:w.heap.size<wz.heap.size:=HG.out.r.lt;have HCH:Hid (rdObj s=bd TG λgs p=>if p<s.size then .error (11,p) else .ok (⟨nm,got,gs⟩,p)):=by
      have h:=obj_chain s nm got (by rw[HR1E.out,HR2E.out];exact HNM2.out) (by rw[HR1E.out,HR2E.out,HR3E.out,HTI.out];exact HIE.out.2);rw[HR1E.out,HR2E.out,HR3E.out,HTI.out,HIE.out.1,HR5E.out,HTG.out]at h;exact h
     have HOZ:Hid (Off [E] w wz):=(HF34.out.trans HG.out.off).more (by simp);cases gst with
     |error x=>
      obtain⟨c,a⟩:=x;obtain⟨hc0,q3,hS3,hq3⟩:=id HG.out.eye;obtain⟨d0,d1,d2,d3,-⟩:=id hS3;have HS3:=hid hS3;clear hS3;have HRO:Hid (rdObj s=.error (c,a)):=by
       show _=_;rw[HCH.out,bd_err (stOf_err HGE.out.1)]
      go_wp2;go_quiet (fail);go_wp2_with (first
       |(go_at_call 26;refine(eyeFail_later E s q3 c a 11 q3 _ (HS3.out.keep (below_drewN (Below.refl _ _) _)) hc0).mono ?_;rintro e w12 ⟨rfl,hS12,hE12⟩;have HS12:=hid hS12;have HO12:=hid ((HOZ.out.drewN _).trans (Off.of_ef (bs:=[E]) hE12 (by simp)));have HB12:=hid ((HG.out.r.keep (below_drewN (Below.refl _ _) _)).ef hE12 (by omega));have HC12:=hid ((HG.out.o.keep (below_drewN (Below.refl _ _) _)).ef hE12 (by omega));obtain⟨y0,y1,y2,z0,z1,z2⟩:=id HB12.out;obtain⟨yy0,yy1,yy2,zz0,zz1,zz2⟩:=id HC12.out;clear hS12 hE12))
      ·(obtain⟨s0,s1,s2,-,-,-⟩:=HB12.out.put (.string nm) (.slice vp got.length vc) (.slice gp ggot.length gc);refine bodyPost_ret (v:=.agg #[.string nm,.slice vp got.length vc,.slice gp ggot.length gc]) (by simp[results,Tryz.results15,go_sem,s0,s1,s2]) rfl ?_)
       exact objDone hE (by rw[HRO.out];exact⟨hc0,q3,HS12.out,hq3⟩) HO12.out nm vp _ vc gp _ gc (λx q h=>by rw[HRO.out]at h;cases h)
      ·(obtain⟨s0,s1,s2,-,-,-⟩:=(HG.out.r.keep (below_drewN (Below.refl _ _) nq)).put (.string nm) (.slice vp got.length vc) (.slice gp ggot.length gc);refine bodyPost_ret (v:=.agg #[.string nm,.slice vp got.length vc,.slice gp ggot.length gc]) (by simp[results,Tryz.results15,go_sem,s0,s1,s2]) rfl ?_)
       exact objDone hE (by rw[HRO.out];exact⟨hc0,q3,HS3.out.keep (below_drewN (Below.refl _ _) _),hq3⟩) (HOZ.out.drewN _) nm vp _ vc gp _ gc (λx q h=>by rw[HRO.out]at h;cases h)
     |ok p3=>
      obtain⟨hS3,hp3⟩:=id HG.out.eye;obtain⟨d0,d1,d2,d3,-⟩:=id hS3;have HS3:=hid hS3;clear hS3;obtain⟨gl,htg⟩:=stOf_ok HGE.out.1;have hgl:=HGE.out.2 _ _ htg;have HRO:Hid (rdObj s=if p3<s.size then .error (11,p3) else .ok (⟨nm,got,gl⟩,p3)):=by
       show _=_;rw[HCH.out,bd_ok htg]
      clear htg;by_cases hps:p3<s.size
      ·have HR2:Hid (rdObj s=.error (11,p3)):=by show _=_;rw[HRO.out,if_pos hps]
       have hps':(p3:Int)<(s.size:Int):=by omega
       go_wp2;go_quiet (fail);go_wp2_with (first
        |(go_at_call 26;refine(eyeFail_first E s p3 0 11 p3 _ (HS3.out.keep (below_drewN (Below.refl _ _) _))).mono ?_;rintro e w12 ⟨rfl,hS12,hE12⟩;have HS12:=hid hS12;have HO12:=hid ((HOZ.out.drewN _).trans (Off.of_ef (bs:=[E]) hE12 (by simp)));have HB12:=hid ((HG.out.r.keep (below_drewN (Below.refl _ _) _)).ef hE12 (by omega));have HC12:=hid ((HG.out.o.keep (below_drewN (Below.refl _ _) _)).ef hE12 (by omega));obtain⟨y0,y1,y2,z0,z1,z2⟩:=id HB12.out;obtain⟨yy0,yy1,yy2,zz0,zz1,zz2⟩:=id HC12.out;clear hS12 hE12))
       (obtain⟨s0,s1,s2,-,-,-⟩:=HB12.out.put (.string nm) (.slice vp got.length vc) (.slice gp ggot.length gc);refine bodyPost_ret (v:=.agg #[.string nm,.slice vp got.length vc,.slice gp ggot.length gc]) (by simp[results,Tryz.results15,go_sem,s0,s1,s2]) rfl ?_)
       exact objDone hE (by rw[HR2.out];exact⟨by omega,p3,HS12.out,hp3⟩) HO12.out nm vp _ vc gp _ gc (λx q h=>by rw[HR2.out]at h;cases h)
      ·have HR2:Hid (rdObj s=.ok (⟨nm,got,gl⟩,p3)):=by show _=_;rw[HRO.out,if_neg hps]
       have hps':¬(p3:Int)<(s.size:Int):=by omega
       have HBN:Hid (∀nq,Below wz.heap.size wz (wz.drewN nq)):=λnq=>below_drewN (Below.refl _ _) nq;go_wp2;go_quiet (fail);go_wp2;(obtain⟨s0,s1,s2,-,-,-⟩:=(HG.out.r.keep (HBN.out nq)).put (.string nm) (.slice vp got.length vc) (.slice gp ggot.length gc);refine bodyPost_ret (v:=.agg #[.string nm,.slice vp got.length vc,.slice gp ggot.length gc]) (by simp[results,Tryz.results15,go_sem,s0,s1,s2]) rfl ?_)
       refine objDone hE (by rw[HR2.out];exact⟨HS3.out.keep (HBN.out _),hp3⟩) (HOZ.out.drewN _) nm vp _ vc gp _ gc (λx q h=>?_);rw[HR2.out]at h;cases h;exact⟨rfl,(HG.out.imp.keep okImp (HBN.out _)).low (by omega),ggot,((HG.out.row ⟨_,rfl⟩).keep okGlob (HBN.out _)).low (by omega),hgl⟩
section
variable {P:Program} {w:World}
end
structure Ent (w:World) (fp:List Nat) (e:TypeId) (mc:List Value) (h:Nat):Prop where
 mem:h∈fp
 it:∃l:List (Option Addr×Nat×Nat),l.length=4∧(∀i (hi:i<l.length),w.cell? ⟨h,i,none⟩=some (.slice l[i].1 l[i].2.1 l[i].2.2))∧∀x∈l,MkRow w e mc (.slice x.1 x.2.1 x.2.2) x.2.1∧∀q∈vB (.slice x.1 x.2.1 x.2.2),q∈fp
theorem Ent.fr{w w':World}{fp:List Nat}{e:TypeId}{mc:List Value}{h:Nat}(k:Ent w fp e mc h)(hf:Fr fp w w'):Ent w' fp e mc h:=by
 obtain⟨hm,l,hl,hc,hr⟩:=k;refine⟨hm,l,hl,λi hi=>?_,λx hx=>⟨row_fr (hr x hx).1 (hf.sub (hr x hx).2),(hr x hx).2⟩⟩;rw[World.cell?_of_block (a:=⟨h,i,none⟩) (hf h hm)];exact hc i hi
theorem Ent.more{w:World}{fp fp':List Nat}{e:TypeId}{mc:List Value}{h:Nat}(k:Ent w fp e mc h)(hs:∀q∈fp,q∈fp'):Ent w fp' e mc h:=by
 obtain⟨hm,l,hl,hc,hr⟩:=k;exact⟨hs _ hm,l,hl,hc,λx hx=>⟨(hr x hx).1,λq hq=>hs _ ((hr x hx).2 q hq)⟩⟩
def entV(h:Nat):Value:=.slice (some ⟨h,0,none⟩) 4 4
structure BRow (w:World) (fp:List Nat) (tt e:TypeId) (mark:Nat->List Value) (v:Value) (hs:List Nat):Prop where
 own:w.ownsRow 0 tt 1 v hs.length (hs.map entV)
 mem:∀q∈vB v,q∈fp
 it:∀i (hi:i<hs.length),Ent w fp e (mark i) hs[i]
theorem BRow.fr{w w':World}{fp:List Nat}{tt e:TypeId}{mark:Nat->List Value}{v:Value}{hs:List Nat}(k:BRow w fp tt e mark v hs)(hf:Fr fp w w'):BRow w' fp tt e mark v hs:=
 ⟨row_fr k.own (hf.sub k.mem),k.mem,λi hi=>(k.it i hi).fr hf⟩
theorem BRow.more{w:World}{fp fp':List Nat}{tt e:TypeId}{mark:Nat->List Value}{v:Value}{hs:List Nat}(k:BRow w fp tt e mark v hs)(h:∀q∈fp,q∈fp'):BRow w fp' tt e mark v hs:=
 ⟨k.own,λq hq=>h _ (k.mem q hq),λi hi=>(k.it i hi).more h⟩
theorem BRow.nil(w:World)(fp:List Nat)(tt e:TypeId)(mark:Nat->List Value):BRow w fp tt e mark (.slice none 0 0) []:=⟨World.ownsRow_nil _ _ _ _,(λq hq=>by simp[vB_nil]at hq),λi hi=>absurd hi (by simp)⟩
def mkI(i:Nat):Int:=-7000-(i:Int)
def mImp(i:Nat):List Value:=[.string ⟨#[]⟩,.int .i64 (mkI i)]
def mGlob(i:Nat):List Value:=[.string ⟨#[]⟩,.int .i64 (mkI i),.bool false,.slice none 0 0]
def mIns(i:Nat):List Value:=[.int .i64 0,.int .i64 (mkI i),.slice none 0 0]
def mAlt(i:Nat):List Value:=[.int .i64 0,.int .i64 (mkI i)]
def Dj(x y:List Nat):Prop:=∀q∈x,q∉y
theorem Dj.symm{x y:List Nat}(h:Dj x y):Dj y x:=λq hy hx=>h q hx hy
theorem Dj.nil(x:List Nat):Dj x []:=λ_ _ h=>by cases h
structure BRow0 (w:World) (fe:List Nat) (tt e:TypeId) (mark:Nat->List Value) (v:Value) (hs:List Nat):Prop where
 own:w.ownsRow 0 tt 1 v hs.length (hs.map entV)
 it:∀i (hi:i<hs.length),Ent w fe e (mark i) hs[i]
theorem BRow0.fr{w w':World}{fe:List Nat}{tt e:TypeId}{mark:Nat->List Value}{v:Value}{hs:List Nat}(k:BRow0 w fe tt e mark v hs)(hv:Fr (vB v) w w')(hf:Fr fe w w'):BRow0 w' fe tt e mark v hs:=
 ⟨row_fr k.own hv,λi hi=>(k.it i hi).fr hf⟩
theorem BRow0.more{w:World}{fe fe':List Nat}{tt e:TypeId}{mark:Nat->List Value}{v:Value}{hs:List Nat}(k:BRow0 w fe tt e mark v hs)(h:∀q∈fe,q∈fe'):BRow0 w fe' tt e mark v hs:=
 ⟨k.own,λi hi=>(k.it i hi).more h⟩
theorem BRow0.nil(w:World)(fe:List Nat)(tt e:TypeId)(mark:Nat->List Value):BRow0 w fe tt e mark (.slice none 0 0) []:=⟨World.ownsRow_nil _ _ _ _,λi hi=>absurd hi (by simp)⟩
theorem BRow0.out{w:World}{fe fp:List Nat}{tt e:TypeId}{mark:Nat->List Value}{v:Value}{hs:List Nat}(k:BRow0 w fe tt e mark v hs)(hv:∀q∈vB v,q∈fp)(hf:∀q∈fe,q∈fp):BRow w fp tt e mark v hs:=⟨k.own,hv,λi hi=>(k.it i hi).more hf⟩
structure Ap (b:Nat) (x y z u fe:List Nat):Prop where
 bx:b∉x
 by_:b∉y
 bz:b∉z
 bu:b∉u
 bf:b∉fe
 xy:Dj x y
 xz:Dj x z
 xu:Dj x u
 xf:Dj x fe
 yz:Dj y z
 yu:Dj y u
 yf:Dj y fe
 zu:Dj z u
 zf:Dj z fe
 uf:Dj u fe
structure BookSt (w:World) (fp:List Nat) (b:Nat) (vi vg vc va:Value) (hi hg hc ha:List Nat):Prop where
 box:Bx4 w b vi vg vc va
 ex:∃fe,fp=b::(vB vi++(vB vg++(vB vc++(vB va++fe))))∧Ap b (vB vi) (vB vg) (vB vc) (vB va) fe∧
  BRow0 w fe 69 63 mImp vi hi∧BRow0 w fe 71 66 mGlob vg hg∧BRow0 w fe 72 75 mIns vc hc∧BRow0 w fe 76 78 mAlt va ha
section
variable {w w':World} {fp:List Nat} {b:Nat} {vi vg vc va:Value} {hi hg hc ha:List Nat}
theorem BookSt.mem(h:BookSt w fp b vi vg vc va hi hg hc ha):b∈fp:=by
 obtain⟨fe,rfl,-⟩:=h.ex;exact List.mem_cons_self
theorem BookSt.i(h:BookSt w fp b vi vg vc va hi hg hc ha):BRow w fp 69 63 mImp vi hi:=by
 obtain⟨fe,rfl,-,h1,-,-,-⟩:=h.ex;exact h1.out (λq hq=>by simp[hq]) (λq hq=>by simp[hq])
theorem BookSt.g(h:BookSt w fp b vi vg vc va hi hg hc ha):BRow w fp 71 66 mGlob vg hg:=by
 obtain⟨fe,rfl,-,-,h1,-,-⟩:=h.ex;exact h1.out (λq hq=>by simp[hq]) (λq hq=>by simp[hq])
theorem BookSt.c(h:BookSt w fp b vi vg vc va hi hg hc ha):BRow w fp 72 75 mIns vc hc:=by
 obtain⟨fe,rfl,-,-,-,h1,-⟩:=h.ex;exact h1.out (λq hq=>by simp[hq]) (λq hq=>by simp[hq])
theorem BookSt.a(h:BookSt w fp b vi vg vc va hi hg hc ha):BRow w fp 76 78 mAlt va ha:=by
 obtain⟨fe,rfl,-,-,-,-,h1⟩:=h.ex;exact h1.out (λq hq=>by simp[hq]) (λq hq=>by simp[hq])
theorem BookSt.fr(h:BookSt w fp b vi vg vc va hi hg hc ha)(hf:Fr fp w w'):BookSt w' fp b vi vg vc va hi hg hc ha:=by
 have hm:=h.mem;obtain⟨fe,rfl,ha,h1,h2,h3,h4⟩:=h.ex;have hfe:Fr fe w w':=hf.sub λq hq=>by simp[hq]
 exact⟨h.box.of_block (hf b hm),fe,rfl,ha,h1.fr (hf.sub λq hq=>by simp[hq]) hfe,h2.fr (hf.sub λq hq=>by simp[hq]) hfe,h3.fr (hf.sub λq hq=>by simp[hq]) hfe,h4.fr (hf.sub λq hq=>by simp[hq]) hfe⟩
theorem BookSt.new{w:World}{b:Nat}(h:Bx4 w b (.slice none 0 0) (.slice none 0 0) (.slice none 0 0) (.slice none 0 0)):BookSt w [b] b (.slice none 0 0) (.slice none 0 0) (.slice none 0 0) (.slice none 0 0) [] [] [] []:=
 ⟨h,[],by simp[vB_nil],⟨by simp[vB_nil],by simp[vB_nil],by simp[vB_nil],by simp[vB_nil],by simp,by simp[vB_nil,Dj],by simp[vB_nil,Dj],by simp[vB_nil,Dj],by simp[vB_nil,Dj],by simp[vB_nil,Dj],by simp[vB_nil,Dj],by simp[vB_nil,Dj],by simp[vB_nil,Dj],by simp[vB_nil,Dj],by simp[vB_nil,Dj]⟩,BRow0.nil _ _ _ _ _,BRow0.nil _ _ _ _ _,BRow0.nil _ _ _ _ _,BRow0.nil _ _ _ _ _⟩
end
theorem mark_any(i:Nat)(w:World)(hi:i<140737488355328):Calls Tryz.prog 18 #[.int .i64 (i:Int)] w λe w'=>e=.returned (.int .i64 (mkI i))∧w'=w:=by
 have HM:Hid (mkI i=-7000-(i:Int)):=rfl;go_enter Tryz.func18,Tryz.ntmps18;go_wp2;go_ret;exact⟨by rw[HM.out];rfl,rfl⟩
def part(mc xs:List Value)(j:Nat):List Value:=mks mc j++xs.drop (j*mc.length)
theorem part_zero(mc xs:List Value):part mc xs 0=xs:=by simp[part,mks]
theorem part_all(mc xs:List Value)(n:Nat)(h:xs.length=n*mc.length):part mc xs n=mks mc n:=by unfold part;rw[List.drop_of_length_le (by omega),List.append_nil]
theorem part_next2(a b:Value)(xs:List Value)(j:Nat)(h:j*2+1<xs.length):((part [a,b] xs j).set (j*2) a).set (j*2+1) b=part [a,b] xs (j+1):=by
 have hl:(mks [a,b] j).length=j*2:=mks_len _ _;have hd:xs.drop (j*2)=xs[j*2]::xs[j*2+1]::xs.drop ((j+1)*2):=by
  rw[List.drop_eq_getElem_cons (by omega),List.drop_eq_getElem_cons (i:=j*2+1) (by omega),show(j+1)*2=j*2+1+1 by omega]
 unfold part;rw[show([a,b]:List Value).length=2 from rfl,hd,mks_add,show mks [a,b] 1=[a,b] by simp[mks],List.append_assoc];rw[List.set_append_right _ _ (by omega),List.set_append_right _ _ (by omega),hl,Nat.sub_self,show j*2+1-j*2=1 by omega];rfl
theorem MkRow.keep{w w':World}{e:TypeId}{mc:List Value}{v:Value}{n:Nat}(h:MkRow w e mc v n)(hb:Below w.heap.size w w'):MkRow w' e mc v n:=row_keep h hb
end Go.Proofs.YtefpamchdheldaaGreatDoor
