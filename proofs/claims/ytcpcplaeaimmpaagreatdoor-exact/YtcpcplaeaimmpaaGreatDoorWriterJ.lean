import Derived.Deep.CutBlock
import Derived.Test.YtcpcplaeaimmpaaGreatDoorRt3J
set_option maxRecDepth 100000
set_option maxHeartbeats 8000000
namespace Go.Proofs.YtcpcplaeaimmpaaGreatDoor
open Go.RowKit Go.Sort
theorem Tryz.altI:(Tryz.prog.info? 91).map (λi=>(i.zero,i.size,i.bytes))=some (some (.agg #[.int .i64 0,.int .i64 0]),2,16):=by kernel_rfl
theorem Tryz.impI:(Tryz.prog.info? 58).map (λi=>(i.zero,i.size,i.bytes))=some (some (.agg #[.string ⟨#[]⟩,.int .i64 0]),2,24):=by kernel_rfl
theorem Tryz.insI:(Tryz.prog.info? 89).map (λi=>(i.zero,i.size,i.bytes))=some (some (.agg #[.int .i64 0,.int .i64 0,.slice none 0 0]),3,40):=by kernel_rfl
theorem Tryz.globI:(Tryz.prog.info? 61).map (λi=>(i.zero,i.size,i.bytes))=some (some (.agg #[.string ⟨#[]⟩,.int .i64 0,.bool false,.slice none 0 0]),4,56):=by kernel_rfl
structure Bx2 (w:World) (b:Nat) (x y:Value):Prop where
 c0:w.cell? ⟨b,0,none⟩=some x
 c1:w.cell? ⟨b,1,none⟩=some y
 f0:w.frozen? ⟨b,0,none⟩=false
 f1:w.frozen? ⟨b,1,none⟩=false
theorem Bx2.new(w:World)(x y:Value)(t:TypeId):Bx2 (w.alloc (.cells #[x,y] t)) w.heap.size x y:=⟨by simp,by simp,by simp,by simp⟩
theorem Bx2.lt{w:World}{b:Nat}{x y:Value}(h:Bx2 w b x y):b<w.heap.size:=block_lt_of_cell h.c0
theorem Bx2.of_block{w w':World}{b:Nat}{x y:Value}(h:Bx2 w b x y)(e:w'.heap[b]?=w.heap[b]?):Bx2 w' b x y:=by
 refine⟨?_,?_,?_,?_⟩
 ·rw[World.cell?_of_block (a:=⟨b,0,none⟩) e];exact h.c0
 ·rw[World.cell?_of_block (a:=⟨b,1,none⟩) e];exact h.c1
 ·rw[World.frozen?_of_block (a:=⟨b,0,none⟩) e];exact h.f0
 ·rw[World.frozen?_of_block (a:=⟨b,1,none⟩) e];exact h.f1
theorem Bx2.off{bs:List Nat}{w w':World}{b:Nat}{x y:Value}(h:Bx2 w b x y)(ho:Off bs w w')(hn:b∉bs):Bx2 w' b x y:=h.of_block (ho.block b h.lt hn)
theorem Bx2.set1{w:World}{b:Nat}{x y:Value}(h:Bx2 w b x y)(u:Value):Bx2 (w.setCell ⟨b,1,none⟩ u) b x u:=
 ⟨by rw[World.cell?_setCell_other _ _ _ _ (off_ne (by omega))];exact h.c0,World.cell?_setCell_same _ _ _ h.c1,by rw[World.frozen?_setCell];exact h.f0,by rw[World.frozen?_setCell];exact h.f1⟩
theorem RowS.notIn{α:Type}{cells:α->List Value}{sub:α->List Nat}{ok:World->α->Prop}{e:TypeId}{size:Nat}{w:World}{lo:Nat}{v:Value}{xs:List α}(h:RowS cells sub ok e size w lo v xs){b:Nat}(hb:b<lo):b∉vB v:=λhm=>by have:=h.rg b (List.mem_append_left _ hm);omega
theorem Off.app{w w6:World}{v:Value}(hg:w.grownBy w6 v.ownBlock):Off (vB v) w w6:=(Off.refl _ _).grown hg λ_ e=>Or.inl (mem_vB.2 e)
theorem RowS.away{α:Type}{cells:α->List Value}{sub:α->List Nat}{ok:World->α->Prop}{e:TypeId}{size:Nat}{w:World}{lo:Nat}{v:Value}{xs:List α}(h:RowS cells sub ok e size w lo v xs){E:Nat}(hE:E<lo):Away E v:=by
 intro p n c hv a ha;subst hv ha;rcases row_at h.own with⟨h1,-⟩|⟨g,cap,h1,-⟩
 ·simp at h1
 ·simp only[Value.slice.injEq,Option.some.injEq]at h1;have h2:=h.rg g (List.mem_append_left _ (mem_vB.2 (by rw[h1.1];rfl)));rw[h1.1];show g≠E;omega
structure Bx4 (w:World) (b:Nat) (x y z u:Value):Prop where
 c0:w.cell? ⟨b,0,none⟩=some x
 c1:w.cell? ⟨b,1,none⟩=some y
 c2:w.cell? ⟨b,2,none⟩=some z
 c3:w.cell? ⟨b,3,none⟩=some u
 f0:w.frozen? ⟨b,0,none⟩=false
 f1:w.frozen? ⟨b,1,none⟩=false
 f2:w.frozen? ⟨b,2,none⟩=false
 f3:w.frozen? ⟨b,3,none⟩=false
theorem Bx4.new(w:World)(x y z u:Value)(t:TypeId):Bx4 (w.alloc (.cells #[x,y,z,u] t)) w.heap.size x y z u:=⟨by simp,by simp,by simp,by simp,by simp,by simp,by simp,by simp⟩
theorem Bx4.lt{w:World}{b:Nat}{x y z u:Value}(h:Bx4 w b x y z u):b<w.heap.size:=block_lt_of_cell h.c0
theorem Bx4.of_block{w w':World}{b:Nat}{x y z u:Value}(h:Bx4 w b x y z u)(e:w'.heap[b]?=w.heap[b]?):Bx4 w' b x y z u:=by
 refine⟨?_,?_,?_,?_,?_,?_,?_,?_⟩
 ·rw[World.cell?_of_block (a:=⟨b,0,none⟩) e];exact h.c0
 ·rw[World.cell?_of_block (a:=⟨b,1,none⟩) e];exact h.c1
 ·rw[World.cell?_of_block (a:=⟨b,2,none⟩) e];exact h.c2
 ·rw[World.cell?_of_block (a:=⟨b,3,none⟩) e];exact h.c3
 ·rw[World.frozen?_of_block (a:=⟨b,0,none⟩) e];exact h.f0
 ·rw[World.frozen?_of_block (a:=⟨b,1,none⟩) e];exact h.f1
 ·rw[World.frozen?_of_block (a:=⟨b,2,none⟩) e];exact h.f2
 ·rw[World.frozen?_of_block (a:=⟨b,3,none⟩) e];exact h.f3
theorem Bx4.ef{E:Nat}{w w':World}{b:Nat}{x y z u:Value}(h:Bx4 w b x y z u)(hE:EF E w w')(hne:b≠E):Bx4 w' b x y z u:=h.of_block (hE.block b h.lt hne)
theorem Bx4.keep{w w':World}{b:Nat}{x y z u:Value}(h:Bx4 w b x y z u)(hb:Below w.heap.size w w'):Bx4 w' b x y z u:=h.of_block (hb.block b h.lt)
theorem Bx4.set1{w:World}{b:Nat}{x y z u:Value}(h:Bx4 w b x y z u)(v:Value):Bx4 (w.setCell ⟨b,1,none⟩ v) b x v z u:=
 ⟨by rw[World.cell?_setCell_other _ _ _ _ (off_ne (by omega))];exact h.c0,World.cell?_setCell_same _ _ _ h.c1,by rw[World.cell?_setCell_other _ _ _ _ (off_ne (by omega))];exact h.c2,by rw[World.cell?_setCell_other _ _ _ _ (off_ne (by omega))];exact h.c3,by rw[World.frozen?_setCell];exact h.f0,by rw[World.frozen?_setCell];exact h.f1,by rw[World.frozen?_setCell];exact h.f2,by rw[World.frozen?_setCell];exact h.f3⟩
theorem Bx4.set2{w:World}{b:Nat}{x y z u:Value}(h:Bx4 w b x y z u)(v:Value):Bx4 (w.setCell ⟨b,2,none⟩ v) b x y v u:=
 ⟨by rw[World.cell?_setCell_other _ _ _ _ (off_ne (by omega))];exact h.c0,by rw[World.cell?_setCell_other _ _ _ _ (off_ne (by omega))];exact h.c1,World.cell?_setCell_same _ _ _ h.c2,by rw[World.cell?_setCell_other _ _ _ _ (off_ne (by omega))];exact h.c3,by rw[World.frozen?_setCell];exact h.f0,by rw[World.frozen?_setCell];exact h.f1,by rw[World.frozen?_setCell];exact h.f2,by rw[World.frozen?_setCell];exact h.f3⟩
theorem Bx4.set3{w:World}{b:Nat}{x y z u:Value}(h:Bx4 w b x y z u)(v:Value):Bx4 (w.setCell ⟨b,3,none⟩ v) b x y z v:=
 ⟨by rw[World.cell?_setCell_other _ _ _ _ (off_ne (by omega))];exact h.c0,by rw[World.cell?_setCell_other _ _ _ _ (off_ne (by omega))];exact h.c1,by rw[World.cell?_setCell_other _ _ _ _ (off_ne (by omega))];exact h.c2,World.cell?_setCell_same _ _ _ h.c3,by rw[World.frozen?_setCell];exact h.f0,by rw[World.frozen?_setCell];exact h.f1,by rw[World.frozen?_setCell];exact h.f2,by rw[World.frozen?_setCell];exact h.f3⟩
theorem stays_alloc_app{w X0 w6:World}{v:Value}{ob:Obj}(hg:(X0.alloc ob).grownBy w6 v.ownBlock){b lo:Nat}(hb:b<X0.heap.size){α:Type}{cells:α->List Value}{sub:α->List Nat}{ok:World->α->Prop}{e:TypeId}{size:Nat}{xs:List α}(h:RowS cells sub ok e size w lo v xs)(hl:b<lo):w6.heap[b]?=X0.heap[b]?:=by
 rw[(Off.app hg).block b (by simp;omega) (h.notIn hl)];exact((Below.refl X0.heap.size X0).alloc (Nat.le_refl _) ob).block b hb
theorem mark_step(s:ByteArray)(k:Nat)(hk:k<4)(h:k<s.size):rdMark s (4-k) k=if s[k].toNat=(⟨#[84,65,82,78]⟩:ByteArray)[k].toNat then rdMark s (4-(k+1)) (k+1) else .error (8,k):=by
 rw[show 4-k=(4-(k+1))+1 by omega,rdMark];have h1:s.data.toList.getD k 0=s[k]:=by
  have h2:k<s.data.size:=h;simp only[List.getD,Array.getElem?_toList,Array.getElem?_eq_getElem h2];rfl
 have h3:(⟨#[84,65,82,78]⟩:ByteArray)[k].toNat=mkB k:=by
  obtain rfl|rfl|rfl|rfl:k=0∨k=1∨k=2∨k=3:=by omega
  all_goals rfl
 rw[h1,h3]
def bodyOf(s:ByteArray):ByteArray:=s.extract 0 (s.size-4)
def sumAt(s:ByteArray)(k:Nat):Prop:=(s.data.toList.getD (s.size-4+k) 0).toNat=crc (bodyOf s).data.toList / 256 ^ k % 256
def sumIs(s:ByteArray):Prop:=∀k,k<4->sumAt s k
open Classical in
noncomputable def docD(s:ByteArray):Except (Int×Int×Int) LObj:=
 if 100000<s.size then .error (1,0,0)
 else if s.size<8 then .error (6,0,s.size)
 else if ¬sumIs s then .error (7,0,(s.size-4:Nat))
 else match rdObj (bodyOf s) with
  |.error (c,a)=>.error (c,0,a)
  |.ok (O,_)=>match sBad (O.imps.length+O.globs.length) O.globs 0 with
   |some (e,k,i)=>.error (12+e,k,i)
   |none=>.ok O
theorem docD_long{s:ByteArray}(h:100000<s.size):docD s=.error (1,0,0):=by unfold docD;rw[if_pos h]
theorem docD_short{s:ByteArray}(h:¬100000<s.size)(h2:s.size<8):docD s=.error (6,0,s.size):=by unfold docD;rw[if_neg h,if_pos h2]
theorem docD_sum{s:ByteArray}(h:¬100000<s.size)(h2:¬s.size<8)(h3:¬sumIs s):docD s=.error (7,0,(s.size-4:Nat)):=by unfold docD;rw[if_neg h,if_neg h2,if_pos h3]
theorem docD_err{s:ByteArray}(h:¬100000<s.size)(h2:¬s.size<8)(h3:sumIs s){c a:Nat}(h4:rdObj (bodyOf s)=.error (c,a)):docD s=.error (c,0,a):=by unfold docD;rw[if_neg h,if_neg h2,if_neg (λh'=>h' h3),h4]
theorem docD_bad{s:ByteArray}(h:¬100000<s.size)(h2:¬s.size<8)(h3:sumIs s){O:LObj}{q:Nat}(h4:rdObj (bodyOf s)=.ok (O,q)){e k i:Nat}(h5:sBad (O.imps.length+O.globs.length) O.globs 0=some (e,k,i)):docD s=.error (12+e,k,i):=by unfold docD;rw[if_neg h,if_neg h2,if_neg (λh'=>h' h3),h4];show(match sBad _ _ _ with|some (e,k,i)=>_|none=>_)=_;rw[h5]
theorem docD_ok{s:ByteArray}(h:¬100000<s.size)(h2:¬s.size<8)(h3:sumIs s){O:LObj}{q:Nat}(h4:rdObj (bodyOf s)=.ok (O,q))(h5:sBad (O.imps.length+O.globs.length) O.globs 0=none):docD s=.ok O:=by unfold docD;rw[if_neg h,if_neg h2,if_neg (λh'=>h' h3),h4];show(match sBad _ _ _ with|some (e,k,i)=>_|none=>_)=_;rw[h5]
structure ObjFine (n:Nat) (O:LObj):Prop where
 nm:O.name.size<=16
 im:O.imps.length<=n
 imn:∀x∈O.imps,x.name.size<=16
 gl:O.globs.length<=n
 gf:∀g∈O.globs,GlobFine g
theorem rdMark_ok{s:ByteArray}:∀(n k:Nat) {u:Unit} {q:Nat},rdMark s n k=.ok (u,q)->q=k+n
 |0,k,u,q,h=>by simp only[rdMark,Except.ok.injEq,Prod.mk.injEq]at h;omega
 |n+1,k,u,q,h=>by
  rw[rdMark]at h;split at h
  ·have:=rdMark_ok n (k+1) h;omega
  ·cases h
theorem rdObj_ok{s:ByteArray}{O:LObj}{q:Nat}(h:rdObj s=.ok (O,q)):ObjFine s.size O∧q=s.size:=by
 obtain⟨u,p1,h1,h⟩:=bd_ok_inv h;obtain⟨nm,p2,h2,h⟩:=bd_ok_inv h;obtain⟨n,p3,h3,h⟩:=bd_ok_inv h;obtain⟨is,p4,h4,h⟩:=bd_ok_inv h;obtain⟨m,p5,h5,h⟩:=bd_ok_inv h;obtain⟨gs,p6,h6,h⟩:=bd_ok_inv h;have k1:=rdMark_ok _ _ h1;have k2:=rdName_ok h2;have k3:=rdV_ok h3;obtain⟨a1,a2,a3,a4,-⟩:=rdImps_ok _ _ _ _ _ _ h4 (by omega);have k5:=rdV_ok h5;obtain⟨b1,b2,b3,b4⟩:=rdGlobs_ok _ _ _ _ _ _ h6 (by omega);simp only[List.length_nil,Nat.zero_add]at a3 b3;split at h
 ·cases h
 ·cases h;exact⟨⟨k2.2.2.2.1,by show is.length<=_;omega,a4 (λx hx=>by cases hx),by show gs.length<=_;omega,b4 (λx hx=>by cases hx)⟩,by omega⟩
theorem rdObj_err{s:ByteArray}{c a:Nat}(h:rdObj s=.error (c,a)):CE c:=by
 have hm:∀n k,rdMark s n k=.error (c,a)->CE c:=by
  intro n;induction n with
  |zero=>intro k h;cases h
  |succ n ih=>
   intro k h;rw[rdMark]at h;split at h
   ·exact ih _ h
   ·cases h;unfold CE;omega
 rcases bd_err_inv h with h|⟨_,p1,-,h⟩
 ·exact hm _ _ h
 rcases bd_err_inv h with h|⟨_,p1,-,h⟩
 ·exact rdName_err h
 rcases bd_err_inv h with h|⟨_,p1,-,h⟩
 ·have:=rdV_err h;unfold CE;omega
 rcases bd_err_inv h with h|⟨_,p1,-,h⟩
 ·exact rdImps_err _ _ _ _ _ _ h
 rcases bd_err_inv h with h|⟨_,p1,-,h⟩
 ·have:=rdV_err h;unfold CE;omega
 rcases bd_err_inv h with h|⟨_,p1,-,h⟩
 ·exact rdGlobs_err _ _ _ _ _ _ h
 split at h
 ·cases h;unfold CE;omega
 ·cases h
theorem ObjFine.good{n:Nat}{O:LObj}(h:ObjFine n O):GoodGs O.globs:=by
 intro k hk;obtain⟨h1,h2,h3,h4,h5⟩:=h.gf _ (List.getElem_mem hk);refine⟨?_,h2,h3⟩;unfold codeG;rw[Bool.and_eq_true];exact⟨decide_eq_true h4,List.all_eq_true.2 λx hx=>(h5 x hx).1⟩
theorem ObjFine.imps{n:Nat}{O:LObj}(h:ObjFine n O)(hn:n<=100000){w:World}{lo:Nat}{iv:Value}(hI:ImpsO w lo iv O.imps):ImpsAt w iv O.imps:=hI.at (by have h1:=h.im;show _<_;omega) (λx hx=>by have:=h.imn x hx;unfold maxLen;omega)
theorem ObjFine.globs{n:Nat}{O:LObj}(h:ObjFine n O)(hn:n<=100000){w:World}{lo':Nat}{gv:Value}{G:GlobL}(hG:GlobsO w lo' gv G)(he:G.map (·.1)=O.globs):GlobsAt w gv O.globs:=by
 have hl:G.length=O.globs.length:=by rw[<-he,List.length_map]
 have h2:=h.gl;rw[<-he];refine hG.at (by show _<_;omega) λx hx=>?_;have hx1:x.1∈O.globs:=by rw[<-he];exact List.mem_map_of_mem hx
 obtain⟨k1,k2,k3,k4,k5⟩:=h.gf _ hx1;have hc:=(hG.it x hx).2;have hcl:x.2.2.length=x.1.code.length:=by rw[<-hc,List.length_map]
 refine⟨by show _<_;omega,by unfold maxLen;omega,λy hy=>?_⟩;have hy1:y.1∈x.1.code:=by rw[<-hc];exact List.mem_map_of_mem hy
 have:=(k5 _ hy1).2;show _<_;omega
theorem ObjFine.at{n:Nat}{O:LObj}(h:ObjFine n O)(hn:n<=100000){w:World}{lo lo':Nat}{iv gv:Value}{G:GlobL}(hI:ImpsO w lo iv O.imps)(hG:GlobsO w lo' gv G)(he:G.map (·.1)=O.globs):ObjAt w (.agg #[.string O.name,iv,gv]) O:=by
 exact⟨iv,gv,rfl,by have:=h.nm;unfold maxLen;omega,h.imps hn hI,h.globs hn hG he⟩
end Go.Proofs.YtcpcplaeaimmpaaGreatDoor
namespace Go.Proofs.YtcpcplaeaimmpaaGreatDoor
open Go.RowKit
theorem toU8_tb(s:ByteArray):toU8 (tb s)=s.data.toList:=by
 unfold toU8 tb;rw[List.map_map];conv=>rhs;rw[<-List.map_id s.data.toList]
 exact List.map_congr_left λb _=>by simp
theorem tb_toBA{l:List Nat}(h:∀b∈l,b<256):tb (toBA l)=l:=by
 unfold tb;rw[toBA_list,toU8,List.map_map];conv=>rhs;rw[<-List.map_id l]
 exact List.map_congr_left λb hb=>by
  have:=h b hb;simp;omega
theorem toBA_tb(s:ByteArray):toBA (tb s)=s:=ByteArray.ext (by show(toU8 (tb s)).toArray=_;rw[toU8_tb])
theorem tb_body(s:ByteArray):tb (bodyOf s)=(tb s).take (s.size-4):=by
 unfold bodyOf;rw[tb_ext,List.drop_zero,Nat.sub_zero]
theorem last4(L:List Nat)(n:Nat)(h:L.length=n+4):L.drop n=[L.getD n 0,L.getD (n+1) 0,L.getD (n+2) 0,L.getD (n+3) 0]:=by
 have hg:∀k,L.getD (n+k) 0=(L.drop n).getD k 0:=λk=>by simp only[List.getD_eq_getElem?_getD,List.getElem?_drop]
 have h0:=hg 0;rw[Nat.add_zero]at h0;rw[h0,hg 1,hg 2,hg 3];have hl:(L.drop n).length=4:=by rw[List.length_drop];omega
 match L.drop n,hl with
 |[a,b,c,d],_=>rfl
theorem sum_file{s:ByteArray}(h4:4<=s.size):sumIs s↔tb s=tb (bodyOf s)++sumB (tb (bodyOf s)):=by
 have hl:(tb s).length=(s.size-4)+4:=by rw[tb_len];omega
 have hsp:tb s=tb (bodyOf s)++(tb s).drop (s.size-4):=by rw[tb_body,List.take_append_drop]
 have hd:=last4 (tb s) (s.size-4) hl;have hc:crc (toU8 (tb (bodyOf s)))=crc (bodyOf s).data.toList:=by rw[toU8_tb]
 have hk:∀k,sumAt s k↔(tb s).getD (s.size-4+k) 0=crc (bodyOf s).data.toList / 256 ^ k % 256:=λk=>by unfold sumAt;rw[getD_tb]
 have hB:sumB (tb (bodyOf s))=[crc (bodyOf s).data.toList % 256,crc (bodyOf s).data.toList / 256 % 256,crc (bodyOf s).data.toList / 65536 % 256,crc (bodyOf s).data.toList / 16777216 % 256]:=by unfold sumB;rw[hc]
 generalize crc (bodyOf s).data.toList=C at*;constructor
 ·intro h;have k0:=(hk 0).1 (h 0 (by omega));have k1:=(hk 1).1 (h 1 (by omega));have k2:=(hk 2).1 (h 2 (by omega));have k3:=(hk 3).1 (h 3 (by omega));rw[Nat.add_zero,Nat.pow_zero,Nat.div_one]at k0;rw[k0,k1,k2,k3]at hd;rw[hB];exact hsp.trans (by rw[hd])
 ·intro h k hk4;rw[hk];have he:(tb s).drop (s.size-4)=sumB (tb (bodyOf s)):=List.append_cancel_left (hsp.symm.trans h);rw[hd,hB]at he;simp only[List.cons.injEq,and_true]at he;rcases(show k=0∨k=1∨k=2∨k=3 by omega) with rfl|rfl|rfl|rfl
  ·rw[Nat.add_zero,Nat.pow_zero,Nat.div_one];exact he.1
  ·exact he.2.1
  ·exact he.2.2.1
  ·exact he.2.2.2
theorem ig_of{O:LObj}(hV:valsG O=true)(hR:RangeO O):∀g∈O.globs,∀x∈g.code,IG x:=λg hg x hx=>⟨((GoodO.of hV).globs g hg).2.2.2 x hx,hR g hg x hx⟩
theorem hb4(O:LObj):4<=(hb O).length:=by rw[hb_split,List.length_append];simp only[List.length_cons,List.length_nil];omega
theorem hb_small{O:LObj}(hL:(hb O).length+4<=100000):O.imps.length<140737488355328∧O.globs.length<140737488355328:=by
 have h1:∀l:List LImp,l.length<=(l.flatMap ib).length:=λl=>by
  induction l with
  |nil=>simp
  |cons a r ih=>
   rw[List.flatMap_cons,List.length_append,List.length_cons];have:=vb_pos a.arity.toNat;have hi:(ib a).length=(nb a.name).length+(vb a.arity.toNat).length:=by unfold ib;rw[List.length_append]
   omega
 have h2:∀l:List LGlob,l.length<=(l.flatMap gb).length:=λl=>by
  induction l with
  |nil=>simp
  |cons a r ih=>
   rw[List.flatMap_cons,List.length_append,List.length_cons];have:=vb_pos a.arity.toNat;have hi:(vb a.arity.toNat).length<=(gb a).length:=by rw[gb_eqR,List.length_append];unfold gt';rw[List.length_append];omega
   omega
 have m1:=h1 O.imps;have m2:=h2 O.globs;rw[hb_split]at hL;simp only[List.length_append]at hL;omega
def fileOf(O:LObj):ByteArray:=toBA (hb O++sumB (hb O))
theorem sumB_len(l:List Nat):(sumB l).length=4:=rfl
theorem file_size(O:LObj):(fileOf O).size=(hb O).length+4:=by unfold fileOf;rw[toBA_size,List.length_append,sumB_len]
theorem file_tb{O:LObj}(hV:valsG O=true)(hR:RangeO O)(hL:(hb O).length+4<=100000):tb (fileOf O)=hb O++sumB (hb O):=by
 have hs:=hb_small hL;refine tb_toBA λb hb'=>?_;rcases List.mem_append.1 hb' with h|h
 ·exact hb_lt O (GoodO.of hV) hR hs.1 hs.2 b h
 ·unfold sumB at h;simp only[List.mem_cons,List.not_mem_nil,or_false]at h;rcases h with rfl|rfl|rfl|rfl<;>exact Nat.mod_lt _ (by omega)
theorem enc_dec{O:LObj}(hV:valsG O=true)(hR:RangeO O)(hL:(hb O).length+4<=100000):docD (fileOf O)=match sBad (O.imps.length+O.globs.length) O.globs 0 with|some (e,k,i)=>.error ((12+e:Nat),(k:Int),(i:Int))|none=>.ok O:=by
 have hz:=file_size O;have h4:=hb4 O;have ht:=file_tb hV hR hL;have hb':tb (bodyOf (fileOf O))=hb O:=by rw[tb_body,ht,hz,Nat.add_sub_cancel,List.take_left]
 have hs:sumIs (fileOf O):=(sum_file (by omega)).2 (by rw[hb',ht]);have hsz:(bodyOf (fileOf O)).size=(hb O).length:=by rw[<-tb_len,hb']
 have hr:=(rdObj_iff (s:=bodyOf (fileOf O)) (O:=O) (q:=(bodyOf (fileOf O)).size) (by omega)).2 ⟨⟨hV,ig_of hV hR⟩,hb',rfl⟩;match h5:sBad (O.imps.length+O.globs.length) O.globs 0 with
 |some (e,k,i)=>rw[docD_bad (by omega) (by omega) hs hr h5];rfl
 |none=>rw[docD_ok (by omega) (by omega) hs hr h5]
theorem dec_enc{s:ByteArray}{O:LObj}(h:docD s=.ok O):valsG O=true∧RangeO O∧(hb O).length+4<=100000∧s=fileOf O∧sBad (O.imps.length+O.globs.length) O.globs 0=none:=by
 by_cases h1:100000<s.size
 ·rw[docD_long h1]at h;cases h
 by_cases h2:s.size<8
 ·rw[docD_short h1 h2]at h;cases h
 by_cases h3:sumIs s
 ·match h4:rdObj (bodyOf s) with
  |.error (c,a)=>rw[docD_err h1 h2 h3 h4]at h;cases h
  |.ok (O',q)=>
   have hle:(bodyOf s).size<=s.size:=by rw[<-tb_len,<-tb_len s,tb_body,List.length_take];omega
   obtain⟨⟨k1,k2⟩,k3,-⟩:=(rdObj_iff (by omega)).1 h4;match h5:sBad (O'.imps.length+O'.globs.length) O'.globs 0 with
   |some (e,k,i)=>rw[docD_bad h1 h2 h3 h4 h5]at h;cases h
   |none=>
    rw[docD_ok h1 h2 h3 h4 h5]at h;cases h;have ht:=(sum_file (by omega)).1 h3;rw[k3]at ht;have hl:=congrArg List.length ht;rw[tb_len,List.length_append,sumB_len]at hl;exact⟨k1,λg hg x hx=>(k2 g hg x hx).2,by omega,by unfold fileOf;rw[<-ht,toBA_tb],h5⟩
 ·rw[docD_sum h1 h2 h3]at h;cases h
end Go.Proofs.YtcpcplaeaimmpaaGreatDoor
namespace Go.Proofs.YtcpcplaeaimmpaaGreatDoor
open Go.RowKit Go.Sort Go.Lib
structure WExt (P:Nat) (w w':World) (vo v:Value):Prop where
 os:w'.os=w.os
 tape:w'.tape=w.tape
 output:w'.output=w.output
 size:w.heap.size<=w'.heap.size
 block:∀k,k<w.heap.size->k≠P->some k≠vo.ownBlock->w'.heap[k]?=w.heap[k]?
 moved:v.ownBlock=vo.ownBlock∨∃k,v.ownBlock=some k∧w.heap.size<=k
theorem WExt.refl(P:Nat)(w:World)(v:Value):WExt P w w v v:=⟨rfl,rfl,rfl,Nat.le_refl _,λ_ _ _ _=>rfl,Or.inl rfl⟩
theorem WExt.of_below{P:Nat}{w w':World}(h:Below w.heap.size w w')(v:Value):WExt P w w' v v:=⟨h.os,h.tape,h.output,h.size,λk hk _ _=>h.block k hk,Or.inl rfl⟩
theorem WExt.trans{P:Nat}{w w1 w2:World}{v0 v1 v2:Value}(h:WExt P w w1 v0 v1)(k:WExt P w1 w2 v1 v2):WExt P w w2 v0 v2:=by
 refine⟨k.os.trans h.os,k.tape.trans h.tape,k.output.trans h.output,Nat.le_trans h.size k.size,λb hb hP hne=>?_,?_⟩
 ·rw[k.block b (Nat.lt_of_lt_of_le hb h.size) hP ?_,h.block b hb hP hne];rcases h.moved with e|⟨j,e,hj⟩
  ·rw[e];exact hne
  ·rw[e];intro e2;simp at e2;omega
 ·rcases k.moved with e|⟨j,e,hj⟩
  ·rcases h.moved with e1|⟨j,e1,hj⟩
   ·exact Or.inl (e.trans e1)
   ·exact Or.inr ⟨j,e.trans e1,hj⟩
  ·exact Or.inr ⟨j,e,Nat.le_trans h.size hj⟩
theorem WExt.cell{P:Nat}{w w':World}{vo v u:Value}{b j:Nat}(h:WExt P w w' vo v)(hc:w.cell? ⟨b,j,none⟩=some u)(hP:b≠P)(hne:vo.ownBlock≠some b):w'.cell? ⟨b,j,none⟩=some u:=by
 rw[<-hc];exact World.cell?_of_block (h.block b (block_lt_of_cell hc) hP (λe=>hne e.symm))
theorem WExt.ne{P:Nat}{W w':World}{v0 v:Value}{b:Nat}(h:WExt P W w' v0 v)(hb:b<W.heap.size)(hne:v0.ownBlock≠some b):v.ownBlock≠some b:=by
 rcases h.moved with e|⟨k,e,hk⟩
 ·rw[e];exact hne
 ·rw[e];intro e2;simp at e2;omega
theorem WExt.below{P:Nat}{w w':World}{vo v:Value}{B:Nat}(h:WExt P w w' vo v)(hB:B<=w.heap.size)(hP:B<=P)(hr:∀k,vo.ownBlock=some k->B<=k):Below B w w':=
 ⟨h.os,h.tape,h.output,h.size,λk hk=>h.block k (by omega) (by omega) (λe=>by have:=hr k e.symm;omega)⟩
def WInv(bs full:List Nat):Prop:=bs=full∨(100000<bs.length∧100000<full.length)
theorem WInv.more{bs full:List Nat}(h:WInv bs full)(c:List Nat)(hl:bs.length<=100000):WInv (bs++c) (full++c):=by
 rcases h with rfl|h
 ·exact Or.inl rfl
 ·omega
theorem WInv.stop{bs full:List Nat}(h:WInv bs full)(c:List Nat)(hl:100000<bs.length):WInv bs (full++c):=by
 right
 rcases h with rfl|h
 ·exact⟨hl,by rw[List.length_append];omega⟩
 ·exact⟨hl,by rw[List.length_append];omega⟩
structure WS (w:World) (P B:Nat) (v:Value) (full:List Nat):Prop where
 c:w.cell? ⟨P,0,none⟩=some v
 f:w.frozen? ⟨P,0,none⟩=false
 lt:P<B
 le:B<=w.heap.size
 bs:∃bs,Buf w B v bs∧WInv bs full∧bs.length<=100020
def WRes(P B:Nat)(w:World)(v:Value)(full:List Nat)(e:Ending)(w':World):Prop:=∃v',e=.returned (.tuple #[])∧WS w' P B v' full∧WExt P w w' v v'
theorem wstep{wB X w2:World}{P B g n cap:Nat}{v:Value}{bs M:List Nat}(hc:wB.cell? ⟨P,0,none⟩=some v)(hf:wB.frozen? ⟨P,0,none⟩=false)(hPB:P<B)(hX:Below wB.heap.size wB X)(hBuf:Buf wB B v bs)
 (hown:w2.ownsRow B 5 1 (.slice (some ⟨g,0,none⟩) n cap) n (u8s bs++u8s M)) (hn:n=bs.length+M.length) (hgrow:X.grownBy w2 v.ownBlock) (hat:v.ownBlock=some g∨g=X.heap.size):
 (w2.cell? ⟨P,0,none⟩=some v∧w2.frozen? ⟨P,0,none⟩=false)∧((w2.setCell ⟨P,0,none⟩ (.slice (some ⟨g,0,none⟩) n cap)).cell? ⟨P,0,none⟩=some (.slice (some ⟨g,0,none⟩) n cap)∧(w2.setCell ⟨P,0,none⟩ (.slice (some ⟨g,0,none⟩) n cap)).frozen? ⟨P,0,none⟩=false)∧
 Buf (w2.setCell ⟨P,0,none⟩ (.slice (some ⟨g,0,none⟩) n cap)) B (.slice (some ⟨g,0,none⟩) n cap) (bs++M)∧WExt P wB (w2.setCell ⟨P,0,none⟩ (.slice (some ⟨g,0,none⟩) n cap)) v (.slice (some ⟨g,0,none⟩) n cap):=by
 have hP:P<wB.heap.size:=block_lt_of_cell hc;have hne:some P≠v.ownBlock:=λe=>by have:=(hBuf.base P e.symm).1;omega
 have e1:w2.cell? ⟨P,0,none⟩=some v:=by
  rw[hgrow.cell_far ⟨P,0,none⟩ (Nat.lt_of_lt_of_le hP hX.size) hne];exact cell_keep hX hc
 have e2:w2.frozen? ⟨P,0,none⟩=false:=by
  rw[hgrow.frozen_far ⟨P,0,none⟩ (Nat.lt_of_lt_of_le hP hX.size) hne,hX.frozen hP];exact hf
 refine⟨⟨e1,e2⟩,⟨World.cell?_setCell_same _ _ _ e1,by rw[World.frozen?_setCell];exact e2⟩,?_,?_⟩
 ·subst hn;have h:=ownsRow_setCell_below hown (a:=⟨P,0,none⟩) hPB (.slice (some ⟨g,0,none⟩) (bs.length+M.length) cap);unfold Buf;rw[List.length_append,u8s_app];exact h
 ·refine⟨hgrow.os.trans hX.os,hgrow.tape.trans hX.tape,hgrow.output.trans hX.output,by simp;exact Nat.le_trans hX.size hgrow.size,λk hk hkP hke=>?_,?_⟩
  ·rw[Below.heap_setCell _ _ _ _ hkP,hgrow.block k (Nat.lt_of_lt_of_le hk hX.size) hke,hX.block k hk]
  ·rcases hat with e|rfl
   ·exact Or.inl e.symm
   ·exact Or.inr ⟨_,rfl,hX.size⟩
theorem number_any(x P B:Nat)(v:Value)(full:List Nat)(w:World)(hx:x<18446744073709551616)(hW:WS w P B v full):
 Calls Tryz.prog 76 #[.pointer (some ⟨P,0,none⟩),.int .u64 x] w λe w'=>WRes P B w v (full++vb x) e w':=by
 obtain⟨i,hi,hii⟩:=Option.map_eq_some_iff.1 Tryz.u8Info;simp only[Prod.mk.injEq]at hii;obtain⟨hz0,hz1,hz2⟩:=hii;obtain⟨c0,f0,lt0,le0,bs,hB,hI,hl⟩:=hW;obtain⟨p,c,rfl⟩:=hB.slice;have HB:=hid hB;have HI:=hid hI;have hL:bs.length=bs.length:=rfl;generalize hLL:bs.length=L at*;have HLL:=hid hLL;clear hB hI hLL hL;by_cases hbig:L<=100000
 ·have hbig':¬(100000:Int)<(L:Int):=by omega
  go_enter Tryz.func76,Tryz.ntmps76;go_wp2;go_loopw [1] (λxv wr=>∃(m:Nat) (pre:List Nat) (p':Option Addr) (n' c':Nat),xv=.int .u64 m∧m<18446744073709551616∧n'<=100010∧wr.cell? ⟨P,0,none⟩=some (.slice p' n' c')∧wr.frozen? ⟨P,0,none⟩=false∧Hid (pre++vb m=vb x∧Buf wr B (.slice p' n' c') (bs++pre)∧n'=(bs++pre).length∧WExt P w wr (.slice p L c) (.slice p' n' c'))) (λxv _=>(intOf xv).toNat)
  case atStart=>exact⟨x,[],p,L,c,rfl,hx,by omega,c0,f0,rfl,by simpa using HB.out,by simp[HLL.out],WExt.refl _ _ _⟩
  case round=>
   obtain⟨m,pre,p',n',c',rfl,hm,hn',d0,e0,HK⟩:=hrel;rename World=>wB
   obtain⟨hv,hBf,hnl,hE⟩:=id HK.out;have hsz:=hE.size;have HBf:=hid hBf;have HNL:=hid hnl;by_cases hlt:m<128
   ·have hlt':(m:Int)<128:=by omega
    have hpl:pre.length<=9:=by
     have:=vb_len10 x hx;rw[<-hv,vb_small hlt,List.length_append]at this;simp at this;omega
    clear hv hBf hnl hE;go_wp2_with (first
     |(at_builtin;refine wpList_append_lies _ rfl (.tmp 31) (.tmp 34) 40 rfl B 5 i _ 1 1 Tryz.underlying40 hi hz0 hz1 hz2 rfl (by omega) (.slice p' n' c') n' (u8s (bs++pre)) rfl (by have h:=HBf.out;unfold Buf at h;rw[<-HNL.out]at h;exact h.alloc _) ⟨wB.heap.size,0,none⟩ 1 1 [.int .u8 (m:Int)] rfl rfl (World.news_of_block (heap_alloc_new _ _)) (by intro u hu;simp at hu;subst hu;rfl) (by omega) (by unfold maxLen;omega) (by omega) (by simp;omega) _ rfl ?_;intro g2 k2 w2 hown hgrow hat hlt1;have hst:=wstep (M:=[m]) d0 e0 lt0 ((Below.refl _ _).alloc (Nat.le_refl _) _) HBf.out hown (by rw[HNL.out];rfl) hgrow hat;obtain⟨⟨d1,e1⟩,⟨d2,e2⟩,hB2,hE2⟩:=hst;have HB2:=hid hB2;have HE2:=hid hE2;clear hB2 hE2 hown hgrow hat d0 e0))
    refine bE ?_;refine⟨_,rfl,⟨d2,e2,lt0,by have:=HE2.out.size;omega,bs++pre++[m],HB2.out,?_,?_⟩,HK.out.2.2.2.trans HE2.out⟩
    ·have h:=HK.out.1;rw[vb_small hlt]at h;rw[List.append_assoc,h];exact HI.out.more _ (by rw[HLL.out];exact hbig)
    ·rw[List.length_append,List.length_append,HLL.out];simp;omega
   ·have hlt':¬(m:Int)<128:=by omega
    have hpl:pre.length<=8:=by
     have:=vb_len10 x hx;rw[<-hv,vb_big hlt,List.length_append,List.length_cons]at this;have h2:=vb_pos (m / 128);omega
    clear hv hBf hnl hE;go_wp2_with (first
     |(at_builtin;refine wpList_append_lies _ rfl (.tmp 16) (.tmp 21) 40 rfl B 5 i _ 1 1 Tryz.underlying40 hi hz0 hz1 hz2 rfl (by omega) (.slice p' n' c') n' (u8s (bs++pre)) rfl (by have h:=HBf.out;unfold Buf at h;rw[<-HNL.out]at h;exact h.alloc _) ⟨wB.heap.size,0,none⟩ 1 1 [.int .u8 ((m:Int) % 128+128)] rfl rfl (World.news_of_block (heap_alloc_new _ _)) (by intro u hu;simp at hu;subst hu;rfl) (by omega) (by unfold maxLen;omega) (by omega) (by simp;omega) _ rfl ?_;intro g2 k2 w2 hown hgrow hat hlt1;have hst:=wstep (M:=[m % 128+128]) d0 e0 lt0 ((Below.refl _ _).alloc (Nat.le_refl _) _) HBf.out (by simpa[u8s]using hown) (by rw[HNL.out];rfl) hgrow hat;obtain⟨⟨d1,e1⟩,⟨d2,e2⟩,hB2,hE2⟩:=hst;have HB2:=hid hB2;have HE2:=hid hE2;clear hB2 hE2 hown hgrow hat d0 e0))
    refine⟨⟨m / 128,pre++[m % 128+128],some ⟨g2,0,none⟩,n'+1,k2,by simp,by omega,?_,d2,e2,?_,?_,?_,HK.out.2.2.2.trans HE2.out⟩,by simp[intOf];omega⟩
    ·have h:=HNL.out;rw[List.length_append,HLL.out]at h;omega
    ·have h:=HK.out.1;rw[vb_big hlt]at h;simpa using h
    ·simpa[List.append_assoc]using HB2.out
    ·have h:=HNL.out;simp only[List.length_append,List.length_cons,List.length_nil]at h ⊢;omega
 ·have hbig':(100000:Int)<(L:Int):=by omega
  go_enter Tryz.func76,Tryz.ntmps76;go_wp2;refine bE ?_;exact⟨_,rfl,⟨c0,f0,lt0,le0,bs,HB.out,HI.out.stop _ (by rw[HLL.out];omega),by rw[HLL.out];exact hl⟩,WExt.refl _ _ _⟩
theorem text_any(s:ByteArray)(P B:Nat)(v:Value)(full:List Nat)(w:World)(hs:s.size<=16)(hv:full≠[])(hW:WS w P B v full):
 Calls Tryz.prog 39 #[.pointer (some ⟨P,0,none⟩),.string s] w λe w'=>WRes P B w v (full++tb s) e w':=by
 obtain⟨i,hi,hii⟩:=Option.map_eq_some_iff.1 Tryz.u8Info;simp only[Prod.mk.injEq]at hii;obtain⟨hz0,hz1,hz2⟩:=hii;obtain⟨c0,f0,lt0,le0,bs,hB,hI,hl⟩:=hW;have hbp:0<bs.length:=by
  rcases hI with rfl|h
  ·exact List.length_pos_iff.2 hv
  ·omega
 obtain⟨g,c,rfl,hg1,-⟩:=World.ownsRow.form hB hbp;have hB':Buf w B (.slice (some ⟨g,0,none⟩) bs.length c) bs:=hB;have HI:=hid hI;have HTS:=hid (u8s_tb s);have HTL:=hid (tb_len s);clear hB hI;generalize hLL:bs.length=L at*;have HLL:=hid hLL;have HB:=hid hB';clear hB' hLL hv;by_cases hbig:L<=100000
 ·have hbig':¬(100000:Int)<(L:Int):=by omega
  go_enter Tryz.func39,Tryz.ntmps39;go_wp2_with (first
   |(at_builtin;refine wpList_str_lies _ rfl (.tmp 14) (.tmp 15) 40 9 rfl B 5 i Tryz.underlying40 Tryz.underlying9 hi hz0 hz1 hz2 g L c (u8s bs) rfl (by have h:=HB.out;unfold Buf at h;rw[HLL.out]at h;exact h) s rfl (by omega) (by omega) (by omega) ?_;intro g2 k2 w2 hown hgrow hat;have hst:=wstep (M:=tb s) c0 f0 lt0 (Below.refl _ _) HB.out (by rw[HTS.out];exact hown) (by rw[HLL.out,HTL.out]) hgrow (by rcases hat with rfl|rfl;exact Or.inl rfl;exact Or.inr rfl);obtain⟨⟨d1,e1⟩,⟨d2,e2⟩,hB2,hE2⟩:=hst;have HB2:=hid hB2;have HE2:=hid hE2;clear hB2 hE2 hown hgrow hat c0 f0))
  refine bE ?_;refine⟨_,rfl,⟨d2,e2,lt0,by have:=HE2.out.size;omega,bs++tb s,HB2.out,HI.out.more _ (by rw[HLL.out];exact hbig),by rw[List.length_append,HLL.out,HTL.out];omega⟩,HE2.out⟩
 ·have hbig':(100000:Int)<(L:Int):=by omega
  go_enter Tryz.func39,Tryz.ntmps39;go_wp2;refine bE ?_;exact⟨_,rfl,⟨c0,f0,lt0,le0,bs,HB.out,HI.out.stop _ (by rw[HLL.out];omega),by rw[HLL.out];exact hl⟩,WExt.refl _ _ _⟩
end Go.Proofs.YtcpcplaeaimmpaaGreatDoor
