import Derived.Test.YtblobglfjhilmaaGreatDoorJ7J
import Derived.Test.YtblobglfjhilmaaGreatDoorRd8J
set_option maxRecDepth 100000
set_option maxHeartbeats 8000000
namespace Go.Proofs.YtblobglfjhilmaaGreatDoor
open Go.RowKit Go.Sort
def bodyOf(s:ByteArray):ByteArray:=s.extract 0 (s.size-4)
def sumAt(s:ByteArray)(k:Nat):Prop:=(s.data.toList.getD (s.size-4+k) 0).toNat=crc (bodyOf s).data.toList / 256 ^ k % 256
def sumIs(s:ByteArray):Prop:=∀k,k<4->sumAt s k
open Classical in
noncomputable def docD(s:ByteArray):Except (Int×Int×Int) LObj:=
 if 100000<s.size then .error (1,0,0)
 else if s.size<8 then .error (6,0,s.size)
 else if ¬sumIs s then .error (7,0,(s.size-4:Nat))
 else match rdObj (bodyOf s) with
  |.error (c,a)=>.error (c,0,a)
  |.ok (O,_)=>match sBad (O.imps.length+O.globs.length) O.globs 0 with
   |some (e,k,i)=>.error (12+e,k,i)
   |none=>.ok O
theorem docD_long{s:ByteArray}(h:100000<s.size):docD s=.error (1,0,0):=by unfold docD;rw[if_pos h]
theorem docD_short{s:ByteArray}(h:¬100000<s.size)(h2:s.size<8):docD s=.error (6,0,s.size):=by unfold docD;rw[if_neg h,if_pos h2]
theorem docD_sum{s:ByteArray}(h:¬100000<s.size)(h2:¬s.size<8)(h3:¬sumIs s):docD s=.error (7,0,(s.size-4:Nat)):=by unfold docD;rw[if_neg h,if_neg h2,if_pos h3]
theorem docD_err{s:ByteArray}(h:¬100000<s.size)(h2:¬s.size<8)(h3:sumIs s){c a:Nat}(h4:rdObj (bodyOf s)=.error (c,a)):docD s=.error (c,0,a):=by unfold docD;rw[if_neg h,if_neg h2,if_neg (λh'=>h' h3),h4]
theorem docD_bad{s:ByteArray}(h:¬100000<s.size)(h2:¬s.size<8)(h3:sumIs s){O:LObj}{q:Nat}(h4:rdObj (bodyOf s)=.ok (O,q)){e k i:Nat}(h5:sBad (O.imps.length+O.globs.length) O.globs 0=some (e,k,i)):docD s=.error (12+e,k,i):=by unfold docD;rw[if_neg h,if_neg h2,if_neg (λh'=>h' h3),h4];show(match sBad _ _ _ with|some (e,k,i)=>_|none=>_)=_;rw[h5]
theorem docD_ok{s:ByteArray}(h:¬100000<s.size)(h2:¬s.size<8)(h3:sumIs s){O:LObj}{q:Nat}(h4:rdObj (bodyOf s)=.ok (O,q))(h5:sBad (O.imps.length+O.globs.length) O.globs 0=none):docD s=.ok O:=by unfold docD;rw[if_neg h,if_neg h2,if_neg (λh'=>h' h3),h4];show(match sBad _ _ _ with|some (e,k,i)=>_|none=>_)=_;rw[h5]
structure ObjFine (n:Nat) (O:LObj):Prop where
 nm:O.name.size<=16
 im:O.imps.length<=n
 imn:∀x∈O.imps,x.name.size<=16
 gl:O.globs.length<=n
 gf:∀g∈O.globs,GlobFine g
theorem rdMark_ok{s:ByteArray}:∀(n k:Nat) {u:Unit} {q:Nat},rdMark s n k=.ok (u,q)->q=k+n
 |0,k,u,q,h=>by simp only[rdMark,Except.ok.injEq,Prod.mk.injEq]at h;omega
 |n+1,k,u,q,h=>by
  rw[rdMark]at h;split at h
  ·have:=rdMark_ok n (k+1) h;omega
  ·cases h
theorem rdObj_ok{s:ByteArray}{O:LObj}{q:Nat}(h:rdObj s=.ok (O,q)):ObjFine s.size O∧q=s.size:=by
 obtain⟨u,p1,h1,h⟩:=bd_ok_inv h;obtain⟨nm,p2,h2,h⟩:=bd_ok_inv h;obtain⟨n,p3,h3,h⟩:=bd_ok_inv h;obtain⟨is,p4,h4,h⟩:=bd_ok_inv h;obtain⟨m,p5,h5,h⟩:=bd_ok_inv h;obtain⟨gs,p6,h6,h⟩:=bd_ok_inv h;have k1:=rdMark_ok _ _ h1;have k2:=rdName_ok h2;have k3:=rdV_ok h3;obtain⟨a1,a2,a3,a4,-⟩:=rdImps_ok _ _ _ _ _ _ h4 (by omega);have k5:=rdV_ok h5;obtain⟨b1,b2,b3,b4⟩:=rdGlobs_ok _ _ _ _ _ _ h6 (by omega);simp only[List.length_nil,Nat.zero_add]at a3 b3;split at h
 ·cases h
 ·cases h;exact⟨⟨k2.2.2.2.1,by show is.length<=_;omega,a4 (λx hx=>by cases hx),by show gs.length<=_;omega,b4 (λx hx=>by cases hx)⟩,by omega⟩
theorem rdObj_err{s:ByteArray}{c a:Nat}(h:rdObj s=.error (c,a)):CE c:=by
 have hm:∀n k,rdMark s n k=.error (c,a)->CE c:=by
  intro n;induction n with
  |zero=>intro k h;cases h
  |succ n ih=>
   intro k h;rw[rdMark]at h;split at h
   ·exact ih _ h
   ·cases h;unfold CE;omega
 rcases bd_err_inv h with h|⟨_,p1,-,h⟩
 ·exact hm _ _ h
 rcases bd_err_inv h with h|⟨_,p1,-,h⟩
 ·exact rdName_err h
 rcases bd_err_inv h with h|⟨_,p1,-,h⟩
 ·have:=rdV_err h;unfold CE;omega
 rcases bd_err_inv h with h|⟨_,p1,-,h⟩
 ·exact rdImps_err _ _ _ _ _ _ h
 rcases bd_err_inv h with h|⟨_,p1,-,h⟩
 ·have:=rdV_err h;unfold CE;omega
 rcases bd_err_inv h with h|⟨_,p1,-,h⟩
 ·exact rdGlobs_err _ _ _ _ _ _ h
 split at h
 ·cases h;unfold CE;omega
 ·cases h
theorem ObjFine.good{n:Nat}{O:LObj}(h:ObjFine n O):GoodGs O.globs:=by
 intro k hk;obtain⟨h1,h2,h3,h4,h5⟩:=h.gf _ (List.getElem_mem hk);refine⟨?_,h2,h3⟩;unfold codeG;rw[Bool.and_eq_true];exact⟨decide_eq_true h4,List.all_eq_true.2 λx hx=>(h5 x hx).1⟩
theorem ObjFine.imps{n:Nat}{O:LObj}(h:ObjFine n O)(hn:n<=100000){w:World}{lo:Nat}{iv:Value}(hI:ImpsO w lo iv O.imps):ImpsAt w iv O.imps:=hI.at (by have h1:=h.im;show _<_;omega) (λx hx=>by have:=h.imn x hx;unfold maxLen;omega)
theorem ObjFine.globs{n:Nat}{O:LObj}(h:ObjFine n O)(hn:n<=100000){w:World}{lo':Nat}{gv:Value}{G:GlobL}(hG:GlobsO w lo' gv G)(he:G.map (·.1)=O.globs):GlobsAt w gv O.globs:=by
 have hl:G.length=O.globs.length:=by rw[<-he,List.length_map]
 have h2:=h.gl;rw[<-he];refine hG.at (by show _<_;omega) λx hx=>?_;have hx1:x.1∈O.globs:=by rw[<-he];exact List.mem_map_of_mem hx
 obtain⟨k1,k2,k3,k4,k5⟩:=h.gf _ hx1;have hc:=(hG.it x hx).2;have hcl:x.2.2.length=x.1.code.length:=by rw[<-hc,List.length_map]
 refine⟨by show _<_;omega,by unfold maxLen;omega,λy hy=>?_⟩;have hy1:y.1∈x.1.code:=by rw[<-hc];exact List.mem_map_of_mem hy
 have:=(k5 _ hy1).2;show _<_;omega
theorem ObjFine.at{n:Nat}{O:LObj}(h:ObjFine n O)(hn:n<=100000){w:World}{lo lo':Nat}{iv gv:Value}{G:GlobL}(hI:ImpsO w lo iv O.imps)(hG:GlobsO w lo' gv G)(he:G.map (·.1)=O.globs):ObjAt w (.agg #[.string O.name,iv,gv]) O:=by
 exact⟨iv,gv,rfl,by have:=h.nm;unfold maxLen;omega,h.imps hn hI,h.globs hn hG he⟩
end Go.Proofs.YtblobglfjhilmaaGreatDoor
namespace Go.Proofs.YtblobglfjhilmaaGreatDoor
open Go.RowKit
theorem toU8_tb(s:ByteArray):toU8 (tb s)=s.data.toList:=by
 unfold toU8 tb;rw[List.map_map];conv=>rhs;rw[<-List.map_id s.data.toList]
 exact List.map_congr_left λb _=>by simp
theorem tb_toBA{l:List Nat}(h:∀b∈l,b<256):tb (toBA l)=l:=by
 unfold tb;rw[toBA_list,toU8,List.map_map];conv=>rhs;rw[<-List.map_id l]
 exact List.map_congr_left λb hb=>by
  have:=h b hb;simp;omega
theorem tb_body(s:ByteArray):tb (bodyOf s)=(tb s).take (s.size-4):=by
 unfold bodyOf;rw[tb_ext,List.drop_zero,Nat.sub_zero]
theorem last4(L:List Nat)(n:Nat)(h:L.length=n+4):L.drop n=[L.getD n 0,L.getD (n+1) 0,L.getD (n+2) 0,L.getD (n+3) 0]:=by
 have hg:∀k,L.getD (n+k) 0=(L.drop n).getD k 0:=λk=>by simp only[List.getD_eq_getElem?_getD,List.getElem?_drop]
 have h0:=hg 0;rw[Nat.add_zero]at h0;rw[h0,hg 1,hg 2,hg 3];have hl:(L.drop n).length=4:=by rw[List.length_drop];omega
 match L.drop n,hl with
 |[a,b,c,d],_=>rfl
theorem sum_file{s:ByteArray}(h4:4<=s.size):sumIs s↔tb s=tb (bodyOf s)++sumB (tb (bodyOf s)):=by
 have hl:(tb s).length=(s.size-4)+4:=by rw[tb_len];omega
 have hsp:tb s=tb (bodyOf s)++(tb s).drop (s.size-4):=by rw[tb_body,List.take_append_drop]
 have hd:=last4 (tb s) (s.size-4) hl;have hc:crc (toU8 (tb (bodyOf s)))=crc (bodyOf s).data.toList:=by rw[toU8_tb]
 have hk:∀k,sumAt s k↔(tb s).getD (s.size-4+k) 0=crc (bodyOf s).data.toList / 256 ^ k % 256:=λk=>by unfold sumAt;rw[getD_tb]
 have hB:sumB (tb (bodyOf s))=[crc (bodyOf s).data.toList % 256,crc (bodyOf s).data.toList / 256 % 256,crc (bodyOf s).data.toList / 65536 % 256,crc (bodyOf s).data.toList / 16777216 % 256]:=by unfold sumB;rw[hc]
 generalize crc (bodyOf s).data.toList=C at*;constructor
 ·intro h;have k0:=(hk 0).1 (h 0 (by omega));have k1:=(hk 1).1 (h 1 (by omega));have k2:=(hk 2).1 (h 2 (by omega));have k3:=(hk 3).1 (h 3 (by omega));rw[Nat.add_zero,Nat.pow_zero,Nat.div_one]at k0;rw[k0,k1,k2,k3]at hd;rw[hB];exact hsp.trans (by rw[hd])
 ·intro h k hk4;rw[hk];have he:(tb s).drop (s.size-4)=sumB (tb (bodyOf s)):=List.append_cancel_left (hsp.symm.trans h);rw[hd,hB]at he;simp only[List.cons.injEq,and_true]at he;rcases(show k=0∨k=1∨k=2∨k=3 by omega) with rfl|rfl|rfl|rfl
  ·rw[Nat.add_zero,Nat.pow_zero,Nat.div_one];exact he.1
  ·exact he.2.1
  ·exact he.2.2.1
  ·exact he.2.2.2
theorem ig_of{O:LObj}(hV:valsG O=true)(hR:RangeO O):∀g∈O.globs,∀x∈g.code,IG x:=λg hg x hx=>⟨((GoodO.of hV).globs g hg).2.2.2 x hx,hR g hg x hx⟩
theorem hb4(O:LObj):4<=(hb O).length:=by rw[hb_split,List.length_append];simp only[List.length_cons,List.length_nil];omega
theorem hb_small{O:LObj}(hL:(hb O).length+4<=100000):O.imps.length<140737488355328∧O.globs.length<140737488355328:=by
 have h1:∀l:List LImp,l.length<=(l.flatMap ib).length:=λl=>by
  induction l with
  |nil=>simp
  |cons a r ih=>
   rw[List.flatMap_cons,List.length_append,List.length_cons];have:=vb_pos a.arity.toNat;have hi:(ib a).length=(nb a.name).length+(vb a.arity.toNat).length:=by unfold ib;rw[List.length_append]
   omega
 have h2:∀l:List LGlob,l.length<=(l.flatMap gb).length:=λl=>by
  induction l with
  |nil=>simp
  |cons a r ih=>
   rw[List.flatMap_cons,List.length_append,List.length_cons];have:=vb_pos a.arity.toNat;have hi:(vb a.arity.toNat).length<=(gb a).length:=by rw[gb_eqR,List.length_append];unfold gt';rw[List.length_append];omega
   omega
 have m1:=h1 O.imps;have m2:=h2 O.globs;rw[hb_split]at hL;simp only[List.length_append]at hL;omega
def fileOf(O:LObj):ByteArray:=toBA (hb O++sumB (hb O))
theorem sumB_len(l:List Nat):(sumB l).length=4:=rfl
theorem file_size(O:LObj):(fileOf O).size=(hb O).length+4:=by unfold fileOf;rw[toBA_size,List.length_append,sumB_len]
theorem file_tb{O:LObj}(hV:valsG O=true)(hR:RangeO O)(hL:(hb O).length+4<=100000):tb (fileOf O)=hb O++sumB (hb O):=by
 have hs:=hb_small hL;refine tb_toBA λb hb'=>?_;rcases List.mem_append.1 hb' with h|h
 ·exact hb_lt O (GoodO.of hV) hR hs.1 hs.2 b h
 ·unfold sumB at h;simp only[List.mem_cons,List.not_mem_nil,or_false]at h;rcases h with rfl|rfl|rfl|rfl<;>exact Nat.mod_lt _ (by omega)
theorem enc_dec{O:LObj}(hV:valsG O=true)(hR:RangeO O)(hL:(hb O).length+4<=100000):docD (fileOf O)=match sBad (O.imps.length+O.globs.length) O.globs 0 with|some (e,k,i)=>.error ((12+e:Nat),(k:Int),(i:Int))|none=>.ok O:=by
 have hz:=file_size O;have h4:=hb4 O;have ht:=file_tb hV hR hL;have hb':tb (bodyOf (fileOf O))=hb O:=by rw[tb_body,ht,hz,Nat.add_sub_cancel,List.take_left]
 have hs:sumIs (fileOf O):=(sum_file (by omega)).2 (by rw[hb',ht]);have hsz:(bodyOf (fileOf O)).size=(hb O).length:=by rw[<-tb_len,hb']
 have hr:=(rdObj_iff (s:=bodyOf (fileOf O)) (O:=O) (q:=(bodyOf (fileOf O)).size) (by omega)).2 ⟨⟨hV,ig_of hV hR⟩,hb',rfl⟩;match h5:sBad (O.imps.length+O.globs.length) O.globs 0 with
 |some (e,k,i)=>rw[docD_bad (by omega) (by omega) hs hr h5];rfl
 |none=>rw[docD_ok (by omega) (by omega) hs hr h5]
end Go.Proofs.YtblobglfjhilmaaGreatDoor
namespace Go.Proofs.YtblobglfjhilmaaGreatDoor
open Go.RowKit Go.Sort
def objZ:Value:=.agg #[.string ⟨#[]⟩,.slice none 0 0,.slice none 0 0]
def fin5(w:World)(R P:Nat)(x y z a b:Value):World:=((((w.setCell ⟨R,0,none⟩ x).setCell ⟨R,1,none⟩ y).setCell ⟨R,2,none⟩ z).setCell ⟨P,0,none⟩ a).setCell ⟨P,1,none⟩ b
theorem fin5_cells{w:World}{R P:Nat}{x0 y0 z0 a0 b0:Value}(hr:Bx3 w R x0 y0 z0)(hp:Bx2 w P a0 b0)(hne:R≠P)(x y z a b:Value):(fin5 w R P x y z a b).cell? ⟨R,0,none⟩=some x∧(fin5 w R P x y z a b).cell? ⟨R,1,none⟩=some y∧(fin5 w R P x y z a b).cell? ⟨R,2,none⟩=some z∧(fin5 w R P x y z a b).cell? ⟨P,0,none⟩=some a∧(fin5 w R P x y z a b).cell? ⟨P,1,none⟩=some b:=by
 have h1:=hr.put x y z;have ho:Off [R] w (((w.setCell ⟨R,0,none⟩ x).setCell ⟨R,1,none⟩ y).setCell ⟨R,2,none⟩ z):=(((Off.refl _ _).set (Or.inl (by simp)) _).set (Or.inl (by simp)) _).set (Or.inl (by simp)) _;have h2:=hp.off ho (by simp;exact λe=>hne e.symm);have ho2:Off [P] (((w.setCell ⟨R,0,none⟩ x).setCell ⟨R,1,none⟩ y).setCell ⟨R,2,none⟩ z) (fin5 w R P x y z a b):=((Off.refl _ _).set (Or.inl (by simp)) _).set (Or.inl (by simp)) _;have h3:=h1.off ho2 (by simpa using hne);have h4:Bx2 ((((w.setCell ⟨R,0,none⟩ x).setCell ⟨R,1,none⟩ y).setCell ⟨R,2,none⟩ z).setCell ⟨P,0,none⟩ a) P a b0:=⟨World.cell?_setCell_same _ _ _ h2.c0,by rw[World.cell?_setCell_other _ _ _ _ (off_ne (by omega))];exact h2.c1,by rw[World.frozen?_setCell];exact h2.f0,by rw[World.frozen?_setCell];exact h2.f1⟩;have h5:=h4.set1 b;exact⟨h3.c0,h3.c1,h3.c2,h5.c0,h5.c1⟩
theorem fin5_below{W w:World}{R P:Nat}(h:Below W.heap.size W w)(hR:W.heap.size<=R)(hP:W.heap.size<=P)(x y z a b:Value):Below W.heap.size W (fin5 w R P x y z a b):=((((h.setCell hR _).setCell hR _).setCell hR _).setCell hP _).setCell hP _
theorem RS.pos{w:World}{E:Nat}{s:ByteArray}{p:Nat}(h:RS w E s p):(intOf ((w.cell? ⟨E,1,none⟩).getD (.int .i64 0))).toNat=p:=by rw[h.c1];simp[intOf]
structure MkSt (W:World) (E:Nat) (adr:Nat->Addr) (s:ByteArray) (r:Rd Unit) (w:World) (e:Ending) (w':World):Prop where
 ok:∀u q,r=.ok (u,q)->e=.returned .nilIface∧RS w' E s q
 err:∀c a,r=.error (c,a)->e=.returned (.iface 114 (.agg #[.iface 442 (.pointer (some (adr (eIx c)))),.int .i64 0,.int .i64 (a:Int)]))
 ef:EF E w w'
 ba:Ba W w' E adr
theorem rdMark_any{W w:World}{E:Nat}{adr:Nat->Addr}{s:ByteArray}(h4:4<=s.size)(hB:Ba W w E adr)(h:RS w E s 0):
 Calls Tryz.prog 96 #[.pointer (some ⟨E,0,none⟩)] w λe w'=>MkSt W E adr s (rdMark s 4 0) w e w':=by
 have HS:=hid h;have HB:=hid hB;clear h hB;go_enter Tryz.func96,Tryz.ntmps96;go_wp2;go_loopw [] (λwr=>∃k:Nat,k<=4∧Hid (rdMark s 4 0=rdMark s (4-k) k)∧Hid (RS wr E s k)∧Hid (EF E w wr)) (λwr=>4-(intOf ((wr.cell? ⟨E,1,none⟩).getD (.int .i64 0))).toNat)
 case atStart=>exact⟨0,Nat.zero_le _,rfl,HS.out,EF.refl _ _⟩
 case round=>
  obtain⟨k,hk,HM,HK,HE⟩:=hrel;rename World=>wr
  obtain⟨d0,d1,g1⟩:=id HK.out;have HBr:=hid (HB.out.ef HE.out);by_cases hlt:k<4
  ·have hk0:(0:Int)<=(k:Int):=by omega
   have hk1:(k:Int)<(s.size:Int):=by omega
   have hk4:(k:Int)<4:=by omega
   have HAT:Hid (∀w',RS w' E s k->RS (w'.setCell ⟨E,1,none⟩ (.int .i64 ((k:Int)+1))) E s (k+1)):=by
    intro w' h;have:=h.at (k+1);rwa[show(((k+1:Nat)):Int)=(k:Int)+1 by omega]at this
   have HMK:Hid (rdMark s (4-k) k=if s[k].toNat=(⟨#[84,65,82,78]⟩:ByteArray)[k].toNat then rdMark s (4-(k+1)) (k+1) else .error (8,k)):=mark_step s k hlt (by omega);have x8:=HBr.out.form;go_wp2;go_quiet (fail);generalize s[k].toNat=x at*;generalize (⟨#[84,65,82,78]⟩:ByteArray)[k].toNat=y at*;by_cases hxy:x=y
   ·subst hxy;have hb:((x:Int) !=(x:Int))=false:=by simp
    go_wp2;have HN:=hid (HAT.out _ (HK.out.keep (below_drewN (Below.refl _ _) nq)));refine⟨⟨k+1,by omega,?_,HN.out,(HE.out.trans (EF.of_below (below_drewN (Below.refl _ _) _))).set _⟩,?_⟩
    ·show _=_;rw[HM.out,HMK.out,if_pos rfl]
    ·rw[HN.out.pos,HK.out.pos];omega
   ·have hb:((x:Int) !=(y:Int))=true:=by simp;omega
    have HRE:Hid (rdMark s 4 0=.error (8,k)):=by show _=_;rw[HM.out,HMK.out,if_neg hxy]
    have HQ:=hid (below_drewN (Below.refl wr.heap.size wr) nq);have HKQ:=hid (HK.out.keep HQ.out);have HBQ:=hid (HBr.out.keep HQ.out);have HEQ:=hid (HE.out.trans (EF.of_below HQ.out));clear HQ HK HBr HE d0 d1 g1 x8;go_wp2;generalize wr.drewN nq=wq at*;obtain⟨d0,d1,g1⟩:=id HKQ.out;have x8:=HBQ.out.form;go_quiet ((go_at_call 32;refine Calls.quiet_of_same (fAt_any _ _ _ _)));go_wp2;go_ret;refine⟨(λu q h=>by rw[HRE.out]at h;cases h),(λc a h=>by rw[HRE.out]at h;cases h;rfl),?_,?_⟩
    ·exact HEQ.out.trans (EF.of_below (below_drewN (Below.refl _ _) _))
    ·exact HBQ.out.keep (below_drewN (Below.refl _ _) _)
  ·obtain rfl:k=4:=by omega
   have HRO:Hid (rdMark s 4 0=.ok ((),4)):=HM.out;go_wp2;go_ret;exact⟨(λu q h=>by rw[HRO.out]at h;cases h;exact⟨rfl,HK.out⟩),(λc a h=>by rw[HRO.out]at h;cases h),HE.out,HBr.out⟩
theorem rdObj_n(s:ByteArray):rdObj s=bd (rdMark s 4 0) λ_ p=>bd (rdName s p) λnm p=>bd (rdImpsN s p) λis p=>bd (rdGlobsN s is p) λgs p=>if p<s.size then .error (11,p) else .ok (⟨nm,is,gs⟩,p):=by
 rw[rdObj];match rdMark s 4 0 with
 |.error e=>rfl
 |.ok (u,p1)=>
  show bd (rdName s p1) _=bd (rdName s p1) _;match rdName s p1 with
  |.error e=>rfl
  |.ok (nm,p2)=>
   show bd (rdV s p2) _=bd (rdImpsN s p2) _;rw[rdImpsN];match rdV s p2 with
   |.error e=>rfl
   |.ok (n,p3)=>
    show bd (rdImps s n [] ⟨#[]⟩ p3) _=bd (rdImps s n [] ⟨#[]⟩ p3) _;match rdImps s n [] ⟨#[]⟩ p3 with
    |.error e=>rfl
    |.ok (is,p4)=>
     show bd (rdV s p4) _=bd (rdGlobsN s is p4) _;rw[rdGlobsN];match rdV s p4 with
     |.error e=>rfl
     |.ok (m,p5)=>rfl
structure ObjO (w:World) (lo:Nat) (v:Value) (x:LObj):Prop where
 own:∃(ip:Option Addr) (il ic:Nat) (gp:Option Addr) (gl gc mid:Nat) (G:GlobL),v=.agg #[.string x.name,.slice ip il ic,.slice gp gl gc]∧ImpsO w lo (.slice ip il ic) x.imps∧(∀b∈rowB (noB (α:=LImp)) (.slice ip il ic) x.imps,b<mid)∧lo<=mid∧GlobsO w mid (.slice gp gl gc) G∧G.map (·.1)=x.globs
theorem ObjO.off{w w':World}{lo:Nat}{v:Value}{x:LObj}(h:ObjO w lo v x){bs:List Nat}(ho:Off bs w w')(hn:∀b∈bs,b<lo∨w.heap.size<=b):ObjO w' lo v x:=by
 obtain⟨ip,il,ic,gp,gl,gc,mid,G,hv,hI,hm,hl,hG,he⟩:=h.own;refine⟨ip,il,ic,gp,gl,gc,mid,G,hv,hI.off okImp ho (λb hb=>(hn b hb).elim Or.inl λh=>Or.inr (Or.inl h)),hm,hl,hG.off okGlob ho (λb hb=>(hn b hb).elim (λh=>Or.inl (by omega)) λh=>Or.inr (Or.inl h)),he⟩
theorem ObjO.low{w:World}{lo lo':Nat}{v:Value}{x:LObj}(h:ObjO w lo v x)(hl:lo'<=lo):ObjO w lo' v x:=by
 obtain⟨ip,il,ic,gp,gl,gc,mid,G,hv,hI,hm,hl',hG,he⟩:=h.own;exact⟨ip,il,ic,gp,gl,gc,mid,G,hv,hI.low hl,hm,by omega,hG,he⟩
theorem ObjO.at{w:World}{lo n:Nat}{v:Value}{x:LObj}(h:ObjO w lo v x)(hf:ObjFine n x)(hn:n<=100000):ObjAt w v x:=by
 obtain⟨ip,il,ic,gp,gl,gc,mid,G,rfl,hI,hm,hl',hG,he⟩:=h.own;exact hf.at hn hI hG he
def objV(lo:Nat):World->LObj->Value->Prop:=λw x v=>ObjO w lo v x
theorem rdImpsN_ok{s:ByteArray}{p q:Nat}{l:List LImp}(h:rdImpsN s p=.ok (l,q)):p<q∧q<=s.size∧l.length<=s.size∧(∀x∈l,x.name.size<=16)∧Rising l:=by
 obtain⟨n,r,h1,h2⟩:=bd_ok_inv h;have k1:=rdV_ok h1;obtain⟨a,b,c,d,e⟩:=rdImps_ok _ _ _ _ _ _ h2 (by omega);simp only[List.length_nil,Nat.zero_add]at c;exact⟨by omega,b,by omega,d (λx hx=>by cases hx),e (RI.nil _)⟩
theorem rdGlobsN_ok{s:ByteArray}{imps:List LImp}{p q:Nat}{l:List LGlob}(h:rdGlobsN s imps p=.ok (l,q)):q<=s.size:=by
 obtain⟨n,r,h1,h2⟩:=bd_ok_inv h;have k1:=rdV_ok h1;exact(rdGlobs_ok _ _ _ _ _ _ h2 (by omega)).2.1
theorem rObjBad{W w wX wF:World}{E:Nat}{adr:Nat->Addr}{s:ByteArray}{c a:Nat}(hB:Ba W w E adr)(hr:rdObj s=.error (c,a))(hO:Off [E] w wX)(hF:Below (((wX.setCell ⟨w.heap.size,0,none⟩ (.string ⟨#[]⟩)).setCell ⟨w.heap.size,1,none⟩ (.slice none 0 0)).setCell ⟨w.heap.size,2,none⟩ (.slice none 0 0)).heap.size (((wX.setCell ⟨w.heap.size,0,none⟩ (.string ⟨#[]⟩)).setCell ⟨w.heap.size,1,none⟩ (.slice none 0 0)).setCell ⟨w.heap.size,2,none⟩ (.slice none 0 0)) wF):
 ReadSt W E adr s (rdObj s) (objV w.heap.size) (λv=>v=objZ) w (.returned (.tuple #[.agg #[.string ⟨#[]⟩,.slice none 0 0,.slice none 0 0],.iface 114 (.agg #[.iface 442 (.pointer (some (adr (eIx c)))),.int .i64 0,.int .i64 (a:Int)])])) wF:=by
 refine ReadSt.bad hr rfl ?_ hB;exact((((hO.set (Or.inr (Nat.le_refl _)) _).set (Or.inr (Nat.le_refl _)) _).set (Or.inr (Nat.le_refl _)) _).trans (Off.of_below hF)).ef (by simp)
theorem obj2(w:World):Below w.heap.size w ((w.alloc (Obj.cells #[.string ⟨#[]⟩,.slice none 0 0,.slice none 0 0] 39)).alloc (Obj.cells #[.string ⟨#[]⟩,.slice none 0 0,.slice none 0 0] 39))∧
 Bx3 ((w.alloc (Obj.cells #[.string ⟨#[]⟩,.slice none 0 0,.slice none 0 0] 39)).alloc (Obj.cells #[.string ⟨#[]⟩,.slice none 0 0,.slice none 0 0] 39)) w.heap.size (.string ⟨#[]⟩) (.slice none 0 0) (.slice none 0 0)∧
 Bx3 ((w.alloc (Obj.cells #[.string ⟨#[]⟩,.slice none 0 0,.slice none 0 0] 39)).alloc (Obj.cells #[.string ⟨#[]⟩,.slice none 0 0,.slice none 0 0] 39)) (w.heap.size+1) (.string ⟨#[]⟩) (.slice none 0 0) (.slice none 0 0):=by
 refine⟨((Below.refl _ _).alloc (Nat.le_refl _) _).alloc (by simp) _,(Bx3.new w _ _ _ _).keep ((Below.refl _ _).alloc (Nat.le_refl _) _),?_⟩;have h:=Bx3.new (w.alloc (Obj.cells #[.string ⟨#[]⟩,.slice none 0 0,.slice none 0 0] 39)) (.string ⟨#[]⟩) (.slice none 0 0) (.slice none 0 0) 39;rw[show(w.alloc (Obj.cells #[.string ⟨#[]⟩,.slice none 0 0,.slice none 0 0] 39)).heap.size=w.heap.size+1 by simp]at h;exact h
theorem rdObj_any{W w:World}{E:Nat}{adr:Nat->Addr}{s:ByteArray}(h4:4<=s.size)(hs:s.size<=100000)(hB:Ba W w E adr)(h:RS w E s 0):
 Calls Tryz.prog 47 #[.pointer (some ⟨E,0,none⟩)] w λe w'=>ReadSt W E adr s (rdObj s) (objV w.heap.size) (λv=>v=objZ) w e w':=by
 have hE:E<w.heap.size:=h.lt;have HB:=hid hB;obtain⟨hbl,hr0,ho0⟩:=obj2 w;have HX1:=hid (rdMark_any h4 (hB.keep hbl) (h.keep hbl));have HR0:=hid hr0;have HO0:=hid ho0;have HF0:=hid (Off.of_below (bs:=[E]) hbl);have HN0:=hid (rdObj_n s);clear h hB hbl hr0 ho0;match hv1:rdMark s 4 0 with
 |.error (c,a)=>
  have HRE:Hid (rdObj s=.error (c,a)):=by show _=_;rw[HN0.out,bd_err hv1]
  have HV1:=hid hv1;clear hv1;go_enter Tryz.func47,Tryz.ntmps47;go_wp2_with (first
   |(go_at_call 96;refine HX1.out.mono ?_;rintro e w1 hr;obtain rfl:=hr.err _ _ HV1.out;have hE1:=hr.ef;have HR1:=hid (HR0.out.ef hE1 (by omega));have HO1:=hid (HO0.out.ef hE1 (by omega));have HF1:=hid (HF0.out.trans (Off.of_ef hE1 (by simp)));obtain⟨r0,r1,r2,k0,k1,k2⟩:=id HR1.out;obtain⟨o0,o1,o2,l0,l1,l2⟩:=id HO1.out;have hw1:w.heap.size<w1.heap.size:=HR1.out.lt;have hwo1:w.heap.size+1<w1.heap.size:=HO1.out.lt;clear hr hE1 HX1))
  obtain⟨s0,s1,s2,-,-,-⟩:=HR1.out.put (.string ⟨#[]⟩) (.slice none 0 0) (.slice none 0 0);refine bodyPost_ret (v:=.tuple #[.agg #[.string ⟨#[]⟩,.slice none 0 0,.slice none 0 0],.iface 114 (.agg #[.iface 442 (.pointer (some (adr (eIx c)))),.int .i64 0,.int .i64 (a:Int)])]) (by simp[results,Tryz.results47,go_sem,s0,s1,s2]) rfl ?_;exact rObjBad HB.out HRE.out HF1.out (Below.refl _ _)
 |.ok (u,p1)=>
  have hp1:p1<=s.size:=by have:=rdMark_ok _ _ hv1;omega
  have HN1:Hid (rdObj s=bd (rdName s p1) λnm p=>bd (rdImpsN s p) λis p=>bd (rdGlobsN s is p) λgs p=>if p<s.size then .error (11,p) else .ok (⟨nm,is,gs⟩,p)):=by show _=_;rw[HN0.out,bd_ok hv1]
  have HV1:=hid hv1;clear hv1 HN0;match hv2:rdName s p1 with
  |.error (c,a)=>
   have HRE:Hid (rdObj s=.error (c,a)):=by show _=_;rw[HN1.out,bd_err hv2]
   have HV2:=hid hv2;clear hv2;go_enter Tryz.func47,Tryz.ntmps47;go_wp2_with (first
    |(go_at_call 96;refine HX1.out.mono ?_;rintro e w1 hr;obtain⟨rfl,hS1⟩:=hr.ok _ _ HV1.out;have hE1:=hr.ef;have hB1:=hr.ba;have HR1:=hid (HR0.out.ef hE1 (by omega));have HO1:=hid (HO0.out.ef hE1 (by omega));have HF1:=hid (HF0.out.trans (Off.of_ef hE1 (by simp)));have HX2:=hid (rdName_any hs hB1 hS1 hp1);clear hr hE1 hB1 hS1 HX1)
    |(go_at_call 97;refine HX2.out.mono ?_;rintro e w2 hr;obtain⟨v,rfl,rfl,hE2,hB2⟩:=hr.isErr HV2.out;have HR2:=hid (HR1.out.ef hE2 (by omega));have HO2:=hid (HO1.out.ef hE2 (by omega));have HF2:=hid (HF1.out.trans (Off.of_ef hE2 (by simp)));obtain⟨r0,r1,r2,k0,k1,k2⟩:=id HR2.out;obtain⟨o0,o1,o2,l0,l1,l2⟩:=id HO2.out;have hw2:w.heap.size<w2.heap.size:=HR2.out.lt;have hwo2:w.heap.size+1<w2.heap.size:=HO2.out.lt;clear hr hE2 hB2 HX2))
   obtain⟨s0,s1,s2,-,-,-⟩:=HR2.out.put (.string ⟨#[]⟩) (.slice none 0 0) (.slice none 0 0);refine bodyPost_ret (v:=.tuple #[.agg #[.string ⟨#[]⟩,.slice none 0 0,.slice none 0 0],.iface 114 (.agg #[.iface 442 (.pointer (some (adr (eIx c)))),.int .i64 0,.int .i64 (a:Int)])]) (by simp[results,Tryz.results47,go_sem,s0,s1,s2]) rfl ?_;exact rObjBad HB.out HRE.out HF2.out (Below.refl _ _)
  |.ok (nm,p2)=>
   have hp2:p2<=s.size:=(rdName_ok hv2).2.1;have hnm16:=(rdName_ok hv2).2.2.2.1;have HN2:Hid (rdObj s=bd (rdImpsN s p2) λis p=>bd (rdGlobsN s is p) λgs p=>if p<s.size then .error (11,p) else .ok (⟨nm,is,gs⟩,p)):=by show _=_;rw[HN1.out,bd_ok hv2]
   have HV2:=hid hv2;clear hv2 HN1;match hv3:rdImpsN s p2 with
   |.error (c,a)=>
    have HRE:Hid (rdObj s=.error (c,a)):=by show _=_;rw[HN2.out,bd_err hv3]
    have HV3:=hid hv3;clear hv3;go_enter Tryz.func47,Tryz.ntmps47;go_wp2_with (first
     |(go_at_call 96;refine HX1.out.mono ?_;rintro e w1 hr;obtain⟨rfl,hS1⟩:=hr.ok _ _ HV1.out;have hE1:=hr.ef;have hB1:=hr.ba;have HR1:=hid (HR0.out.ef hE1 (by omega));have HO1:=hid (HO0.out.ef hE1 (by omega));have HF1:=hid (HF0.out.trans (Off.of_ef hE1 (by simp)));have HX2:=hid (rdName_any hs hB1 hS1 hp1);clear hr hE1 hB1 hS1 HX1)
     |(go_at_call 97;refine HX2.out.mono ?_;rintro e w2 hr;obtain⟨v,rfl,rfl,hS2,hq2,hE2,hB2⟩:=hr.isOk HV2.out;have HR2:=hid (HR1.out.ef hE2 (by omega));have HO2:=hid (HO1.out.ef hE2 (by omega));have HF2:=hid (HF1.out.trans (Off.of_ef hE2 (by simp)));have hwo2:w.heap.size+1<w2.heap.size:=HO2.out.lt;have HX3:=hid (rdImpsN_any hs hB2 hS2 hp2);clear hr hE2 hB2 hS2 HX2)
     |(go_at_call 98;refine HX3.out.mono ?_;rintro e w3 hr;obtain⟨v,rfl,rfl,hE3,hB3⟩:=hr.isErr HV3.out;have HR3:=hid (HR2.out.ef hE3 (by omega));have HO3:=hid (HO2.out.ef hE3 (by omega));have HF3:=hid (HF2.out.trans (Off.of_ef hE3 (by simp)));obtain⟨r0,r1,r2,k0,k1,k2⟩:=id HR3.out;obtain⟨o0,o1,o2,l0,l1,l2⟩:=id HO3.out;have hw3:w.heap.size<w3.heap.size:=HR3.out.lt;have hwo3:w.heap.size+1<w3.heap.size:=HO3.out.lt;clear hr hE3 hB3 HX3))
    obtain⟨s0,s1,s2,-,-,-⟩:=HR3.out.put (.string ⟨#[]⟩) (.slice none 0 0) (.slice none 0 0);refine bodyPost_ret (v:=.tuple #[.agg #[.string ⟨#[]⟩,.slice none 0 0,.slice none 0 0],.iface 114 (.agg #[.iface 442 (.pointer (some (adr (eIx c)))),.int .i64 0,.int .i64 (a:Int)])]) (by simp[results,Tryz.results47,go_sem,s0,s1,s2]) rfl ?_;exact rObjBad HB.out HRE.out HF3.out (Below.refl _ _)
   |.ok (is,p3)=>
    have hp3:p3<=s.size:=(rdImpsN_ok hv3).2.1;have HIF:=hid (rdImpsN_ok hv3);have HN3:Hid (rdObj s=bd (rdGlobsN s is p3) λgs p=>if p<s.size then .error (11,p) else .ok (⟨nm,is,gs⟩,p)):=by show _=_;rw[HN2.out,bd_ok hv3]
    have HV3:=hid hv3;clear hv3 HN2;match hv4:rdGlobsN s is p3 with
    |.error (c,a)=>
     have HRE:Hid (rdObj s=.error (c,a)):=by show _=_;rw[HN3.out,bd_err hv4]
     have HV4:=hid hv4;clear hv4;go_enter Tryz.func47,Tryz.ntmps47;go_wp2_with (first
      |(go_at_call 96;refine HX1.out.mono ?_;rintro e w1 hr;obtain⟨rfl,hS1⟩:=hr.ok _ _ HV1.out;have hE1:=hr.ef;have hB1:=hr.ba;have HR1:=hid (HR0.out.ef hE1 (by omega));have HO1:=hid (HO0.out.ef hE1 (by omega));have HF1:=hid (HF0.out.trans (Off.of_ef hE1 (by simp)));have HX2:=hid (rdName_any hs hB1 hS1 hp1);clear hr hE1 hB1 hS1 HX1)
      |(go_at_call 97;refine HX2.out.mono ?_;rintro e w2 hr;obtain⟨v,rfl,rfl,hS2,hq2,hE2,hB2⟩:=hr.isOk HV2.out;have HR2:=hid (HR1.out.ef hE2 (by omega));have HO2:=hid (HO1.out.ef hE2 (by omega));have HF2:=hid (HF1.out.trans (Off.of_ef hE2 (by simp)));have hwo2:w.heap.size+1<w2.heap.size:=HO2.out.lt;have HX3:=hid (rdImpsN_any hs hB2 hS2 hp2);clear hr hE2 hB2 hS2 HX2)
      |(go_at_call 98;refine HX3.out.mono ?_;rintro e w3 hr;obtain⟨v,rfl,hI3,hS3,hq3,hE3,hB3⟩:=hr.isOk HV3.out;obtain⟨ip,ic,rfl⟩:=hI3.slice;have HI3:=hid hI3;have HR3:=hid (HR2.out.ef hE3 (by omega));have HO3:=hid (HO2.out.ef hE3 (by omega));have HF3:=hid (HF2.out.trans (Off.of_ef hE3 (by simp)));have hw23:w2.heap.size<=w3.heap.size:=hE3.size;have HX4:=hid (rdGlobsN_any hs hB3 hS3 hp3 (ImpsO.at hI3 (by have:=HIF.out.2.2.1;show _<_;omega) (λx hx=>by have:=HIF.out.2.2.2.1 x hx;unfold maxLen;omega)) (hI3.away (by omega)) HIF.out.2.2.2.2);clear hr hE3 hB3 hS3 hI3 HX3)
      |(go_at_call 99;refine HX4.out.mono ?_;rintro e w4 hr;obtain⟨v,rfl,rfl,hE4,hB4⟩:=hr.isErr HV4.out;have HR4:=hid (HR3.out.ef hE4 (by omega));have HO4:=hid (HO3.out.ef hE4 (by omega));have HF4:=hid (HF3.out.trans (Off.of_ef hE4 (by simp)));obtain⟨r0,r1,r2,k0,k1,k2⟩:=id HR4.out;obtain⟨o0,o1,o2,l0,l1,l2⟩:=id HO4.out;have hw4:w.heap.size<w4.heap.size:=HR4.out.lt;have hwo4:w.heap.size+1<w4.heap.size:=HO4.out.lt;clear hr hE4 hB4 HX4))
     obtain⟨s0,s1,s2,-,-,-⟩:=HR4.out.put (.string ⟨#[]⟩) (.slice none 0 0) (.slice none 0 0);refine bodyPost_ret (v:=.tuple #[.agg #[.string ⟨#[]⟩,.slice none 0 0,.slice none 0 0],.iface 114 (.agg #[.iface 442 (.pointer (some (adr (eIx c)))),.int .i64 0,.int .i64 (a:Int)])]) (by simp[results,Tryz.results47,go_sem,s0,s1,s2]) rfl ?_;exact rObjBad HB.out HRE.out HF4.out (Below.refl _ _)
    |.ok (gs,p4)=>
     have hp4:p4<=s.size:=rdGlobsN_ok hv4;have HN4:Hid (rdObj s=if p4<s.size then .error (11,p4) else .ok (⟨nm,is,gs⟩,p4)):=by show _=_;rw[HN3.out,bd_ok hv4]
     have HV4:=hid hv4;clear hv4 HN3;have HCL:=hid (λw=>Clone_any nm w (by omega));by_cases hlt:p4<s.size
     ·have HRE:Hid (rdObj s=.error (11,p4)):=by show _=_;rw[HN4.out,if_pos hlt]
      have hlt':(p4:Int)<(s.size:Int):=by omega
      go_enter Tryz.func47,Tryz.ntmps47;go_wp2_with (first
       |(go_at_call 96;refine HX1.out.mono ?_;rintro e w1 hr;obtain⟨rfl,hS1⟩:=hr.ok _ _ HV1.out;have hE1:=hr.ef;have hB1:=hr.ba;have HR1:=hid (HR0.out.ef hE1 (by omega));have HO1:=hid (HO0.out.ef hE1 (by omega));have HF1:=hid (HF0.out.trans (Off.of_ef hE1 (by simp)));have HX2:=hid (rdName_any hs hB1 hS1 hp1);clear hr hE1 hB1 hS1 HX1)
       |(go_at_call 97;refine HX2.out.mono ?_;rintro e w2 hr;obtain⟨v,rfl,rfl,hS2,hq2,hE2,hB2⟩:=hr.isOk HV2.out;have HR2:=hid (HR1.out.ef hE2 (by omega));have HO2:=hid (HO1.out.ef hE2 (by omega));have HF2:=hid (HF1.out.trans (Off.of_ef hE2 (by simp)));have hwo2:w.heap.size+1<w2.heap.size:=HO2.out.lt;have HX3:=hid (rdImpsN_any hs hB2 hS2 hp2);clear hr hE2 hB2 hS2 HX2)
       |(go_at_call 98;refine HX3.out.mono ?_;rintro e w3 hr;obtain⟨v,rfl,hI3,hS3,hq3,hE3,hB3⟩:=hr.isOk HV3.out;obtain⟨ip,ic,rfl⟩:=hI3.slice;have HI3:=hid hI3;have HR3:=hid (HR2.out.ef hE3 (by omega));have HO3:=hid (HO2.out.ef hE3 (by omega));have HF3:=hid (HF2.out.trans (Off.of_ef hE3 (by simp)));have hw23:w2.heap.size<=w3.heap.size:=hE3.size;have HX4:=hid (rdGlobsN_any hs hB3 hS3 hp3 (ImpsO.at hI3 (by have:=HIF.out.2.2.1;show _<_;omega) (λx hx=>by have:=HIF.out.2.2.2.1 x hx;unfold maxLen;omega)) (hI3.away (by omega)) HIF.out.2.2.2.2);clear hr hE3 hB3 hS3 hI3 HX3)
       |(go_at_call 99;refine HX4.out.mono ?_;rintro e w4 hr;obtain⟨v,rfl,⟨G,hG4,hGm⟩,hS4,hq4,hE4,hB4⟩:=hr.isOk HV4.out;obtain⟨gp,gc,rfl⟩:=hG4.slice;have HG4:=hid hG4;have HGM:=hid hGm;have HS4:=hid hS4;have HB4:=hid hB4;have HIL:Hid (∀b∈rowB (noB (α:=LImp)) (.slice ip is.length ic) is,b<w3.heap.size):=(λb hb=>(HI3.out.rg b hb).2);have HI4:=hid (HI3.out.off okImp (Off.of_ef (bs:=[E]) hE4 (by simp)) (by simp;omega));obtain⟨d0,d1,g1⟩:=id hS4;have HR4:=hid (HR3.out.ef hE4 (by omega));have HO4:=hid (HO3.out.ef hE4 (by omega));have HF4:=hid (HF3.out.trans (Off.of_ef hE4 (by simp)));obtain⟨r0,r1,r2,k0,k1,k2⟩:=id HR4.out;obtain⟨o0,o1,o2,l0,l1,l2⟩:=id HO4.out;have hw4:w.heap.size<w4.heap.size:=HR4.out.lt;have hwo4:w.heap.size+1<w4.heap.size:=HO4.out.lt;clear hr hE4 hB4 hS4 hG4 hGm HX4))
      go_quiet (fail);have HQ:=hid (below_drewN (Below.refl w4.heap.size w4) nq);have HRQ:=hid (HR4.out.keep HQ.out);have HOQ:=hid (HO4.out.keep HQ.out);have HSQ:=hid (HS4.out.keep HQ.out);have HBQ:=hid (HB4.out.keep HQ.out);have HFQ:=hid (HF4.out.trans (Off.of_below HQ.out));clear HQ HR4 HO4 HS4 HB4 HF4 HG4 HI4 d0 d1 g1 r0 r1 r2 k0 k1 k2 o0 o1 o2 l0 l1 l2 hw4 hwo4;go_wp2;generalize w4.drewN nq=wq at*;obtain⟨d0,d1,g1⟩:=id HSQ.out;obtain⟨r0,r1,r2,k0,k1,k2⟩:=id HRQ.out;obtain⟨o0,o1,o2,l0,l1,l2⟩:=id HOQ.out;have x11:=HBQ.out.more;have hwq:w.heap.size<wq.heap.size:=HRQ.out.lt;go_region_with ((go_at_call 32;refine(fAt_any _ _ _ _).mono ?_;rintro e w5 ⟨rfl,rfl⟩))
      all_goals go_wp2
      all_goals(obtain⟨s0,s1,s2,-,-,-⟩:=(HRQ.out.put (.string ⟨#[]⟩) (.slice none 0 0) (.slice none 0 0)).keep (Below.refl _ _).drew)
      all_goals refine bodyPost_ret (v:=.tuple #[.agg #[.string ⟨#[]⟩,.slice none 0 0,.slice none 0 0],.iface 114 (.agg #[.iface 442 (.pointer (some (adr 11))),.int .i64 0,.int .i64 (p4:Int)])]) (by simp[results,Tryz.results47,go_sem,Act.put,s0,s1,s2]) rfl ?_
      all_goals exact rObjBad (c:=11) HB.out HRE.out HFQ.out (Below.refl _ _).drew
     ·have HRO:Hid (rdObj s=.ok (⟨nm,is,gs⟩,p4)):=by show _=_;rw[HN4.out,if_neg hlt]
      have hlt':¬(p4:Int)<(s.size:Int):=by omega
      go_enter Tryz.func47,Tryz.ntmps47;go_wp2_with (first
       |(go_at_call 96;refine HX1.out.mono ?_;rintro e w1 hr;obtain⟨rfl,hS1⟩:=hr.ok _ _ HV1.out;have hE1:=hr.ef;have hB1:=hr.ba;have HR1:=hid (HR0.out.ef hE1 (by omega));have HO1:=hid (HO0.out.ef hE1 (by omega));have HF1:=hid (HF0.out.trans (Off.of_ef hE1 (by simp)));have HX2:=hid (rdName_any hs hB1 hS1 hp1);clear hr hE1 hB1 hS1 HX1)
       |(go_at_call 97;refine HX2.out.mono ?_;rintro e w2 hr;obtain⟨v,rfl,rfl,hS2,hq2,hE2,hB2⟩:=hr.isOk HV2.out;have HR2:=hid (HR1.out.ef hE2 (by omega));have HO2:=hid (HO1.out.ef hE2 (by omega));have HF2:=hid (HF1.out.trans (Off.of_ef hE2 (by simp)));have hwo2:w.heap.size+1<w2.heap.size:=HO2.out.lt;have HX3:=hid (rdImpsN_any hs hB2 hS2 hp2);clear hr hE2 hB2 hS2 HX2)
       |(go_at_call 98;refine HX3.out.mono ?_;rintro e w3 hr;obtain⟨v,rfl,hI3,hS3,hq3,hE3,hB3⟩:=hr.isOk HV3.out;obtain⟨ip,ic,rfl⟩:=hI3.slice;have HI3:=hid hI3;have HR3:=hid (HR2.out.ef hE3 (by omega));have HO3:=hid (HO2.out.ef hE3 (by omega));have HF3:=hid (HF2.out.trans (Off.of_ef hE3 (by simp)));have hw23:w2.heap.size<=w3.heap.size:=hE3.size;have HX4:=hid (rdGlobsN_any hs hB3 hS3 hp3 (ImpsO.at hI3 (by have:=HIF.out.2.2.1;show _<_;omega) (λx hx=>by have:=HIF.out.2.2.2.1 x hx;unfold maxLen;omega)) (hI3.away (by omega)) HIF.out.2.2.2.2);clear hr hE3 hB3 hS3 hI3 HX3)
       |(go_at_call 99;refine HX4.out.mono ?_;rintro e w4 hr;obtain⟨v,rfl,⟨G,hG4,hGm⟩,hS4,hq4,hE4,hB4⟩:=hr.isOk HV4.out;obtain⟨gp,gc,rfl⟩:=hG4.slice;have HG4:=hid hG4;have HGM:=hid hGm;have HS4:=hid hS4;have HB4:=hid hB4;have HIL:Hid (∀b∈rowB (noB (α:=LImp)) (.slice ip is.length ic) is,b<w3.heap.size):=(λb hb=>(HI3.out.rg b hb).2);have HI4:=hid (HI3.out.off okImp (Off.of_ef (bs:=[E]) hE4 (by simp)) (by simp;omega));obtain⟨d0,d1,g1⟩:=id hS4;have HR4:=hid (HR3.out.ef hE4 (by omega));have HO4:=hid (HO3.out.ef hE4 (by omega));have HF4:=hid (HF3.out.trans (Off.of_ef hE4 (by simp)));obtain⟨r0,r1,r2,k0,k1,k2⟩:=id HR4.out;obtain⟨o0,o1,o2,l0,l1,l2⟩:=id HO4.out;have hw4:w.heap.size<w4.heap.size:=HR4.out.lt;have hwo4:w.heap.size+1<w4.heap.size:=HO4.out.lt;clear hr hE4 hB4 hS4 hG4 hGm HX4))
      go_quiet (fail);go_wp2_with (first
       |(go_at_call 40;refine(HCL.out _).mono ?_;rintro e w5 ⟨rfl,hb5⟩;have hb45:=(below_drewN (Below.refl w4.heap.size w4) nq).trans (hb5.mono (by simp));have HR5:=hid (HR4.out.keep hb45);have HB5:=hid hb45;obtain⟨r0',r1',r2',k0',k1',k2'⟩:=id HR5.out;have hw5:w.heap.size<w5.heap.size:=HR5.out.lt;clear hb5 hb45))
      obtain⟨s0,s1,s2,-,-,-⟩:=HR5.out.put (.string nm) (.slice ip is.length ic) (.slice gp (List.length G) gc);refine bodyPost_ret (v:=.tuple #[.agg #[.string nm,.slice ip is.length ic,.slice gp (List.length G) gc],.nilIface]) (by simp[results,Tryz.results47,go_sem,s0,s1,s2]) rfl ?_;have ho:=puts3 w5 w.heap.size (.string nm) (.slice ip is.length ic) (.slice gp (List.length G) gc);refine ReadSt.good HRO.out ⟨ip,_,ic,gp,_,gc,w3.heap.size,G,rfl,((HI4.out.keep okImp HB5.out).off okImp ho (by simp;omega)).low (by omega),HIL.out,by omega,(HG4.out.keep okGlob HB5.out).off okGlob ho (by simp;omega),HGM.out⟩ ((HS4.out.keep HB5.out).off ho (by simp;omega)) hp4 ?_ HB.out;exact((((HF4.out.trans (Off.of_below HB5.out)).set (Or.inr (Nat.le_refl _)) _).set (Or.inr (Nat.le_refl _)) _).set (Or.inr (Nat.le_refl _)) _).ef (by simp)
def sumL(C:Nat):List UInt8:=[UInt8.ofNat (C % 256),UInt8.ofNat (C / 256 % 256),UInt8.ofNat (C / 65536 % 256),UInt8.ofNat (C / 16777216)]
def sumS(s:ByteArray):ByteArray:=⟨(sumL (crc s.data.toList)).toArray⟩
theorem sumTxt_any(s:ByteArray)(w:World)(hl:s.size<=100020):
 Calls Tryz.prog 46 #[.string s] w λe w'=>e=.returned (.string (sumS s))∧Below w.heap.size w w':=by
 have HS:=hid (λw=>sum_any s w (by omega));have hC:=crc_lt s.data.toList;have HSS:Hid (sumS s=⟨(sumL (crc s.data.toList)).toArray⟩):=rfl;generalize crc s.data.toList=C at*;have hcv:∀w:World,(convert 94 9 (.slice (some ⟨w.heap.size,0,none⟩) 4 4)).run Tryz.prog (w.alloc (.cells #[.int .u8 ((C:Int) % 256),.int .u8 ((C:Int) / 256 % 256),.int .u8 ((C:Int) / 65536 % 256),.int .u8 ((C:Int) / 16777216)] 5))=.ok (.string (sumS s)) (w.alloc (.cells #[.int .u8 ((C:Int) % 256),.int .u8 ((C:Int) / 256 % 256),.int .u8 ((C:Int) / 65536 % 256),.int .u8 ((C:Int) / 16777216)] 5)):=by
  intro w;have h:=run_convert_bytes_back (P:=Tryz.prog) (w.alloc (.cells #[.int .u8 ((C:Int) % 256),.int .u8 ((C:Int) / 256 % 256),.int .u8 ((C:Int) / 65536 % 256),.int .u8 ((C:Int) / 16777216)] 5)) 94 9 5 ⟨w.heap.size,0,none⟩ 4 (sumL C) Tryz.underlying94 Tryz.underlying5 Tryz.underlying9 (λj hj=>by
   have h1:C % 256 % 256=C % 256:=by omega
   have h2:C / 256 % 256 % 256=C / 256 % 256:=by omega
   have h3:C / 65536 % 256 % 256=C / 65536 % 256:=by omega
   have h4:C / 16777216 % 256=C / 16777216:=by omega
   simp only[sumL,List.length_cons,List.length_nil]at hj;rcases(show j=0∨j=1∨j=2∨j=3 by omega) with rfl|rfl|rfl|rfl;all_goals simp[sumL,Addr.add,h1,h2,h3,h4])
  rw[HSS.out];exact h
 go_enter Tryz.func46,Tryz.ntmps46;go_wp2_with (first
  |(go_at_call 95;refine(HS.out _).mono ?_;rintro e w1 ⟨rfl,hb1⟩;have HB1:=hid hb1;clear hb1))
 go_ret;exact⟨rfl,HB1.out.trans ((Below.refl _ _).alloc (Nat.le_refl _) _|>.mono HB1.out.size)⟩
theorem sum_iff{s:ByteArray}(h:4<=s.size):s.extract (s.size-4) s.size=sumS (bodyOf s)↔sumIs s:=by
 have hc:=crc_lt (bodyOf s).data.toList;unfold sumIs sumAt sumS;generalize crc (bodyOf s).data.toList=C at*;obtain⟨n,hn⟩:∃n,s.size=n+4:=⟨s.size-4,by omega⟩;rw[hn,Nat.add_sub_cancel];have hsz:s.data.size=n+4:=hn;have hex:(s.extract n (n+4)).data.toList=[s.data.toList.getD n 0,s.data.toList.getD (n+1) 0,s.data.toList.getD (n+2) 0,s.data.toList.getD (n+3) 0]:=by
  rw[ByteArray.data_extract,Array.toList_extract];have hl:s.data.toList.length=n+4:=by rw[Array.length_toList];exact hsz
  generalize s.data.toList=l at*;refine List.ext_getElem? λi=>?_;have hx:∀k,k<4->l[n+k]?=some (l.getD (n+k) 0):=λk hk=>by rw[List.getD,List.getElem?_eq_getElem (by omega)];rfl
  match i with
  |0=>simpa[List.extract]using hx 0 (by omega)
  |1=>simpa[List.extract]using hx 1 (by omega)
  |2=>simpa[List.extract]using hx 2 (by omega)
  |3=>simpa[List.extract]using hx 3 (by omega)
  |i+4=>simp[List.extract];omega
 constructor
 ·intro he k hk;have h2:(s.extract n (n+4)).data.toList=sumL C:=by rw[he]
  rw[hex]at h2;simp only[sumL,List.cons.injEq,and_true]at h2;obtain⟨a0,a1,a2,a3⟩:=h2;rcases(show k=0∨k=1∨k=2∨k=3 by omega) with rfl|rfl|rfl|rfl
  ·rw[Nat.add_zero,a0,UInt8.toNat_ofNat',Nat.pow_zero,Nat.div_one,Nat.mod_mod]
  ·rw[a1,UInt8.toNat_ofNat'];first|done|omega
  ·rw[a2,UInt8.toNat_ofNat'];first|done|omega
  ·rw[a3,UInt8.toNat_ofNat'];first|done|omega
 ·intro hk;have b0:=hk 0 (by omega);have b1:=hk 1 (by omega);have b2:=hk 2 (by omega);have b3:=hk 3 (by omega);have h2:(s.extract n (n+4)).data.toList=sumL C:=by
   rw[hex];have e:∀(x:UInt8) (m:Nat),x.toNat=m % 256->x=UInt8.ofNat m:=λx m h=>by
    apply UInt8.toNat.inj;rw[h,UInt8.toNat_ofNat']
   rw[Nat.add_zero]at b0;have c0:=e (s.data.toList.getD n 0) (C % 256) (by omega);have c1:=e (s.data.toList.getD (n+1) 0) (C / 256 % 256) (by omega);have c2:=e (s.data.toList.getD (n+2) 0) (C / 65536 % 256) (by omega);have c3:=e (s.data.toList.getD (n+3) 0) (C / 16777216) (by omega);rw[c0,c1,c2,c3];rfl
  apply ByteArray.ext;rw[<-Array.toList_inj,h2]
def DecA(adr:Nat->Addr)(w:World)(lo:Nat)(v x:Value)(d:Except (Int×Int×Int) LObj):Prop:=
 match d with
 |.error (c,k,i)=>v=objZ∧∃j,(0<=j∧j<19)∧x=errF (adr j) k i∧kCode j=c
 |.ok O=>x=.nilIface∧ObjO w lo v O
def DecO(s:ByteArray)(adr:Nat->Addr)(w:World)(e:Ending)(w':World):Prop:=Below w.heap.size w w'∧∃v x,e=.returned (.tuple #[v,x])∧DecA adr w' w.heap.size v x (docD s)
theorem eIx_ok{c:Nat}(h:CE c):(0<=eIx c∧eIx c<19)∧kCode (eIx c)=(c:Int):=by
 unfold CE at h;rcases h with rfl|rfl|rfl|rfl|rfl|rfl;all_goals exact⟨by decide,rfl⟩
theorem SentAt.long{w:World}{adr:Nat->Addr}(h:SentAt w adr):w.cell? ⟨0,0,none⟩=some (.iface 442 (.pointer (some (adr 4)))):=h.c 4 (by omega)
theorem SentAt.short{w:World}{adr:Nat->Addr}(h:SentAt w adr):w.cell? ⟨5,0,none⟩=some (.iface 442 (.pointer (some (adr 6)))):=h.c 6 (by omega)
theorem SentAt.sum{w:World}{adr:Nat->Addr}(h:SentAt w adr):w.cell? ⟨6,0,none⟩=some (.iface 442 (.pointer (some (adr 7)))):=h.c 7 (by omega)
theorem decErr{s:ByteArray}{adr:Nat->Addr}{w w':World}{c k i:Int}{j:Nat}(hd:docD s=.error (c,k,i))(hj:0<=j∧j<19)(hc:kCode j=c)(hb:Below w.heap.size w w'):DecO s adr w (.returned (.tuple #[.agg #[.string ⟨#[]⟩,.slice none 0 0,.slice none 0 0],.iface 114 (.agg #[.iface 442 (.pointer (some (adr j))),.int .i64 k,.int .i64 i])])) w':=by
 refine⟨hb,_,_,rfl,?_⟩;rw[hd];exact⟨rfl,j,hj,rfl,hc⟩
theorem objDecode_any(s:ByteArray)(adr:Nat->Addr)(w:World)(hT:TabAt w)(hS:SentAt w adr):
 Calls Tryz.prog 22 #[.string s] w λe w'=>DecO s adr w e w':=by
 have HT:=hid hT;have HSE:=hid hS;have HBA:Hid (∀o:Obj,Below w.heap.size w (w.alloc o)):=λo=>(Below.refl _ _).alloc (Nat.le_refl _) o;clear hT hS;by_cases h1:100000<s.size
 ·have HD:=hid (docD_long h1);have h1':(100000:Int)<(s.size:Int):=by omega
  have x4:=HSE.out.long;have l4:0<w.heap.size:=block_lt_of_cell x4;go_enter Tryz.func22,Tryz.ntmps22;go_wp2_with (first
   |(go_at_call 32;refine(fAt_any _ _ _ _).mono ?_;rintro e w2 ⟨rfl,rfl⟩))
  refine bodyPost_ret (v:=.tuple #[.agg #[.string ⟨#[]⟩,.slice none 0 0,.slice none 0 0],.iface 114 (.agg #[.iface 442 (.pointer (some (adr 4))),.int .i64 0,.int .i64 0])]) (by simp[results,Tryz.results22,go_sem]) rfl ?_;exact decErr HD.out (by omega) rfl (HBA.out _)
 ·by_cases h2:s.size<8
  ·have HD:=hid (docD_short h1 h2);have h1':¬(100000:Int)<(s.size:Int):=by omega
   have h2':(s.size:Int)<8:=by omega
   have x6:=HSE.out.short;have l6:5<w.heap.size:=block_lt_of_cell x6;go_enter Tryz.func22,Tryz.ntmps22;go_wp2_with (first
    |(go_at_call 32;refine(fAt_any _ _ _ _).mono ?_;rintro e w2 ⟨rfl,rfl⟩))
   refine bodyPost_ret (v:=.tuple #[.agg #[.string ⟨#[]⟩,.slice none 0 0,.slice none 0 0],.iface 114 (.agg #[.iface 442 (.pointer (some (adr 6))),.int .i64 0,.int .i64 (s.size:Int)])]) (by simp[results,Tryz.results22,go_sem]) rfl ?_;exact decErr HD.out (by omega) rfl (HBA.out _)
  ·have h1':¬(100000:Int)<(s.size:Int):=by omega
   have h2':¬(s.size:Int)<8:=by omega
   have h3':(0:Int)<=(s.size:Int)-4:=by omega
   have h4':(s.size:Int)-4<=(s.size:Int):=by omega
   have HSUM:=hid (sum_iff (s:=s) (by omega));obtain⟨B,hB⟩:∃B,B=bodyOf s:=⟨_,rfl⟩;have hBs:B.size=s.size-4:=by rw[hB];unfold bodyOf;rw[ByteArray.size_extract];omega
   have HST:=hid (λw=>sumTxt_any B w (by omega));have HE:Hid (s.extract 0 (s.size-4)=B):=hB.symm;have hN4:((s.size:Int)-4).toNat=s.size-4:=by omega
   have HE2:Hid (s.extract 0 ((s.size:Int)-4).toNat=B):=by show _=_;rw[hN4];exact hB.symm
   have HN4:=hid hN4;clear hN4;rw[<-hB]at HSUM;have HBO:=hid hB;clear hB;go_enter Tryz.func22,Tryz.ntmps22;go_upto_region 6 with fail
   have HR0:=hid (Bx3.new w (.string ⟨#[]⟩) (.slice none 0 0) (.slice none 0 0) 39);have HB0:=hid (HBA.out (Obj.cells #[.string ⟨#[]⟩,.slice none 0 0,.slice none 0 0] 39));generalize w.alloc (Obj.cells #[.string ⟨#[]⟩,.slice none 0 0,.slice none 0 0] 39)=W1 at*;go_cut [32] (λc wx=>c=.bool (!((s.extract (s.size-4) s.size).toList==(sumS B).toList))∧Hid (Below W1.heap.size W1 wx))
   case first=>
    go_region_with ((go_at_call 46;(first|rw[HE.out]|rw[HE2.out]);refine(HST.out _).mono ?_;rintro e w1 ⟨rfl,hb1⟩;have HB1:=hid hb1;clear hb1))
    all_goals go_wp2_with fail
    all_goals go_meet
    all_goals exact⟨by first|rfl|rw[HN4.out],((Below.refl _ _).drew).trans HB1.out⟩
   case rest=>
    obtain⟨rfl,HB1⟩:=hcut;rename World=>w1
    have HR1:=hid (HR0.out.keep HB1.out);have HBW:Hid (Below w.heap.size w w1):=HB0.out.trans (HB1.out.mono HB0.out.size);have hw1:w.heap.size<w1.heap.size:=HR1.out.lt;obtain⟨r0,r1,r2,k0,k1,k2⟩:=id HR1.out;have HEI:Hid (s.size-4<s.size):=by show _<_;omega
    clear HR0 HB0 HB1 HBA HST;by_cases hsum:sumIs s
    ·have hcmp:((s.extract (s.size-4) s.size).toList==(sumS B).toList)=true:=by rw[HSUM.out.2 hsum];exact beq_self_eq_true _
     rw[hcmp];have HSI:=hid hsum;clear hsum hcmp HSUM;have HSB:Hid (B.size<=100000):=by show _<=_;omega
     have HBL:Hid (Below w1.heap.size w1 (w1.alloc (Obj.cells #[.string B,.int .i64 0] 139))):=(Below.refl _ _).alloc (Nat.le_refl _) _;have HOB:=hid (rdObj_any (W:=w) (w:=w1.alloc (Obj.cells #[.string B,.int .i64 0] 139)) (E:=w1.heap.size) (adr:=adr) (s:=B) (by omega) (by omega) ⟨HSE.out,HT.out,HBW.out.trans (HBL.out.mono HBW.out.size),HBW.out.size⟩ ⟨by simp,by simp,by simp⟩);match hro:rdObj B with
     |.error (c,a)=>
      have HD:=hid (docD_err h1 h2 HSI.out (by rw[<-HBO.out];exact hro));have HRO:=hid hro;have HCE:=hid (rdObj_err hro);clear hro;go_wp2_with (first
       |(go_at_call 47;rw[HE.out];refine HOB.out.mono ?_;rintro e w3 hr;obtain⟨v,rfl,rfl,hE3,hB3⟩:=hr.isErr HRO.out;unfold objZ;have HR3:=hid ((HR1.out.keep HBL.out).ef hE3 (by omega));have HB3:Hid (Below w.heap.size w w3):=hB3.b;obtain⟨R0,R1,R2,K0,K1,K2⟩:=id HR3.out;have hw3:w.heap.size<w3.heap.size:=HR3.out.lt;clear hr hE3 hB3))
      obtain⟨s0,s1,s2,-,-,-⟩:=(HR3.out.put (.string ⟨#[]⟩) (.slice none 0 0) (.slice none 0 0)).keep ((Below.refl _ _).alloc (Nat.le_refl _) (Obj.cells #[.string ⟨#[]⟩,.slice none 0 0,.slice none 0 0] 39));refine bodyPost_ret (v:=.tuple #[.agg #[.string ⟨#[]⟩,.slice none 0 0,.slice none 0 0],.iface 114 (.agg #[.iface 442 (.pointer (some (adr (eIx c)))),.int .i64 0,.int .i64 (a:Int)])]) (by simp[results,Tryz.results22,go_sem,s0,s1,s2]) rfl ?_;exact decErr HD.out (eIx_ok HCE.out).1 (eIx_ok HCE.out).2 ((((HB3.out.setCell (Nat.le_refl _) _).setCell (Nat.le_refl _) _).setCell (Nat.le_refl _) _).alloc (by have:=HB3.out.size;simp;omega) _)
     |.ok (O,q)=>
      have HRO:=hid hro;have HFI:=hid (rdObj_ok hro);obtain⟨SB,hsb⟩:∃SB,sBad (O.imps.length+O.globs.length) O.globs 0=SB:=⟨_,rfl⟩;have HSBB:=hid hsb;cases SB with
      |some x=>
       obtain⟨ee,kk,ii⟩:=x;have HD:=hid (docD_bad h1 h2 HSI.out (by rw[<-HBO.out];exact hro) hsb);have HLE:=hid (sBad_le _ _ hsb);clear hro hsb;go_wp2_with (first
        |(go_at_call 47;rw[HE.out];refine HOB.out.mono ?_;rintro e w3 hr;obtain⟨v,rfl,hO3,hS3,hq3,hE3,hB3⟩:=hr.isOk HRO.out;have hof3:=HFI.out.1;have HOA:=hid (ObjO.at hO3 hof3 HSB.out);obtain⟨ip,il,ic,gp,gl,gc,mid,G,rfl,hI,hm,hl,hG,he⟩:=hO3.own;obtain⟨iv',gv',hev,-,hIA,hGA⟩:=id HOA.out;simp only[Value.agg.injEq,Array.mk.injEq,List.cons.injEq,true_and,and_true]at hev;obtain⟨rfl,rfl⟩:=hev;have HIA:=hid hIA;have HGA:=hid hGA;have HO3:=hid hO3;have HR3:=hid ((HR1.out.keep HBL.out).ef hE3 (by omega));have HB3:Hid (Below w.heap.size w w3):=hB3.b;have HTA:=hid (HT.out.keep hB3.b);have HSA:=hid (HSE.out.keep hB3.b);have hw3:w.heap.size<w3.heap.size:=HR3.out.lt;have HSD:Hid (∀w',Below w3.heap.size w3 w'->Calls Tryz.prog 48 #[.agg #[.string O.name,.slice ip il ic,.slice gp gl gc]] w' λe w''=>e=.returned (.iface 114 (.agg #[.iface 442 (.pointer (some (adr (ee+1)))),.int .i64 (kk:Int),.int .i64 (ii:Int)]))∧Below w'.heap.size w' w''):=(λw' hb=>by have h:=objSound_any adr O.name _ _ O.imps O.globs w' (hIA.keep hb) (hGA.keep hb) hof3.good (HTA.out.keep hb) (HSA.out.keep hb);rw[HSBB.out]at h;exact h);clear hr hO3 hS3 hE3 hB3 hI hm hl hG he hIA hGA)
        |(go_at_call 48;refine(HSD.out _ ((Below.refl _ _).alloc (Nat.le_refl _) _)).mono ?_;rintro e w4 ⟨rfl,hb4⟩;have hb34:=((Below.refl w3.heap.size w3).alloc (Nat.le_refl _) (Obj.cells #[.string O.name,.slice ip il ic,.slice gp gl gc] 39)).trans (hb4.mono (by simp));have HB34:=hid hb34;have HR4:=hid (HR3.out.keep hb34);have HO4:=hid ((Bx3.new w3 (.string O.name) (.slice ip il ic) (.slice gp gl gc) 39).keep hb4);obtain⟨R0,R1,R2,K0,K1,K2⟩:=id HR4.out;obtain⟨O0,O1,O2,L0,L1,L2⟩:=id HO4.out;have hw4:w.heap.size<w4.heap.size:=HR4.out.lt;have hw5:w3.heap.size<w4.heap.size:=HO4.out.lt;clear hb4 hb34 HSD))
       obtain⟨s0,s1,s2,-,-,-⟩:=HR4.out.put (.string ⟨#[]⟩) (.slice none 0 0) (.slice none 0 0);refine bodyPost_ret (v:=.tuple #[.agg #[.string ⟨#[]⟩,.slice none 0 0,.slice none 0 0],.iface 114 (.agg #[.iface 442 (.pointer (some (adr (ee+1)))),.int .i64 (kk:Int),.int .i64 (ii:Int)])]) (by simp[results,Tryz.results22,go_sem,s0,s1,s2]) rfl ?_;exact decErr HD.out (by have:=HLE.out;omega) (kCode_next HLE.out) ((((HB3.out.trans (HB34.out.mono HB3.out.size)).setCell (Nat.le_refl _) _).setCell (Nat.le_refl _) _).setCell (Nat.le_refl _) _)
      |none=>
       have HD:=hid (docD_ok h1 h2 HSI.out (by rw[<-HBO.out];exact hro) hsb);clear hro hsb;go_wp2_with (first
        |(go_at_call 47;rw[HE.out];refine HOB.out.mono ?_;rintro e w3 hr;obtain⟨v,rfl,hO3,hS3,hq3,hE3,hB3⟩:=hr.isOk HRO.out;have hof3:=HFI.out.1;have HOA:=hid (ObjO.at hO3 hof3 HSB.out);obtain⟨ip,il,ic,gp,gl,gc,mid,G,rfl,hI,hm,hl,hG,he⟩:=hO3.own;obtain⟨iv',gv',hev,-,hIA,hGA⟩:=id HOA.out;simp only[Value.agg.injEq,Array.mk.injEq,List.cons.injEq,true_and,and_true]at hev;obtain⟨rfl,rfl⟩:=hev;have HIA:=hid hIA;have HGA:=hid hGA;have HO3:=hid hO3;have HR3:=hid ((HR1.out.keep HBL.out).ef hE3 (by omega));have HB3:Hid (Below w.heap.size w w3):=hB3.b;have HTA:=hid (HT.out.keep hB3.b);have HSA:=hid (HSE.out.keep hB3.b);have hw3:w.heap.size<w3.heap.size:=HR3.out.lt;have HSD:Hid (∀w',Below w3.heap.size w3 w'->Calls Tryz.prog 48 #[.agg #[.string O.name,.slice ip il ic,.slice gp gl gc]] w' λe w''=>e=.returned (.nilIface)∧Below w'.heap.size w' w''):=(λw' hb=>by have h:=objSound_any adr O.name _ _ O.imps O.globs w' (hIA.keep hb) (hGA.keep hb) hof3.good (HTA.out.keep hb) (HSA.out.keep hb);rw[HSBB.out]at h;exact h);clear hr hO3 hS3 hE3 hB3 hI hm hl hG he hIA hGA)
        |(go_at_call 48;refine(HSD.out _ ((Below.refl _ _).alloc (Nat.le_refl _) _)).mono ?_;rintro e w4 ⟨rfl,hb4⟩;have hb34:=((Below.refl w3.heap.size w3).alloc (Nat.le_refl _) (Obj.cells #[.string O.name,.slice ip il ic,.slice gp gl gc] 39)).trans (hb4.mono (by simp));have HB34:=hid hb34;have HR4:=hid (HR3.out.keep hb34);have HO4:=hid ((Bx3.new w3 (.string O.name) (.slice ip il ic) (.slice gp gl gc) 39).keep hb4);obtain⟨R0,R1,R2,K0,K1,K2⟩:=id HR4.out;obtain⟨O0,O1,O2,L0,L1,L2⟩:=id HO4.out;have hw4:w.heap.size<w4.heap.size:=HR4.out.lt;have hw5:w3.heap.size<w4.heap.size:=HO4.out.lt;clear hb4 hb34 HSD))
       obtain⟨s0,s1,s2,-,-,-⟩:=HR4.out.put (.string O.name) (.slice ip il ic) (.slice gp gl gc);refine bodyPost_ret (v:=.tuple #[.agg #[.string O.name,.slice ip il ic,.slice gp gl gc],.nilIface]) (by simp[results,Tryz.results22,go_sem,s0,s1,s2]) rfl ?_;refine⟨(((HB3.out.trans (HB34.out.mono HB3.out.size)).setCell (Nat.le_refl _) _).setCell (Nat.le_refl _) _).setCell (Nat.le_refl _) _,_,_,rfl,?_⟩;rw[HD.out];refine⟨rfl,(HO3.out.off (bs:=[w.heap.size]) ((Off.of_below HB34.out).trans (puts3 w4 w.heap.size _ _ _)) (by simp;omega)).low (by simp;omega)⟩
    ·have hcmp:((s.extract (s.size-4) s.size).toList==(sumS B).toList)=false:=by
      rw[beq_eq_false_iff_ne,ByteArray.toList_eq,ByteArray.toList_eq];intro h;exact hsum (HSUM.out.1 (ByteArray.ext (Array.toList_inj.1 h)))
     rw[hcmp];have HD:=hid (docD_sum h1 h2 hsum);rw[show(((s.size-4:Nat)):Int)=(s.size:Int)-4 by omega]at HD;have x7:=(HSE.out.keep HBW.out).sum;have l7:6<w1.heap.size:=block_lt_of_cell x7;clear hsum hcmp HSUM;go_wp2_with (first
      |(go_at_call 32;refine(fAt_any _ _ _ _).mono ?_;rintro e w2 ⟨rfl,rfl⟩))
     obtain⟨s0,s1,s2,-,-,-⟩:=HR1.out.put (.string ⟨#[]⟩) (.slice none 0 0) (.slice none 0 0);refine bodyPost_ret (v:=.tuple #[.agg #[.string ⟨#[]⟩,.slice none 0 0,.slice none 0 0],.iface 114 (.agg #[.iface 442 (.pointer (some (adr 7))),.int .i64 0,.int .i64 ((s.size:Int)-4)])]) (by simp[results,Tryz.results22,go_sem,s0,s1,s2]) rfl ?_;exact decErr HD.out (by omega) rfl (((HBW.out.setCell (Nat.le_refl _) _).setCell (Nat.le_refl _) _).setCell (Nat.le_refl _) _)
def DecT(w:World)(lo:Nat)(v:Value)(c k i:Int)(d:Except (Int×Int×Int) LObj):Prop:=
 match d with
 |.error (c',k',i')=>c=c'∧k=k'∧i=i'∧v=objZ
 |.ok O=>c=0∧k=0∧i=0∧ObjO w lo v O
theorem DecA.open{adr:Nat->Addr}{w:World}{lo:Nat}{v x:Value}{d:Except (Int×Int×Int) LObj}(h:DecA adr w lo v x d)(hS:SentAt w adr):∃(nm:ByteArray) (ip:Option Addr) (il ic:Nat) (gp:Option Addr) (gl gc:Nat),v=.agg #[.string nm,.slice ip il ic,.slice gp gl gc]∧∃c k i,Told w x c k i∧DecT w lo v c k i d:=by
 match d,h with
 |.error (c,k,i),h=>
  obtain⟨rfl,j,hj,rfl,hc⟩:=h;refine⟨_,_,_,_,_,_,_,rfl,c,k,i,?_,rfl,rfl,rfl,rfl⟩;rw[<-hc];exact told_fault hS j hj k i
 |.ok O,h=>
  obtain⟨rfl,hO⟩:=h;obtain⟨ip,il,ic,gp,gl,gc,mid,G,rfl,-⟩:=hO.own;exact⟨_,_,_,_,_,_,_,rfl,0,0,0,told_nil w,rfl,rfl,rfl,hO⟩
theorem DecT.off{w w':World}{lo:Nat}{v:Value}{c k i:Int}{d:Except (Int×Int×Int) LObj}(h:DecT w lo v c k i d){bs:List Nat}(ho:Off bs w w')(hn:∀b∈bs,b<lo∨w.heap.size<=b):DecT w' lo v c k i d:=by
 match d,h with
 |.error (c',k',i'),h=>exact h
 |.ok O,⟨h1,h2,h3,h4⟩=>exact⟨h1,h2,h3,h4.off ho hn⟩
theorem DecT.low{w:World}{lo lo':Nat}{v:Value}{c k i:Int}{d:Except (Int×Int×Int) LObj}(h:DecT w lo v c k i d)(hl:lo'<=lo):DecT w lo' v c k i d:=by
 match d,h with
 |.error (c',k',i'),h=>exact h
 |.ok O,⟨h1,h2,h3,h4⟩=>exact⟨h1,h2,h3,h4.low hl⟩
def TDec(s:ByteArray)(w:World)(e:Ending)(w':World):Prop:=Below w.heap.size w w'∧∃(nm:ByteArray) (ip:Option Addr) (il ic:Nat) (gp:Option Addr) (gl gc:Nat) (c k i:Int),e=.returned (.tuple #[.agg #[.string nm,.slice ip il ic,.slice gp gl gc],.int .i64 c,.agg #[.int .i64 k,.int .i64 i]])∧DecT w' w.heap.size (.agg #[.string nm,.slice ip il ic,.slice gp gl gc]) c k i (docD s)
theorem two2(w:World):
 Below w.heap.size w ((w.alloc (Obj.cells #[.string ⟨#[]⟩,.slice none 0 0,.slice none 0 0] 39)).alloc (Obj.cells #[.int .i64 0,.int .i64 0] 45))∧
 Bx3 ((w.alloc (Obj.cells #[.string ⟨#[]⟩,.slice none 0 0,.slice none 0 0] 39)).alloc (Obj.cells #[.int .i64 0,.int .i64 0] 45)) w.heap.size (.string ⟨#[]⟩) (.slice none 0 0) (.slice none 0 0)∧
 Bx2 ((w.alloc (Obj.cells #[.string ⟨#[]⟩,.slice none 0 0,.slice none 0 0] 39)).alloc (Obj.cells #[.int .i64 0,.int .i64 0] 45)) (w.heap.size+1) (.int .i64 0) (.int .i64 0):=by
 refine⟨((Below.refl _ _).alloc (Nat.le_refl _) _).alloc (by simp) _,(Bx3.new w _ _ _ _).keep ((Below.refl _ _).alloc (Nat.le_refl _) _),?_⟩;have h:=Bx2.new (w.alloc (Obj.cells #[.string ⟨#[]⟩,.slice none 0 0,.slice none 0 0] 39)) (.int .i64 0) (.int .i64 0) 45;rw[show(w.alloc (Obj.cells #[.string ⟨#[]⟩,.slice none 0 0,.slice none 0 0] 39)).heap.size=w.heap.size+1 by simp]at h;exact h
theorem tarnDecode_any(s:ByteArray)(adr:Nat->Addr)(w:World)(hT:TabAt w)(hS:SentAt w adr):
 Calls Tryz.prog 12 #[.string s] w λe w'=>TDec s w e w':=by
 obtain⟨hb0,hr0,hp0⟩:=two2 w;have HB0:=hid hb0;have HR0:=hid hr0;have HP0:=hid hp0;have HOD:=hid (objDecode_any s adr _ (hT.keep hb0) (hS.keep hb0));have HSE:=hid hS;have hsz:((w.alloc (Obj.cells #[.string ⟨#[]⟩,.slice none 0 0,.slice none 0 0] 39)).alloc (Obj.cells #[.int .i64 0,.int .i64 0] 45)).heap.size=w.heap.size+2:=by simp
 have HSZ:=hid hsz;clear hT hS hb0 hr0 hp0 hsz;go_enter Tryz.func12,Tryz.ntmps12;go_wp2_with (first
  |(go_at_call 22;refine HOD.out.mono ?_;rintro e w1 hr;obtain⟨hb1,v,x,rfl,hA⟩:=hr;obtain⟨nm,ip,il,ic,gp,gl,gc,rfl,c,k,i,hTo,hD⟩:=hA.open ((HSE.out.keep HB0.out).keep hb1);have HTO:=hid hTo;have HD:=hid hD;have HB1:=hid hb1;have HR1:=hid (HR0.out.keep hb1);have HP1:=hid (HP0.out.of_block (hb1.block _ HP0.out.lt));clear hb1 hA hTo hD HOD))
 have hw1:w.heap.size+1<w1.heap.size:=HP1.out.lt;have HX:=hid ((Below.refl w1.heap.size w1).alloc (Nat.le_refl _) (Obj.cells #[.string nm,.slice ip il ic,.slice gp gl gc] 39));have HRX:=hid (HR1.out.keep HX.out);have HPX:=hid (HP1.out.of_block (HX.out.block _ HP1.out.lt));have HOX:=hid (Bx3.new w1 (.string nm) (.slice ip il ic) (.slice gp gl gc) 39);generalize w1.alloc (Obj.cells #[.string nm,.slice ip il ic,.slice gp gl gc] 39)=X at*;obtain⟨r0,r1,r2,k0,k1,k2⟩:=id HRX.out;obtain⟨p0,p1,t0,t1⟩:=id HPX.out;obtain⟨o0,o1,o2,l0,l1,l2⟩:=id HOX.out;have hwx:w1.heap.size<X.heap.size:=HOX.out.lt;have hwx1:w.heap.size<X.heap.size:=HRX.out.lt;have hwx2:w.heap.size+1<X.heap.size:=HPX.out.lt;have HXD:Hid (Below X.heap.size X X.drew):=(Below.refl _ _).drew;go_region_with (first
  |(go_at_call 18;refine(HTO.out.kind _ (HX.out.trans (HXD.out.mono HX.out.size))).mono ?_;rintro e w2 ⟨rfl,hb2⟩;have HB2:Hid (Below X.heap.size X w2):=HXD.out.trans hb2;have HR2:=hid (HRX.out.keep HB2.out);have HP2:=hid (HPX.out.of_block (HB2.out.block _ HPX.out.lt));have HO2:=hid (HOX.out.keep HB2.out);obtain⟨ra0,ra1,ra2,ka0,ka1,ka2⟩:=id HR2.out;obtain⟨pa0,pa1,ta0,ta1⟩:=id HP2.out;obtain⟨oa0,oa1,oa2,la0,la1,la2⟩:=id HO2.out;clear hb2)
  |(go_at_call 19;refine(HTO.out.place _ (HX.out.trans (HB2.out.mono HX.out.size))).mono ?_;rintro e w3 ⟨rfl,hb3⟩;have HB3:Hid (Below X.heap.size X w3):=HB2.out.trans (hb3.mono HB2.out.size);have HR3:=hid (HRX.out.keep HB3.out);have HP3:=hid (HPX.out.of_block (HB3.out.block _ HPX.out.lt));have HO3:=hid (HOX.out.keep HB3.out);obtain⟨rb0,rb1,rb2,kb0,kb1,kb2⟩:=id HR3.out;obtain⟨pb0,pb1,tb0,tb1⟩:=id HP3.out;obtain⟨ob0,ob1,ob2,lb0,lb1,lb2⟩:=id HO3.out;clear hb3))
 all_goals go_wp2
 all_goals(obtain⟨s0,s1,s2,s3,s4⟩:=fin5_cells HR3.out HP3.out (by omega) (.string nm) (.slice ip il ic) (.slice gp gl gc) (.int .i64 k) (.int .i64 i);unfold fin5 at s0 s1 s2 s3 s4)
 all_goals refine bodyPost_ret (v:=.tuple #[.agg #[.string nm,.slice ip il ic,.slice gp gl gc],.int .i64 c,.agg #[.int .i64 k,.int .i64 i]]) (by simp[results,Tryz.results12,go_sem,s0,s1,s2,s3,s4]) rfl ?_
 all_goals(have hb13:=HX.out.trans (HB3.out.mono HX.out.size);have hbw:=HB0.out.trans (HB1.out.mono HB0.out.size))
 all_goals refine⟨fin5_below (hbw.trans (hb13.mono hbw.size)) (Nat.le_refl _) (Nat.le_succ _) _ _ _ _ _,nm,ip,il,ic,gp,gl,gc,c,k,i,rfl,?_⟩
 all_goals(have hof:Off [w.heap.size,w.heap.size+1] w1 (fin5 w3 w.heap.size (w.heap.size+1) (.string nm) (.slice ip il ic) (.slice gp gl gc) (.int .i64 k) (.int .i64 i)):=(((((Off.of_below hb13).set (Or.inl (by simp)) _).set (Or.inl (by simp)) _).set (Or.inl (by simp)) _).set (Or.inl (by simp)) _).set (Or.inl (by simp)) _;have h8:=HD.out;rw[HSZ.out]at h8;exact(h8.off hof (by simp)).low (by omega))
end Go.Proofs.YtblobglfjhilmaaGreatDoor
