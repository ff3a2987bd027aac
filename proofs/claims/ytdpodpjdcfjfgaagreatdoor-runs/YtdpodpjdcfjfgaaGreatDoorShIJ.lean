import Derived.Test.YtdpodpjdcfjfgaaGreatDoorTfJ
import Derived.Lib.ItoaNum
import Derived.Ground.NamesProg
import Derived.Shelf.Strconv.Itoa3
set_option maxHeartbeats 1000000
namespace Go.Proofs.YtdpodpjdcfjfgaaGreatDoor
open Go.RowKit Go.Sort
section
variable {gs:List LGlob} {D:Nat->Nat->Int} {t:List UInt8} {a b:ASt} {m:MSt}
theorem Sim.next(h:Sim gs t a m)(hsb:stepB m=true):Sim gs t (rNext a) (nextS (stepS m)):=by
 rw[stepS_ok hsb];exact⟨⟨h.cells,h.stack,h.base,h.dump,by show m.su+1=a.steps+1;rw[h.su],h.sm,h.mu,h.mm,h.state,h.kind,h.text⟩,h.code,by show m.fr.at_+1=a.now.at_+1;rw[h.at_]⟩
theorem Sim.stk(h:Sim gs t a m){p l:List Int}(e:l=flat a++p):Sim gs t (rStk p a) {m with stack:=l}:=
 ⟨⟨h.cells,e,h.base,h.dump,h.su,h.sm,h.mu,h.mm,h.state,h.kind,h.text⟩,h.code,h.at_⟩
theorem take_flat(f s:List Int)(n:Nat)(hn:n<=s.length):(f++s).take ((f++s).length-n)=f++s.take (s.length-n):=by
 have e:(f++s).length-n=f.length+(s.length-n):=by simp;omega
 rw[e,List.take_append];simp[List.take_of_length_le]
theorem drop_flat(f s:List Int)(n:Nat)(hn:n<=s.length):(f++s).drop ((f++s).length-n)=s.drop (s.length-n):=by
 have e:(f++s).length-n=f.length+(s.length-n):=by simp;omega
 rw[e,List.drop_append];simp[List.drop_eq_nil_of_le]
theorem get_flat(f s:List Int)(k:Nat)(hk:k<s.length):(f++s)[(f++s).length-1-k]?=s[s.length-1-k]?:=by
 have e:(f++s).length-1-k=f.length+(s.length-1-k):=by simp;omega
 rw[e,List.getElem?_append_right (by omega),Nat.add_sub_cancel_left]
theorem Sim.drop(h:Sim gs t a m){n:Nat}(hn:n<=a.now.s.length):Sim gs t (rStk (a.now.s.take (a.now.s.length-n)) a) (dropS n m):=by
 refine h.stk ?_;rw[h.stack];exact take_flat _ _ _ hn
theorem Sim.push(h:Sim gs t a m)(x:Int):Sim gs t (rStk (a.now.s++[x]) a) (pushS x m):=by
 refine h.stk ?_;rw[h.stack,List.append_assoc]
theorem room_sim(h:Sim gs t b m)(n:Int):roomB n m=rRoomB n b:=by
 unfold roomB rRoomB;rw[h.mm,h.mu,Bool.eq_iff_iff];simp;omega
theorem Sim.add(h:Sim gs t b m)(x:MCl):Sim gs t (rMake x b) (addS x m):=
 ⟨⟨by show m.cells++[x]=b.cells++[x];rw[h.cells],by show m.stack++[(m.cells.length:Int)]=flat b++(b.now.s++[(b.cells.length:Int)]);rw[h.stack,h.cells,List.append_assoc],h.base,h.dump,h.su,h.sm,h.mu,h.mm,h.state,h.kind,h.text⟩,h.code,h.at_⟩
theorem Sim.addN(h:Sim gs t b m)(n:Nat):Sim gs t (rMakeN n b) (addN n m):=by
 induction n with
 |zero=>exact h
 |succ n ih=>exact ih.add _
theorem Sim.roomY(h:Sim gs t b m){n:Int}(hr:rRoomB n b=true):Sim gs t (rRoomS n b) (roomS n m):=by
 unfold rRoomS roomS;rw[room_sim h,hr];exact⟨⟨h.cells,h.stack,h.base,h.dump,h.su,h.sm,by show m.mu+n=b.used+n;rw[h.mu],h.mm,h.state,h.kind,h.text⟩,h.code,h.at_⟩
theorem stop_sim(hl:b.ended=false)(h:Sim gs t b m)(k:Int):SimR gs t (rEnd k b,none) (stopS k m):=simE_of hl rfl rfl h.su h.sm h.mu h.mm h.text
theorem stopP_sim(hl:b.ended=false){p:List Int}(h:Sim gs t (rStk p b) m)(k:Int):SimR gs t (rEnd k b,none) (stopS k m):=simE_of hl rfl rfl h.su h.sm h.mu h.mm h.text
theorem roomN_sim(hl:b.ended=false)(h:Sim gs t b m){n:Int}(hr:rRoomB n b=false):SimR gs t (rEnd 2 b,none) (roomS n m):=by
 unfold roomS;rw[room_sim h,hr];exact stop_sim hl h 2
theorem room_live{n:Int}(hl:b.ended=false)(hr:rRoomB n b=true):(rRoomS n b).ended=false:=by
 unfold rRoomS;rw[hr];exact hl
theorem put_sim(hl:b.ended=false){p:List Int}(h:Sim gs t (rStk p b) m)(x:MCl):SimR gs t (if rRoomB 1 b then rMake x (rStk p (rRoomS 1 b)) else rEnd 2 b,none) (putS x m):=by
 have e:roomB 1 m=rRoomB 1 b:=room_sim h 1;unfold putS;rw[e];cases hr:rRoomB 1 b with
 |true=>
  have h1:=(h.roomY (n:=1) hr).add x;have e2:rRoomS 1 (rStk p b)=rStk p (rRoomS 1 b):=by
   unfold rRoomS;rw[show rRoomB 1 (rStk p b)=rRoomB 1 b from rfl,hr];rfl
  rw[e2]at h1;exact simA_of (room_live hl hr) h1
 |false=>
  have e2:roomS 1 m=stopS 2 m:=by
   unfold roomS;rw[e,hr];rfl
  rw[if_neg (by simp),if_neg (by simp),e2];exact stopP_sim hl h 2
theorem alloc_sim(hl:b.ended=false)(h:Sim gs t b m)(n:Nat):SimR gs t (if rRoomB n b then rMakeN n (rRoomS n b) else rEnd 2 b,none) (allocS n m):=by
 unfold allocS;rw[room_sim h];cases hr:rRoomB (n:Int) b with
 |true=>
  refine simA_of ?_ ((h.roomY hr).addN n);rw[if_pos rfl,rMakeN_eq];exact room_live hl hr
 |false=>exact roomN_sim hl h hr
theorem cat_sim(h:Sim gs t b m)(r:Int):(m.cells[r.toNat]?).getD ⟨0,0,0,0,[]⟩=cAt b r:=by
 unfold cAt;rw[h.cells]
theorem split_sim(hl:b.ended=false)(h:Sim gs t b m)(n:Int)(hp:0<b.now.s.length):SimR gs t (rSplit n b,none) (splitS n ((b.now.s.getLast?).getD 0) m):=by
 unfold splitS rSplit;simp only[cat_sim h];have h1:=h.drop (n:=1) hp;split
 ·exact stopP_sim hl h1 3
 ·refine simA_of hl (h.stk (l:=_) ?_);rw[h1.stack,List.dropLast_eq_take];show flat b++_++_=_;rw[List.append_assoc];rfl
theorem fork_sim(hl:b.ended=false)(h:Sim gs t b m)(al:List LAlt)(hp:0<b.now.s.length):SimR gs t (rFork al b,none) (forkS al m):=by
 obtain⟨e,-⟩:=topC_sim h.toSim0 hp;unfold forkS rFork;simp only[e];split
 ·exact stop_sim hl h 3
 ·cases al.find? (λa=>decide (a.tag=(cAt b ((b.now.s.getLast?).getD 0)).n)) with
  |some x=>exact simA_of hl ⟨⟨h.cells,h.stack,h.base,h.dump,h.su,h.sm,h.mu,h.mm,h.state,h.kind,h.text⟩,h.code,rfl⟩
  |none=>exact stop_sim hl h 4
theorem drop2_sim(h:Sim gs t b m)(hp:2<=b.now.s.length):Sim gs t (rStk (b.now.s.take (b.now.s.length-2)) b) (dropS 1 (dropS 1 m)):=by
 have h1:=h.drop (n:=1) (by omega);have h2:=h1.drop (n:=1) (by show 1<=(b.now.s.take (b.now.s.length-1)).length;rw[List.length_take];omega);have e:(rStk (b.now.s.take (b.now.s.length-1)) b).now.s.take ((rStk (b.now.s.take (b.now.s.length-1)) b).now.s.length-1)=b.now.s.take (b.now.s.length-2):=by
  show(b.now.s.take (b.now.s.length-1)).take ((b.now.s.take (b.now.s.length-1)).length-1)=_;rw[List.length_take,List.take_take];congr 1
  omega
 rw[e]at h2;exact h2
theorem cal_sim(hl:b.ended=false)(h:Sim gs t b m)(op:Int)(l r:MCl)(hp:2<=b.now.s.length):SimR gs t (rReck op (b.now.s.take (b.now.s.length-2)) l r b,none) (calS op l r m):=by
 have h2:=drop2_sim h hp;unfold calS rReck;split
 ·exact stopP_sim hl h2 3
 ·split
  ·exact stopP_sim hl h2 6
  ·have:=put_sim hl h2 (rkC op l.n r.n);cases hr:rRoomB 1 b with
   |true=>rw[hr]at this;exact this
   |false=>rw[hr]at this;exact this
theorem upd_sim(hl:b.ended=false)(h:Sim gs t b m){r:Nat}{x:Int}(hp:1<=b.now.s.length):SimR gs t (rStk (b.now.s.take (b.now.s.length-1)) {b with cells:=b.cells.set r ⟨5,0,x,0,[]⟩},none) (updS r x (dropS 1 m)):=by
 have h1:=h.drop (n:=1) hp;exact simA_of hl ⟨⟨by show m.cells.set r _=b.cells.set r _;rw[h.cells],h1.stack,h.base,h.dump,h.su,h.sm,h.mu,h.mm,h.state,h.kind,h.text⟩,h.code,h.at_⟩
theorem eval_sim(h:Sim gs t b m)(hp:0<b.now.s.length):Sim0 gs t (rEval b) (evalS m):=by
 have hs:b.now.s.dropLast++[(b.now.s.getLast?).getD 0]=b.now.s:=by
  have hne:b.now.s≠[]:=by intro e;rw[e]at hp;simp at hp
  rw[List.getLast?_eq_some_getLast hne];exact List.dropLast_concat_getLast hne
 have hf:flat (rEval b)=flat b++b.now.s.dropLast:=by unfold flat rEval;simp
 refine⟨h.cells,?_,?_,?_,h.su,h.sm,h.mu,h.mm,h.state,h.kind,h.text⟩
 ·show m.stack=flat (rEval b)++[(b.now.s.getLast?).getD 0];rw[hf,List.append_assoc,hs,h.stack]
 ·show(m.stack.length:Int)-1=((flat (rEval b)).length:Int);rw[hf,h.stack];simp;omega
 ·show m.dump++[m.fr]=frs gs 0 (b.dump++[{b.now with s:=b.now.s.dropLast}]);rw[frs_snoc,h.dump];have e:m.fr=⟨m.fr.base,m.fr.code,m.fr.at_⟩:=rfl;rw[e,h.base,h.code,h.at_];unfold flat;simp
theorem aDo_ins(hb:rStepB a=true){i:LIns}(he:iAt gs a=i)(h1:i.op≠19)(h2:i.op≠8):aDo gs a=(rDoes i (rNext a),none):=by
 unfold aDo;rw[if_pos hb,he];simp only;rw[if_neg h1,if_neg h2]
end
section
variable {gs:List LGlob} {D:Nat->Nat->Int} {t:List UInt8} {a b:ASt} {m:MSt}
theorem last1(s:List Int)(h:1<=s.length):s=s.take (s.length-1)++[(s[s.length-1]?).getD 0]:=by
 rcases List.eq_nil_or_concat s with rfl|⟨l,x,rfl⟩
 ·simp at h
 ·simp
theorem last2(s:List Int)(h:2<=s.length):s=s.take (s.length-2)++[(s[s.length-2]?).getD 0,(s[s.length-1]?).getD 0]:=by
 rcases List.eq_nil_or_concat s with rfl|⟨l,x,rfl⟩
 ·simp at h
 ·rcases List.eq_nil_or_concat l with rfl|⟨l,y,rfl⟩
  ·simp at h
  ·simp
theorem put_sim0(hl:b.ended=false)(h:Sim gs t b m)(x:MCl):SimR gs t (if rRoomB 1 b then rMake x (rRoomS 1 b) else rEnd 2 b,none) (putS x m):=by
 unfold putS;rw[room_sim h];cases hr:rRoomB 1 b with
 |true=>exact simA_of (room_live hl hr) ((h.roomY hr).add x)
 |false=>exact roomN_sim hl h hr
theorem pack_sim(hl:b.ended=false)(h:Sim gs t b m)(tag:Int)(n:Nat)(hn:n<=b.now.s.length):SimR gs t (if rRoomB 1 b then rMake ⟨3,tag,0,0,b.now.s.drop (b.now.s.length-n)⟩ (rStk (b.now.s.take (b.now.s.length-n)) (rRoomS 1 b)) else rEnd 2 b,none) (packS tag n m):=by
 unfold packS;have e:m.stack.drop (m.stack.length-n)=b.now.s.drop (b.now.s.length-n):=by rw[h.stack,drop_flat _ _ _ hn]
 rw[e];exact put_sim hl (h.drop hn) _
theorem slide_sim(hl:b.ended=false)(h:Sim gs t b m)(j:Nat)(hn:j+1<=b.now.s.length)(x:Int):SimR gs t (rStk (b.now.s.take (b.now.s.length-1-j)++[x]) b,none) (pushS x (dropS j (dropS 1 m))):=by
 have h1:=h.drop (n:=1) (by omega);have h2:=h1.drop (n:=j) (by show j<=(b.now.s.take (b.now.s.length-1)).length;rw[List.length_take];omega);have h3:=h2.push x;have e:(b.now.s.take (b.now.s.length-1)).take ((b.now.s.take (b.now.s.length-1)).length-j)=b.now.s.take (b.now.s.length-1-j):=by
  rw[List.length_take,List.take_take];congr 1
  omega
 refine simA_of hl ?_;have h4:Sim gs t (rStk ((b.now.s.take (b.now.s.length-1)).take ((b.now.s.take (b.now.s.length-1)).length-j)++[x]) b) (pushS x (dropS j (dropS 1 m))):=h3;rw[e]at h4;exact h4
theorem simA_at(hl:b.ended=false)(h:Sim gs t b m)(k:Int):SimR gs t ({b with now:={b.now with at_:=k}},none) {m with fr:={m.fr with at_:=k}}:=
 simA_of hl ⟨⟨h.cells,h.stack,h.base,h.dump,h.su,h.sm,h.mu,h.mm,h.state,h.kind,h.text⟩,h.code,rfl⟩
end
section
variable {lo:Nat} {w:World} {M Pb:Nat} {m:MSt} {B:List Nat} {gs:List LGlob} {D:Nat->Nat->Int} {t:List UInt8} {a:ASt} {gp:Option Addr} {gc:Nat} {G:Nat->Int×Option Addr×Nat×Nat}
theorem sim_mtr(hs:Sim gs t a m)(hw:WfB gs a):Mtr m:=⟨by rw[hs.su,hs.sm];exact hw.steps,by rw[hs.sm];exact hw.fuel,by rw[hs.mu,hs.mm];exact hw.used,by rw[hs.mm];exact hw.spare⟩
theorem mtr_step(hm:Mtr m)(hsb:stepB m=true):Mtr (nextS (stepS m)):=by
 rw[stepS_ok hsb];have h1:1<=m.sm-m.su:=by simpa[stepB]using hsb
 have:=hm.su;exact⟨by simp only[nextS];omega,hm.sm,hm.mu,hm.mm⟩
structure Bnds (m:MSt):Prop where
 s:m.stack.length<=520000000
 c:m.cells.length<=3000000
 d:m.dump.length<=3000000
theorem frs_len(gs:List LGlob):∀(l:List AFr) (n:Nat),(frs gs n l).length=l.length
 |[],_=>rfl
 |f::r,n=>by rw[frs,List.length_cons,frs_len gs r,List.length_cons]
theorem sim_bnds(hG:ImgOk gs D)(h0:Sim0 gs t a m)(hw:WfS gs D a):Bnds m:=by
 have h1:=hw.size;have h2:=hw.b.steps;have h3:=hw.b.fuel;have h4:=hw.b.used;have h5:=hw.b.spare;have h6:=hw.b.nc;have h7:=hG.few;have h8:=hw.dl;refine⟨?_,?_,?_⟩
 ·rw[h0.stack,List.length_append];omega
 ·rw[h0.cells];omega
 ·rw[h0.dump,frs_len];omega
theorem sim_wf(hG:ImgOk gs D)(h0:Sim0 gs t a m)(hw:WfC gs D a):Wf gs.length m:=by
 have hB:=sim_bnds hG h0 hw.toWfS;have hb:=hB.s;have h2:=hw.b.steps;have h3:=hw.b.fuel;have hne:=hw.ne;refine⟨?_,?_,?_,?_,?_,by have:=hB.c;omega,?_⟩
 ·rw[h0.stack];intro e;have:=congrArg List.length e;rw[List.length_append,List.length_nil]at this;omega
 ·rw[h0.stack,h0.cells];intro r hr;rcases List.mem_append.1 hr with hr|hr
  ·obtain⟨f,hf,hrf⟩:=List.mem_flatMap.1 hr;exact(hw.ds f hf).1 r hrf
  ·exact hw.s r hr
 ·rw[h0.cells];intro x hx;have hc:=hw.b.cells x hx;exact⟨hc.l,hc.g,hc.k⟩
 ·rw[h0.base,h0.stack,List.length_append];omega
 ·rw[h0.sm,h0.su];omega
 ·exact⟨by rw[h0.su,h0.sm];exact h2,by rw[h0.sm];exact h3,by rw[h0.mu,h0.mm];exact hw.b.used,by rw[h0.mm];exact hw.b.spare⟩
theorem look_both(hG:ImgOk gs D)(hP:ImG lo w Pb gs gp gc G)(h:MM lo w M Pb m B)(h0:Sim0 gs t a m)(hw:WfC gs D a):Calls Tryz.prog 224 #[.pointer (some ⟨M,0,none⟩)] w λe w'=>∃m',SimR gs t (aLookF gs a) m'∧MRes lo M Pb B w m' (.tuple #[]) e w':=by
 refine(lookG h hP (sim_wf hG h0 hw) (by have:=(sim_bnds hG h0 hw.toWfS).d;omega)).mono λe w' hr=>⟨_,?_,hr⟩;have:=look_sim hG (a.fuel-a.steps).toNat hw h0 rfl;unfold lookM aLookF;rw[h0.sm,h0.su];exact this
end
section
variable {lo:Nat} {w:World} {M Pb:Nat} {m:MSt} {B:List Nat} {gs:List LGlob} {D:Nat->Nat->Int} {t:List UInt8} {a:ASt} {gp:Option Addr} {gc:Nat} {G:Nat->Int×Option Addr×Nat×Nat}
def DoR(lo M Pb:Nat)(B:List Nat)(w:World)(gs:List LGlob)(t:List UInt8)(r:AR)(w':World):Prop:=∃m',SimR gs t r m'∧MRes lo M Pb B w m' (.tuple #[]) (.returned (.tuple #[])) w'
theorem do_fin{B':List Nat}{w' w'':World}{r:AR}{m':MSt}{e:Ending}(hA:AG B w w')(hB:∀b∈B',b∈B∨w.heap.size<=b)(hr:MRes lo M Pb B' w' m' (.tuple #[]) e w'')(hs:SimR gs t r m'):e=.returned (.tuple #[])∧Hid (DoR lo M Pb B w gs t r w''):=by
 have he:=hr.1;exact⟨he,m',hs,hr.of hA hB rfl⟩
theorem do_any(hG:ImgOk gs D)(hP:ImG lo w Pb gs gp gc G)(h:MM lo w M Pb m B)(hs:Sim gs t a m)(hw:WfA gs D a):
 Calls Tryz.prog 225 #[.pointer (some ⟨M,0,none⟩)] w λe w'=>∃m',SimR gs t (aDo gs a) m'∧MRes lo M Pb B w m' (.tuple #[]) e w':=by
 have hmt:=sim_mtr hs hw.b;have hsb:=step_sim hw.b hs.su hs.sm;cases hb:rStepB a with
 |false=>
  rw[hb]at hsb;refine(do_out h hmt hsb).mono λe w' hr=>⟨_,?_,hr⟩;unfold aDo;rw[hb,(rStep_no hw.b).2 hb];exact stop_sim hw.b.live hs 1
 |true=>
  rw[hb]at hsb;have hne:=(rStep_yes hw.b).1.1 hb;have hI:=at_ins hG hw;have hbn:=sim_bnds hG hs.toSim0 hw.toWfS;have hS:=hs.next hsb;have hm1:=mtr_step hmt hsb;obtain⟨r1,-,-,-⟩:=rest_wf hw;obtain⟨gi,eg⟩:=gAt_eq hw.f.g;have hat:m.fr.at_=((a.now.at_.toNat:Nat):Int):=by rw[hs.at_];have:=hw.f.a.1;omega
  have hk:a.now.at_.toNat<m.fr.code.length:=by rw[hs.code];exact hw.f.a.2
  have hkb:a.now.at_.toNat<=1000000000:=by
   have h1:=hw.f.a.2;rw[eg]at h1;have:=(hG.code _ gi).len;omega
  have hin:m.fr.code[a.now.at_.toNat]=iAt gs a:=by
   unfold iAt;rw[List.getElem?_eq_getElem hw.f.a.2,Option.getD_some];simp only[hs.code]
  have hstk:(nextS (stepS m)).stack=m.stack:=by rw[stepS_ok hsb];rfl
  have hcel:(nextS (stepS m)).cells=m.cells:=by rw[stepS_ok hsb];rfl
  have hms:m.stack=flat a++a.now.s:=hs.stack;have hmc:m.cells=a.cells:=hs.cells;have hml:m.stack.length=(flat a).length+a.now.s.length:=by rw[hms,List.length_append]
  have hB1:=hbn.s;have hB2:=hbn.c;have hB3:=hbn.d;revert hin hI;generalize hi:iAt gs a=i;generalize D a.now.g.toNat a.now.at_.toNat=d;intro hI hin;obtain⟨⟨p0,p1⟩,-⟩:=hI.f;obtain⟨o,ho⟩:∃o:Nat,i.op=(o:Int):=⟨i.op.toNat,by omega⟩;have ho21:o<21:=by omega
  have ho':i.op.toNat=o:=by omega
  obtain⟨a1,a2,a3,a4,a5,a6⟩:=insL_a hI.f ho ho21;have hwr:=hI.w;rw[ho']at hwr;obtain⟨w1,w2⟩:=wr_need hwr;obtain⟨d0,d1,d2⟩:=hI.dl;obtain⟨gl1,gl2⟩:=hI.gl;have hsn:(rNext a).now.s=a.now.s:=rfl;have href:=hw.s;have hnc:=hw.b.nc;have hu0:=hw.b.used;have hgl:gs.length<=a.cells.length:=by omega
  have hgf:=hG.few;by_cases h8:i.op=8
  ·have hp:0<a.now.s.length:=by
    have:o=8:=by omega
    subst this;simp[needR]at w1;omega
   have hwe:=eval_wf hI hw hne h8;have hs0:=eval_sim hS hp;have e8:aDo gs a=aLookF gs (rEval (rNext a)):=by
    unfold aDo;rw[if_pos hb,hi];simp only;rw[if_neg (by omega),if_pos h8]
   rw[e8];exact do8_any (λm'=>SimR gs t (aLookF gs (rEval (rNext a))) m') h hmt hsb hat hk hkb (by rw[hin];exact h8) (by omega) (by omega) (by omega) λw' B' hM hbl=>look_both hG (hP.low hbl) hM hs0 hwe
  ·by_cases h19:i.op=19
   ·have hwu:=unwind_wf hI hw hne h19;have e19:aDo gs a=aLookF gs (rNext a):=by
     unfold aDo;rw[if_pos hb,hi];simp only;rw[if_pos h19]
    rw[e19];have hlow:=h.lows;refine(do_call (DoR lo M Pb B w gs t (aLookF gs (rNext a))) h hmt hsb hat hk hkb (by rw[hin,h19];simp[oneOp]) λw' B' av hM hA hB _=>?_).mono λe w' hr=>?_
    ·rw[hin,h19];refine⟨λh=>by omega,λh=>by omega,λh=>by omega,λh=>by omega,λh=>by omega,λh=>by omega,λh=>by omega,λh=>by omega,λh=>by omega,λ_=>?_,λh=>by omega⟩;refine(look_both hG (hP.low (hA.low hlow.2 hlow.1)) hM hS.toSim0 hwu).mono ?_;rintro e w'' ⟨m',hsm,hr⟩;exact do_fin hA hB hr hsm
    ·obtain⟨rfl,m',h1,h2⟩:=hr;exact⟨m',h1,h2⟩
   ·rw[aDo_ins hb hi h19 h8];by_cases hone:o=2∨o=3∨o=4∨o=5
    ·rcases hone with rfl|rfl|rfl|rfl
     ·simp[needR]at w1;have ha:=a1 (by omega);have hj:m.fr.code[a.now.at_.toNat].a=((i.a.toNat:Nat):Int):=by rw[hin];omega
      have hjl:i.a.toNat<m.stack.length:=by omega
      refine(do2_any h hmt hsb hat hk hkb (by rw[hin];exact ho) (by omega) hj hjl).mono λe w' hr=>⟨_,?_,hr⟩;have e2:rDoes i (rNext a)=rStk (a.now.s++[(a.now.s[a.now.s.length-1-i.a.toNat]?).getD 0]) (rNext a):=by unfold rDoes;rw[ho];rfl
      have ex:m.stack[m.stack.length-1-i.a.toNat]'(by omega)=(a.now.s[a.now.s.length-1-i.a.toNat]?).getD 0:=by
       have:=get_flat (flat a) a.now.s i.a.toNat (by omega);rw[<-hms,List.getElem?_eq_getElem (by omega)]at this;rw[<-this];rfl
      rw[e2,ex];exact simA_of r1 (hS.push _)
     ·simp[needR]at w1;have e3:rDoes i (rNext a)=if rRoomB 1 (rNext a) then rMake ⟨2,0,(a.now.s[a.now.s.length-1]?).getD 0,(a.now.s[a.now.s.length-2]?).getD 0,[]⟩ (rStk (a.now.s.take (a.now.s.length-2)) (rRoomS 1 (rNext a))) else rEnd 2 (rNext a):=by unfold rDoes;rw[ho];rfl
      refine(do34_any h hmt hsb hat hk hkb (by omega) (by omega) _ (Or.inl ⟨by rw[hin];exact ho,flat a++a.now.s.take (a.now.s.length-2),(a.now.s[a.now.s.length-2]?).getD 0,(a.now.s[a.now.s.length-1]?).getD 0,?_,rfl⟩)).mono λe w' hr=>⟨_,?_,hr⟩
      ·rw[hms,List.append_assoc,<-last2 a.now.s (by omega)]
      ·rw[e3];exact put_sim r1 (drop2_sim hS (by show 2<=a.now.s.length;omega)) _
     ·simp[needR]at w1;have ha:=a1 (by omega);have e4:rDoes i (rNext a)=rStk (a.now.s.take (a.now.s.length-1-i.a.toNat)++[(a.now.s[a.now.s.length-1]?).getD 0]) (rNext a):=by unfold rDoes;rw[ho];rfl
      refine(do34_any h hmt hsb hat hk hkb (by omega) (by omega) _ (Or.inr ⟨by rw[hin];exact ho,flat a++a.now.s.take (a.now.s.length-1),(a.now.s[a.now.s.length-1]?).getD 0,i.a.toNat,?_,by rw[hin];omega,?_,rfl⟩)).mono λe w' hr=>⟨_,?_,hr⟩
      ·rw[hms,List.append_assoc,<-last1 a.now.s (by omega)]
      ·rw[List.length_append,List.length_take];omega
      ·rw[e4];exact slide_sim r1 hS i.a.toNat (by show i.a.toNat+1<=a.now.s.length;omega) _
     ·simp[needR]at w1;have ha:=a1 (by omega);have e5:rDoes i (rNext a)=rStk (a.now.s.take (a.now.s.length-1)) {rNext a with cells:=a.cells.set ((a.now.s[a.now.s.length-2-i.a.toNat]?).getD 0).toNat ⟨5,0,(a.now.s[a.now.s.length-1]?).getD 0,0,[]⟩}:=by unfold rDoes;rw[ho];rfl
      have hrr:=href.at (i:=a.now.s.length-2-i.a.toNat) (by omega);refine(do5_any h hmt hsb hat hk hkb (by rw[hin];exact ho) (by omega) (s:=flat a++a.now.s.take (a.now.s.length-1)) (x:=(a.now.s[a.now.s.length-1]?).getD 0) ?_ (j:=i.a.toNat) (r:=((a.now.s[a.now.s.length-2-i.a.toNat]?).getD 0).toNat) (by rw[hin];omega) ?_ ?_ ?_).mono λe w' hr=>⟨_,?_,hr⟩
      ·rw[hms,List.append_assoc,<-last1 a.now.s (by omega)]
      ·rw[List.length_append,List.length_take];omega
      ·rw[get_flat _ _ _ (by rw[List.length_take];omega),List.length_take,List.getElem?_take];rw[if_pos (by omega),show min (a.now.s.length-1) a.now.s.length-1-i.a.toNat=a.now.s.length-2-i.a.toNat by omega];rw[List.getElem?_eq_getElem (by omega)]at hrr ⊢;simp only[Option.getD_some]at hrr ⊢;congr 1
       omega
      ·rw[hmc];omega
      ·rw[e5];exact upd_sim r1 hS (by show 1<=a.now.s.length;omega)
    ·have hoo:oneOp m.fr.code[a.now.at_.toNat].op:=by rw[hin,ho];unfold oneOp;omega
     refine(do_call (DoR lo M Pb B w gs t (rDoes i (rNext a),none)) h hmt hsb hat hk hkb hoo λw' B' av hM hA hB hav=>?_).mono λe w' hr=>?_
     ·rw[hin];have hsl':(nextS (stepS m)).stack.length<=1000000000:=by rw[hstk];omega
      have hcl':(nextS (stepS m)).cells.length<=100000000:=by rw[hcel];omega
      refine⟨λe=>?_,λe=>?_,λe=>?_,λe=>?_,λe=>?_,λe=>?_,λe=>?_,λe=>?_,λe=>?_,λe=>absurd e h19,λe=>?_⟩
      ·have e0:rDoes i (rNext a)=if rRoomB 1 (rNext a) then rMake ⟨1,i.a,0,0,[]⟩ (rRoomS 1 (rNext a)) else rEnd 2 (rNext a):=by unfold rDoes;rw[e];rfl
       refine(put_any2 ⟨1,i.a,0,0,[]⟩ (.slice none 0 0) ⟨none,0,rfl,λi hi=>absurd hi (by simp)⟩ ⟨_,_,_,rfl⟩ hM hm1 (by omega) (by omega)).mono λe' w'' hr=>do_fin hA hB hr ?_;rw[e0];exact put_sim0 r1 hS _
      ·have hga:=gl1 e;refine⟨by rw[IntKind.wrap_i32];omega,(push_any i.a hM (by omega)).mono λe' w'' hr=>do_fin hA hB hr ?_⟩;have e0:rDoes i (rNext a)=rStk (a.now.s++[i.a]) (rNext a):=by unfold rDoes;rw[e];rfl
       rw[e0];exact simA_of r1 (hS.push i.a)
      ·obtain rfl:o=6:=by omega
       simp[needR]at w1;have ha:=a1 (by omega);obtain⟨j,hj⟩:∃j:Nat,i.a=(j:Int):=⟨i.a.toNat,by omega⟩;have e0:rDoes i (rNext a)=rStk (a.now.s.take (a.now.s.length-i.a.toNat)) (rNext a):=by unfold rDoes;rw[e];rfl
       rw[hj];refine(drop_any j hM (by rw[hstk];omega) (by omega)).mono λe' w'' hr=>do_fin hA hB hr ?_;rw[e0,hj,Int.toNat_natCast];exact simA_of r1 (hS.drop (n:=j) (by show j<=a.now.s.length;omega))
      ·obtain rfl:o=7:=by omega
       have ha:=a1 (by omega);obtain⟨j,hj⟩:∃j:Nat,i.a=(j:Int):=⟨i.a.toNat,by omega⟩;have e0:rDoes i (rNext a)=if rRoomB i.a (rNext a) then rMakeN i.a.toNat (rRoomS i.a (rNext a)) else rEnd 2 (rNext a):=by unfold rDoes;rw[e];rfl
       rw[e0,hj,Int.toNat_natCast];exact(alloc_any j (by omega) hM hm1 (by omega) (by omega)).mono λe' w'' hr=>do_fin hA hB hr (alloc_sim r1 hS j)
      ·have hn2:2<=a.now.s.length:=by
        have:needR o i.a=2:=by unfold needR;rw[if_neg (by omega),if_neg (by omega),if_neg (by omega),if_neg (by omega),if_neg (by omega),if_neg (by omega),if_neg (by omega),if_neg (by omega),if_neg (by omega),if_neg (by omega)]
        omega
       have t1:=href.at (i:=a.now.s.length-1) (by omega);have t2:=href.at (i:=a.now.s.length-2) (by omega);have e0:rDoes i (rNext a)=rReck i.op (a.now.s.take (a.now.s.length-2)) (cAt a ((a.now.s[a.now.s.length-2]?).getD 0)) (cAt a ((a.now.s[a.now.s.length-1]?).getD 0)) (rNext a):=by
        unfold rDoes;rw[if_neg (by omega),if_neg (by omega),if_neg (by omega),if_neg (by omega),if_neg (by omega),if_neg (by omega),if_neg (by omega),if_neg (by omega),if_neg (by omega),if_neg (by omega),if_neg (by omega),if_neg (by omega),if_neg (by omega)];rfl
       obtain⟨x,hx⟩:∃x:Nat,(a.now.s[a.now.s.length-2]?).getD 0=(x:Int):=⟨((a.now.s[a.now.s.length-2]?).getD 0).toNat,by omega⟩;obtain⟨y,hy⟩:∃y:Nat,(a.now.s[a.now.s.length-1]?).getD 0=(y:Int):=⟨((a.now.s[a.now.s.length-1]?).getD 0).toNat,by omega⟩;rw[hx]at t2 e0;rw[hy]at t1 e0;have hx':x<(nextS (stepS m)).cells.length:=by rw[hcel,hmc];omega
       have hy':y<(nextS (stepS m)).cells.length:=by rw[hcel,hmc];omega
       refine(calculate_any i.op e hM hm1 (by omega) (by omega) (s:=flat a++a.now.s.take (a.now.s.length-2)) (x:=x) (y:=y) ?_ hx' hy').mono λe' w'' hr=>do_fin hA hB hr ?_
       ·rw[hstk,hms,List.append_assoc,<-hx,<-hy,<-last2 a.now.s hn2]
       ·rw[e0];have c1:(nextS (stepS m)).cells[x]=cAt a (x:Int):=by
         unfold cAt;rw[Int.toNat_natCast];simp only[hcel,hmc];rw[List.getElem?_eq_getElem (by omega)];rfl
        have c2:(nextS (stepS m)).cells[y]=cAt a (y:Int):=by
         unfold cAt;rw[Int.toNat_natCast];simp only[hcel,hmc];rw[List.getElem?_eq_getElem (by omega)];rfl
        rw[c1,c2];exact cal_sim r1 hS i.op _ _ hn2
      ·obtain rfl:o=15:=by omega
       simp[needR]at w1;have ha:=a1 (by omega);obtain⟨n,hn⟩:∃n:Nat,i.a % 256=(n:Int):=⟨(i.a % 256).toNat,by omega⟩;have e0:rDoes i (rNext a)=if rRoomB 1 (rNext a) then rMake ⟨3,i.a / 256,0,0,a.now.s.drop (a.now.s.length-(i.a % 256).toNat)⟩ (rStk (a.now.s.take (a.now.s.length-(i.a % 256).toNat)) (rRoomS 1 (rNext a))) else rEnd 2 (rNext a):=by unfold rDoes;rw[e];rfl
       have et:i.a.tdiv 256=i.a / 256:=Int.tdiv_eq_ediv_of_nonneg ha.1;refine⟨by omega,?_⟩;rw[et,e0,hn,Int.toNat_natCast];have hps:=pack_sim r1 hS (i.a / 256) n (by show n<=a.now.s.length;omega);by_cases hz:m.stack.length=0
       ·have hn0:n=0:=by omega
        subst hn0;exact(pack0_any (i.a / 256) hM hm1 (by omega) (by rw[hstk];exact List.eq_nil_of_length_eq_zero hz)).mono λe' w'' hr=>do_fin hA hB hr hps
       ·exact(pack_any (i.a / 256) n (by omega) hM hm1 (by omega) (by omega) (by rw[hstk];omega) (by rw[hstk];omega)).mono λe' w'' hr=>do_fin hA hB hr hps
      ·obtain rfl:o=16:=by omega
       simp[needR]at w1;have t1:=href.at (i:=a.now.s.length-1) (by omega);have e0:rDoes i (rNext a)=rSplit i.a (rNext a):=by unfold rDoes;rw[e];rfl
       obtain⟨y,hy⟩:∃y:Nat,(a.now.s[a.now.s.length-1]?).getD 0=(y:Int):=⟨((a.now.s[a.now.s.length-1]?).getD 0).toNat,by omega⟩;rw[hy]at t1;have hy':y<(nextS (stepS m)).cells.length:=by rw[hcel,hmc];omega
       have hgl2:((rNext a).now.s.getLast?).getD 0=(y:Int):=by rw[List.getLast?_eq_getElem?];exact hy
       have hss:=split_sim r1 hS i.a (by show 0<a.now.s.length;omega);rw[hgl2]at hss;refine(split_any i.a hM (by omega) (s:=flat a++a.now.s.take (a.now.s.length-1)) (r:=y) ?_ hy' ?_).mono λe' w'' hr=>do_fin hA hB hr ?_
       ·rw[hstk,hms,List.append_assoc,<-hy,<-last1 a.now.s (by omega)]
       ·have hy2:y<a.cells.length:=by omega
        have:=(hw.b.cells a.cells[y] (List.getElem_mem hy2)).fl;simp only[hcel,hmc];omega
       ·rw[e0];exact hss
      ·obtain rfl:o=17:=by omega
       simp[needR]at w1;have t1:=href.at (i:=a.now.s.length-1) (by omega);have e0:rDoes i (rNext a)=rFork i.alts (rNext a):=by unfold rDoes;rw[e];rfl
       obtain⟨y,hy⟩:∃y:Nat,(a.now.s[a.now.s.length-1]?).getD 0=(y:Int):=⟨((a.now.s[a.now.s.length-1]?).getD 0).toNat,by omega⟩;rw[hy]at t1;have hy':y<(nextS (stepS m)).cells.length:=by rw[hcel,hmc];omega
       have hal:AlM lo w' av i.alts:=by
        obtain⟨b,n,c,k4,kav⟩:=hav;obtain⟨cs,ds,cv,sv,kv,dv,tv,hMM,-⟩:=hM;have hcd:=hMM.cd;have hk4:=hMM.m.at 4 rfl;have hcode:(nextS (stepS m)).fr.code=m.fr.code:=by rw[stepS_ok hsb];rfl
        rw[hcode]at hcd;obtain⟨b',av',-,ekv,kav',hal⟩:=hcd.alts hk;rw[hk4,ekv]at k4;cases k4;rw[kav']at kav;cases kav;rw[hin]at hal;exact hal
       obtain⟨hlen,hgood⟩:=insL_good hI.f;refine(fork_any i.alts av hal (λx hx=>?_) (by omega) hM (by omega) (s:=flat a++a.now.s.take (a.now.s.length-1)) (r:=y) ?_ hy').mono λe' w'' hr=>do_fin hA hB hr ?_
       ·have:=hgood x hx;omega
       ·rw[hstk,hms,List.append_assoc,<-hy,<-last1 a.now.s (by omega)]
       ·rw[e0];exact fork_sim r1 hS i.alts (by show 0<a.now.s.length;omega)
      ·have e0:rDoes i (rNext a)={rNext a with now:={(rNext a).now with at_:=i.a}}:=by unfold rDoes;rw[e];rfl
       obtain⟨cs,ds,cv,sv,kv,dv,tv,hMM,hBe⟩:=hM;refine⟨⟨_,hMM.m.at 5 rfl⟩,hMM.m.fz 5,{nextS (stepS m) with fr:={(nextS (stepS m)).fr with at_:=i.a}},by rw[e0];exact simA_at r1 hS i.a,rfl,hA.set ?_ _,B',⟨cs,ds,cv,sv,kv,dv,tv,hMM.setM (i:=5) rfl (by omega) rfl rfl rfl rfl hMM.cd,hBe⟩,hB⟩;exact hB M (by rw[hBe];exact List.mem_cons_self ..)
      ·have e0:rDoes i (rNext a)=rEnd 4 (rNext a):=by unfold rDoes;rw[e];rfl
       exact(stop_any 4 hM).mono λe' w'' hr=>do_fin hA hB hr (by rw[e0];exact stop_sim r1 hS 4)
     ·obtain⟨rfl,m',h1,h2⟩:=hr;exact⟨m',h1,h2⟩
end
section
variable {gs:List LGlob} {D:Nat->Nat->Int} {st:ASt}
theorem rEnd_cl(k:Int)(st:ASt):(rEnd k st).cells=st.cells:=by unfold rEnd;split<;>rfl
theorem rRoomS_cl(n:Int)(s:ASt):(rRoomS n s).cells=s.cells:=by
 unfold rRoomS;exact ite_P (P:=λt=>t.cells=s.cells) rfl (rEnd_cl _ _)
theorem rMake_cl(x:MCl)(s:ASt):s.cells.length<=(rMake x s).cells.length:=by
 show _<=(s.cells++[x]).length;simp
theorem rMakeN_cl:∀(n:Nat) (s:ASt),s.cells.length<=(rMakeN n s).cells.length
 |0,_=>Nat.le_refl _
 |n+1,s=>Nat.le_trans (rMakeN_cl n s) (rMake_cl _ _)
theorem rSplit_cl(n:Int)(s:ASt):(rSplit n s).cells=s.cells:=by
 unfold rSplit;exact ite_P (P:=λt=>t.cells=s.cells) (rEnd_cl _ _) rfl
theorem rFork_cl(l:List LAlt)(s:ASt):(rFork l s).cells=s.cells:=by
 unfold rFork;refine ite_P (P:=λt=>t.cells=s.cells) (rEnd_cl _ _) ?_;cases l.find? _ with
 |none=>exact rEnd_cl _ _
 |some a=>rfl
theorem rMakeR_cl(x:MCl)(s t:ASt)(h:t.cells=s.cells):s.cells.length<=(rMake x t).cells.length:=h▸rMake_cl x t
theorem rDoes_cl(i:LIns)(s:ASt):s.cells.length<=(rDoes i s).cells.length:=by
 unfold rDoes rReck;have l1:∀{t:ASt},t.cells=s.cells->s.cells.length<=t.cells.length:=λe=>by rw[e];exact Nat.le_refl _
 repeat' (first|exact l1 (rEnd_cl _ _)|exact l1 (rSplit_cl _ _)|exact l1 (rFork_cl _ _)|exact rMakeR_cl _ _ _ (rRoomS_cl _ _)|exact Nat.le_trans (l1 (rRoomS_cl _ _)) (rMakeN_cl _ _)|refine ite_P (P:=λt=>s.cells.length<=t.cells.length) ?_ ?_|exact l1 rfl|(show _<=(List.set _ _ _).length;rw[List.length_set];exact Nat.le_refl _))
theorem rVal_cl(v:Int)(st:ASt):(rVal v st).1.cells=st.cells:=by unfold rVal;split<;>rfl
theorem rEnter_cl(g:Int)(st:ASt):(rEnter gs g st).cells=st.cells:=by
 unfold rEnter;exact ite_P (P:=λt=>t.cells=st.cells) rfl (rEnd_cl _ _)
theorem rStepS_cl(st:ASt):(rStepS st).cells=st.cells:=by
 unfold rStepS;exact ite_P (P:=λt=>t.cells=st.cells) (rEnd_cl _ _) (ite_P (P:=λt=>t.cells=st.cells) rfl rfl)
theorem aLook_cl:∀(n:Nat) (st:ASt),(aLook gs n st).1.cells=st.cells
 |0,st=>rStepS_cl st
 |n+1,st=>by
  rw[aLook];simp only;split
  ·split
   ·exact aLook_cl n _
   ·split
    ·exact aLook_cl n _
    ·split
     ·exact rEnd_cl _ _
     ·split
      ·split
       ·exact rEnter_cl _ _
       ·exact rVal_cl _ _
      ·split
       ·exact rEnd_cl _ _
       ·exact rVal_cl _ _
  ·exact rStepS_cl st
theorem aDo_cl(st:ASt):st.cells.length<=(aDo gs st).1.cells.length:=by
 unfold aDo;split
 ·simp only;split
  ·exact Nat.le_of_eq (congrArg List.length (aLook_cl (gs:=gs) _ (rNext st)).symm)
  ·split
   ·exact Nat.le_of_eq (congrArg List.length (aLook_cl (gs:=gs) _ (rEval (rNext st))).symm)
   ·exact rDoes_cl _ (rNext st)
 ·exact Nat.le_of_eq (congrArg List.length (rStepS_cl st).symm)
theorem aGo_cl:∀(n:Nat) (r:AR),r.1.cells.length<=(aGo gs n r).1.cells.length
 |0,_=>Nat.le_refl _
 |n+1,(st,none)=>by
  rw[aGo];split
  ·exact Nat.le_refl _
  ·exact Nat.le_trans (aDo_cl st) (aGo_cl n _)
 |n+1,(st,some v)=>Nat.le_refl _
theorem aWork_cl(c:Int)(st:ASt):st.cells.length<=(aWork gs c st).1.cells.length:=Nat.le_trans (Nat.le_of_eq (congrArg List.length (aLook_cl (gs:=gs) _ (aBegin c st)).symm)) (aGo_cl _ _)
abbrev TD:=List UInt8×Int
def tPiece(x:MCl):List UInt8:=if x.kind=1 then Lib.itoa x.n else if x.kind=3 then 40::Lib.itoa x.n else [102,117,110]
def tFl(l:List Int):List TD:=l.flatMap λf=>[([32],-1),([],f)]
def tMore(x:MCl):List TD:=if x.kind=3 then tFl x.fields.reverse++[([41],-1)] else []
abbrev TRes:=ASt×Option (List UInt8)
def tSay(s:List UInt8)(a:ASt)(t:List UInt8)(k:List UInt8->TRes):TRes:=if t.length+s.length<=2000 then k (t++s) else (rEnd 8 a,none)
def tVal(gs:List LGlob)(c:Int)(a:ASt):ASt×Option MCl:=
 let r:=aWork gs c a
 if rStepB r.1 then ({r.1 with steps:=r.1.steps+1},some (cAt r.1 (r.2.getD 0))) else (rStepS r.1,none)
def tTodo(gs:List LGlob):Nat->List TD->ASt->List UInt8->TRes
 |_,[],a,t=>(a,some t)
 |0,_::_,a,_=>(a,none)
 |n+1,(s,c)::L,a,t=>
  if 0<=c then match tVal gs c a with
   |(a1,some x)=>tSay (tPiece x) a1 t λt'=>tTodo gs n (tMore x++L) a1 t'
   |(a1,none)=>(a1,none)
  else tSay s a t λt'=>tTodo gs n L a t'
def tM(L:List TD)(a:ASt):Nat:=1000*mu a+L.length
def TdOk(L:List TD)(a:ASt):Prop:=∀p∈L,p.2<(a.cells.length:Int)
theorem tFl_len:∀l:List Int,(tFl l).length=2*l.length
 |[]=>rfl
 |x::l=>by
  have:=tFl_len l;show(_::_::tFl l).length=2*(x::l).length;simp only[List.length_cons,this];omega
theorem tMore_len{ng nc:Nat}{x:MCl}(h:CellOk ng nc x):(tMore x).length<=511:=by
 have:=h.fl;unfold tMore;split
 ·rw[List.length_append,tFl_len,List.length_reverse];simp;omega
 ·simp
theorem tMore_ok{ng nc:Nat}{x:MCl}(h:CellOk ng nc x):∀p∈tMore x,p.2<(nc:Int):=by
 intro p hp;have h0:(-1:Int)<(nc:Int):=by omega
 unfold tMore at hp;split at hp
 ·rcases List.mem_append.1 hp with hp|hp
  ·obtain⟨f,hf,hp⟩:=List.mem_flatMap.1 hp;simp only[List.mem_cons,List.not_mem_nil,or_false]at hp;rcases hp with rfl|rfl
   ·exact h0
   ·exact(h.f f (List.mem_reverse.1 hf)).2
  ·rw[List.mem_singleton.1 hp];exact h0
 ·cases hp
theorem WfB.step(h:WfB gs st)(hb:rStepB st=true):WfB gs {st with steps:=st.steps+1}:=by
 have h1:=h.steps;have h2:=(rStep_yes h).2 hb;exact⟨h.cells,h.nc,⟨by show 0<=st.steps+1;omega,by show st.steps+1<=st.fuel;omega⟩,h.fuel,h.used,h.spare,h.live⟩
theorem tVal_ok(hG:ImgOk gs D)(h:WfB gs st){c:Int}(hc:0<=c∧c<(st.cells.length:Int)):
 (∃x v,aWork gs c st=({(tVal gs c st).1 with steps:=(tVal gs c st).1.steps-1},some v)∧rStepB (aWork gs c st).1=true∧0<=v∧v<((aWork gs c st).1.cells.length:Int)∧x=cAt (aWork gs c st).1 v∧tVal gs c st=((tVal gs c st).1,some x)∧WfB gs (tVal gs c st).1∧st.cells.length<=(tVal gs c st).1.cells.length∧mu (tVal gs c st).1+1<=mu st∧CellOk gs.length (tVal gs c st).1.cells.length x)∨
 (tVal gs c st=(rStepS (aWork gs c st).1,none)∧rStepB (aWork gs c st).1=false∧(rStepS (aWork gs c st).1).ended=true):=by
 obtain⟨-,hR,hE⟩:=aWork_end hG h hc;have hcl:=aWork_cl (gs:=gs) c st;unfold tVal;generalize aWork gs c st=r at*;obtain⟨a,o⟩:=r;simp only at*;cases hb:rStepB a with
 |false=>
  right
  refine⟨rfl,rfl,?_⟩;unfold rStepB at hb;unfold rStepS rEnd;cases he:a.ended with
  |true=>split<;>simp[he]
  |false=>
   rw[he]at hb;simp only[Bool.not_false,Bool.true_and,decide_eq_false_iff_not,Decidable.not_not]at hb;rw[if_pos hb];rfl
 |true=>
  left
  have hl:a.ended=false:=by
   unfold rStepB at hb;simp only[Bool.and_eq_true,Bool.not_eq_true']at hb;exact hb.1
  cases o with
  |none=>
   rcases hE with h1|h1
   ·exact absurd rfl h1
   ·rw[hl]at h1;cases h1
  |some v=>
   obtain⟨⟨e1,e2,e3⟩,hw,hv⟩:=hR;have hlt:=(rStep_yes hw).2 hb;have hs:=h.steps;refine⟨cAt a v,v,?_,rfl,hv.1,hv.2,rfl,rfl,hw.step hb,hcl,?_,?_⟩
   ·simp
   ·show(a.fuel-(a.steps+1)).toNat+1<=(st.fuel-st.steps).toNat;have f1:a.fuel=st.fuel:=e1;have f3:st.steps<=a.steps:=e3;have f4:a.steps<a.fuel:=hlt;omega
   ·refine hw.cells _ ?_;have hv1:=hv.1;have hv3:=hv.2;have hv2:v.toNat<a.cells.length:=by simp only at hv3;omega
    unfold cAt;rw[List.getElem?_eq_getElem hv2];exact List.getElem_mem hv2
theorem TdOk.more{x:MCl}{p:TD}{L:List TD}{a a1:ASt}(h:TdOk (p::L) a)(hc:CellOk gs.length a1.cells.length x)(hl:a.cells.length<=a1.cells.length):TdOk (tMore x++L) a1:=by
 intro q hq;rcases List.mem_append.1 hq with hq|hq
 ·exact tMore_ok hc q hq
 ·have:=h q (List.mem_cons_of_mem _ hq);omega
theorem TdOk.tail{p:TD}{L:List TD}{a:ASt}(h:TdOk (p::L) a):TdOk L a:=λq hq=>h q (List.mem_cons_of_mem _ hq)
theorem tSay_congr{s:List UInt8}{a:ASt}{t:List UInt8}{k k':List UInt8->TRes}(h:k (t++s)=k' (t++s)):tSay s a t k=tSay s a t k':=by unfold tSay;rw[h]
theorem tTodo_stable(hG:ImgOk gs D):∀(n k:Nat) {L:List TD} {a:ASt} {t:List UInt8},WfB gs a->TdOk L a->tM L a<=n->tM L a<=k->tTodo gs n L a t=tTodo gs k L a t
 |n,k,[],a,t,_,_,_,_=>by cases n<;>cases k<;>rfl
 |0,_,p::L,a,t,_,_,hn,_=>by unfold tM at hn;simp at hn
 |_+1,0,p::L,a,t,_,_,_,hk=>by unfold tM at hk;simp at hk
 |n+1,k+1,(s,c)::L,a,t,hW,hT,hn,hk=>by
  rw[tTodo,tTodo];unfold tM at hn hk;rw[List.length_cons]at hn hk;split
  ·rename_i h0
   rcases tVal_ok hG hW ⟨h0,hT _ (List.mem_cons_self ..)⟩ with⟨x,v,-,-,-,-,-,e,hW1,hl,hm,hc⟩|⟨e,-,-⟩
   ·rw[e];have:=tMore_len hc;refine tSay_congr (tTodo_stable hG n k hW1 (hT.more hc hl) ?_ ?_)<;>(unfold tM;rw[List.length_append];omega)
   ·rw[e]
  ·exact tSay_congr (tTodo_stable hG n k hW hT.tail (by unfold tM;omega) (by unfold tM;omega))
def tEnd(gs:List LGlob)(L:List TD)(a:ASt)(t:List UInt8):TRes:=tTodo gs (tM L a) L a t
theorem tEnd_nil(a:ASt)(t:List UInt8):tEnd gs [] a t=(a,some t):=by unfold tEnd;cases tM [] a<;>rfl
theorem tEnd_cell(hG:ImgOk gs D){s:List UInt8}{c:Int}{L:List TD}{a:ASt}{t:List UInt8}(hW:WfB gs a)(hT:TdOk ((s,c)::L) a)(h0:0<=c):tEnd gs ((s,c)::L) a t=match tVal gs c a with
 |(a1,some x)=>tSay (tPiece x) a1 t λt'=>tEnd gs (tMore x++L) a1 t'
 |(a1,none)=>(a1,none):=by
 rw[tEnd,tM,List.length_cons,show 1000*mu a+(L.length+1)=(1000*mu a+L.length)+1 from rfl,tTodo,if_pos h0];rcases tVal_ok hG hW ⟨h0,hT _ (List.mem_cons_self ..)⟩ with⟨x,v,-,-,-,-,-,e,hW1,hl,hm,hc⟩|⟨e,-,-⟩
 ·rw[e];have:=tMore_len hc;exact tSay_congr (tTodo_stable hG _ _ hW1 (hT.more hc hl) (by unfold tM;rw[List.length_append];omega) (Nat.le_refl _))
 ·rw[e]
theorem tEnd_piece{s:List UInt8}{c:Int}{L:List TD}{a:ASt}{t:List UInt8}(h0:¬0<=c):tEnd gs ((s,c)::L) a t=tSay s a t λt'=>tEnd gs L a t':=by
 rw[tEnd,tM,List.length_cons,show 1000*mu a+(L.length+1)=(1000*mu a+L.length)+1 from rfl,tTodo,if_neg h0];rfl
theorem tEnd_app(hG:ImgOk gs D):∀(n:Nat) {X L:List TD} {a:ASt} {t:List UInt8},WfB gs a->TdOk X a->TdOk L a->tM X a<=n->
 (∃a1 t1,tEnd gs X a t=(a1,some t1)∧tEnd gs (X++L) a t=tEnd gs L a1 t1∧WfB gs a1∧a.cells.length<=a1.cells.length∧a1.fuel=a.fuel∧a1.spare=a.spare)∨(∃a1,tEnd gs X a t=(a1,none)∧tEnd gs (X++L) a t=(a1,none)∧a1.ended=true)
 |_,[],L,a,t,hW,_,_,_=>Or.inl ⟨a,t,tEnd_nil a t,rfl,hW,Nat.le_refl _,rfl,rfl⟩
 |0,_::_,_,_,_,_,_,_,hn=>by unfold tM at hn;simp at hn
 |n+1,(s,c)::X,L,a,t,hW,hT,hL,hn=>by
  unfold tM at hn;rw[List.length_cons]at hn;have hT2:TdOk ((s,c)::(X++L)) a:=λp hp=>(List.mem_append.1 (show p∈((s,c)::X)++L from hp)).elim (hT p) (hL p);by_cases h0:0<=c
  ·rw[tEnd_cell hG hW hT h0,List.cons_append,tEnd_cell hG hW hT2 h0];rcases tVal_ok hG hW ⟨h0,hT _ (List.mem_cons_self ..)⟩ with⟨x,v,ew,-,-,-,-,e,hW1,hl,hm,hc⟩|⟨e,-,hee⟩
   ·obtain⟨-,hR,-⟩:=aWork_end hG hW (c:=c) ⟨h0,hT _ (List.mem_cons_self ..)⟩;have hfu:(tVal gs c a).1.fuel=a.fuel:=by rw[ew]at hR;exact hR.1.1
    have hsp:(tVal gs c a).1.spare=a.spare:=by rw[ew]at hR;exact hR.1.2.1
    rw[e];generalize (tVal gs c a).1=a1 at*;have:=tMore_len hc;simp only;unfold tSay;split
    ·rcases tEnd_app hG n (X:=tMore x++X) (L:=L) (a:=a1) (t:=t++tPiece x) hW1 (hT.more hc hl) (λp hp=>by have:=hL p hp;omega) (by unfold tM;rw[List.length_append];omega) with⟨b,t1,e1,e2,e3,e4,e5,e6⟩|⟨b,e1,e2,e3⟩
     ·exact Or.inl ⟨b,t1,e1,by rw[<-e2,List.append_assoc],e3,by omega,e5.trans hfu,e6.trans hsp⟩
     ·exact Or.inr ⟨b,e1,by rw[<-e2,List.append_assoc],e3⟩
    ·exact Or.inr ⟨_,rfl,rfl,by unfold rEnd;rw[hW1.live];rfl⟩
   ·rw[e];exact Or.inr ⟨_,rfl,rfl,hee⟩
  ·rw[tEnd_piece h0,List.cons_append,tEnd_piece h0];unfold tSay;split
   ·exact tEnd_app hG n hW hT.tail hL (by unfold tM;omega)
   ·exact Or.inr ⟨_,rfl,rfl,by unfold rEnd;rw[hW.live];rfl⟩
end
section
variable {gs:List LGlob}
def SF(a b:ASt):Prop:=b.steps=a.steps∧b.fuel=a.fuel
theorem rEnd_sf(k:Int)(st:ASt):SF st (rEnd k st):=by unfold rEnd SF;split<;>exact⟨rfl,rfl⟩
theorem rRoomS_sf(n:Int)(s:ASt):SF s (rRoomS n s):=by
 unfold rRoomS;exact ite_P (P:=λt=>SF s t) ⟨rfl,rfl⟩ (rEnd_sf _ _)
theorem rMakeR_sf(x:MCl)(s t:ASt)(h:SF s t):SF s (rMake x t):=h
theorem rMakeN_sf(n:Nat)(s t:ASt)(h:SF s t):SF s (rMakeN n t):=by
 induction n with
 |zero=>exact h
 |succ n ih=>exact ih
theorem rSplit_sf(n:Int)(s:ASt):SF s (rSplit n s):=by
 unfold rSplit;exact ite_P (P:=λt=>SF s t) (rEnd_sf _ _) ⟨rfl,rfl⟩
theorem rFork_sf(l:List LAlt)(s:ASt):SF s (rFork l s):=by
 unfold rFork;refine ite_P (P:=λt=>SF s t) (rEnd_sf _ _) ?_;cases l.find? _ with
 |none=>exact rEnd_sf _ _
 |some a=>exact⟨rfl,rfl⟩
theorem rDoes_sf(i:LIns)(s:ASt):SF s (rDoes i s):=by
 unfold rDoes rReck;repeat' (first|exact rEnd_sf _ _|exact rSplit_sf _ _|exact rFork_sf _ _|exact rMakeR_sf _ _ _ (rRoomS_sf _ _)|exact rMakeN_sf _ _ _ (rRoomS_sf _ _)|refine ite_P (P:=λt=>SF s t) ?_ ?_|exact⟨rfl,rfl⟩)
def LeF(a:ASt):Prop:=a.steps<=a.fuel
theorem LeF.sf{a b:ASt}(h:LeF a)(k:SF a b):LeF b:=by unfold LeF at*;rw[k.1,k.2];exact h
theorem LeF.next{a b:ASt}(h:LeF a)(hb:rStepB a=true)(h1:b.steps=a.steps+1)(h2:b.fuel=a.fuel):LeF b:=by
 unfold rStepB at hb;unfold LeF at*;simp only[Bool.and_eq_true,decide_eq_true_eq]at hb;have:=hb.2;rw[h1,h2];omega
theorem rStepS_le{a:ASt}(h:LeF a):LeF (rStepS a):=by
 unfold rStepS;split
 ·exact h.sf (rEnd_sf _ _)
 ·split
  ·exact h
  ·unfold LeF at*;show a.steps+1<=a.fuel;omega
theorem rVal_le{a:ASt}(v:Int)(h:LeF a):LeF (rVal v a).1:=by unfold rVal;split<;>exact h
theorem rEnter_le{a:ASt}(g:Int)(h:LeF a):LeF (rEnter gs g a):=by
 unfold rEnter;exact ite_P (P:=λt=>LeF t) h (h.sf (rEnd_sf _ _))
theorem aLook_le:∀(n:Nat) (st:ASt),LeF st->LeF (aLook gs n st).1
 |0,st,h=>rStepS_le h
 |n+1,st,h=>by
  rw[aLook];simp only;split
  ·rename_i hb
   have h1:LeF {st with steps:=st.steps+1}:=h.next hb rfl rfl;split
   ·exact aLook_le n _ h1
   ·split
    ·exact aLook_le n _ h1
    ·split
     ·exact h1.sf (rEnd_sf _ _)
     ·split
      ·split
       ·exact rEnter_le _ h1
       ·exact rVal_le _ h1
      ·split
       ·exact h1.sf (rEnd_sf _ _)
       ·exact rVal_le _ h1
  ·exact rStepS_le h
theorem aDo_le(st:ASt)(h:LeF st):LeF (aDo gs st).1:=by
 unfold aDo;split
 ·rename_i hb
  have h1:LeF (rNext st):=h.next hb rfl rfl;simp only;split
  ·exact aLook_le _ _ h1
  ·split
   ·exact aLook_le _ (rEval (rNext st)) h1
   ·exact h1.sf (rDoes_sf _ _)
 ·exact rStepS_le h
theorem aGo_le:∀(n:Nat) (r:AR),LeF r.1->LeF (aGo gs n r).1
 |0,_,h=>h
 |n+1,(st,none),h=>by
  rw[aGo];split
  ·exact h
  ·exact aGo_le n _ (aDo_le st h)
 |n+1,(st,some v),h=>h
theorem aWork_le(c:Int){st:ASt}(h:LeF st):LeF (aWork gs c st).1:=aGo_le _ _ (aLook_le _ (aBegin c st) h)
theorem rStepS_yes{st:ASt}(hb:rStepB st=true):rStepS st={st with steps:=st.steps+1}:=by
 unfold rStepB at hb;simp only[Bool.and_eq_true,decide_eq_true_eq,Bool.not_eq_true']at hb;unfold rStepS;rw[if_neg hb.2,hb.1];rfl
end
structure SimT (t:List UInt8) (a:ASt) (m:MSt):Prop where
 cells:m.cells=a.cells
 su:m.su=a.steps
 sm:m.sm=a.fuel
 mu:m.mu=a.used
 mm:m.mm=a.spare
 kind:m.kind=a.kind
 text:m.text=t
section
variable {lo:Nat} {w:World} {M Pb:Nat} {m:MSt} {B:List Nat} {gs:List LGlob} {D:Nat->Nat->Int} {t:List UInt8} {a b:ASt} {gp:Option Addr} {gc:Nat} {G:Nat->Int×Option Addr×Nat×Nat}
theorem SimT.begin(h:SimT t a m)(c:Int):Sim0 gs t (aBegin c a) (beginS c m):=⟨h.cells,rfl,rfl,rfl,h.su,h.sm,h.mu,h.mm,rfl,h.kind,h.text⟩
theorem SimR.state{r:AR}(h:SimR gs t r m):(r.2=none∧r.1.ended=false∧m.state=0∧Sim gs t r.1 m)∨(m.state≠0∧(r.2≠none∨r.1.ended=true)):=by
 obtain⟨x,o⟩:=r;unfold SimR at h;cases o with
 |some v=>exact Or.inr ⟨by rw[h.state];decide,Or.inl (by simp)⟩
 |none=>
  simp only at h;cases he:x.ended with
  |true=>rw[he]at h;exact Or.inr ⟨by rw[h.state];decide,Or.inr rfl⟩
  |false=>rw[he]at h;exact Or.inl ⟨rfl,rfl,h.state,h⟩
theorem SimR.meter{r:AR}(h:SimR gs t r m):m.su=r.1.steps∧m.sm=r.1.fuel:=by
 obtain⟨x,o⟩:=r;unfold SimR at h;cases o with
 |some v=>exact⟨h.su,h.sm⟩
 |none=>
  simp only at h;cases he:x.ended with
  |true=>rw[he]at h;exact⟨h.su,h.sm⟩
  |false=>rw[he]at h;exact⟨h.su,h.sm⟩
theorem muS_le{m m':MSt}(h:m.state=0)(hs:m'.sm=m.sm)(h1:m.su<m.sm)(h2:m.su+1<=m'.su):muS m'<muS m:=by
 unfold muS;rw[h,hs];split<;>split<;>omega
def EvI(gs:List LGlob)(D:Nat->Nat->Int)(t:List UInt8)(a:ASt)(R:AR)(m:MSt):Prop:=∃r,SimR gs t r m∧aEnd gs r=R∧ResOk gs D a r
theorem evaluate_both(hG:ImgOk gs D)(hP:ImG lo w Pb gs gp gc G)(h:MM lo w M Pb m B)(hs:SimT t a m)(hw:WfB gs a){c:Int}(hc:0<=c∧c<(a.cells.length:Int)):
 Calls Tryz.prog 166 #[.pointer (some ⟨M,0,none⟩),.int .i32 c] w λe w'=>∃m',SimR gs t (aWork gs c a) m'∧m'.state≠0∧MRes lo M Pb B w m' (evV m') e w':=by
 obtain⟨e1,e2,e3⟩:=aWork_end hG hw hc;have hwf:WfC gs D (aBegin c a):=begin_wf hw hc;have hlk:=aLook_res hG _ hwf rfl;refine(evaluate_any c (EvI gs D t a (aWork gs c a)) h (λw' B' hM hb=>?_) (λw' m' B' hj h0 hM hb=>?_) (λm' hj h0 h2=>?_)).mono λe w' hr=>?_
 ·refine(look_both hG (hP.low hb) hM (hs.begin c) hwf).mono ?_;rintro e w'' ⟨m2,hsm,hr⟩;exact⟨m2,⟨_,hsm,e1.symm,ResOk.after (a:=a) hlk rfl rfl (Int.le_refl _)⟩,hr⟩
 ·obtain⟨r,hsr,her,hrr⟩:=hj;rcases hsr.state with⟨hr2,hre,-,hsim⟩|⟨hn,-⟩
  ·obtain⟨b,o⟩:=r;simp only at hr2 hre hsim;subst hr2;have hwb:WfA gs D b:=by
    have:=hrr.2;simp only at this;rw[hre]at this;exact this
   refine(do_any hG (hP.low hb) hM hsim hwb).mono ?_;rintro e w'' ⟨m2,hsm,hr⟩;have hres:=aDo_res hG hwb;refine⟨m2,⟨_,hsm,?_,hres.after hrr.1.1 hrr.1.2.1 hrr.1.2.2⟩,?_,hr⟩
   ·rw[<-aEnd_next hG hwb];exact her
   ·obtain⟨u1,u2⟩:=hsm.meter;have hst:=hwb.b.steps;cases hbb:rStepB b with
    |true=>
     have h1:=aDo_steps hG hwb hbb;have h2:=(rStep_yes hwb.b).2 hbb;exact muS_le h0 (by rw[u2,hres.1.1,hsim.sm]) (by rw[hsim.su,hsim.sm];exact h2) (by rw[u1,hsim.su];exact h1)
    |false=>
     have e4:aDo gs b=(rEnd 1 b,none):=by unfold aDo;rw[hbb,(rStep_no hwb.b).2 hbb];rfl
     have e5:rEnd 1 b={b with ended:=true,kind:=1}:=by unfold rEnd;rw[hre];rfl
     rw[e4,e5]at hsm;have hE:SimE t {b with ended:=true,kind:=1} m2:=hsm;unfold muS;rw[hE.su,hE.sm,hE.state,h0,hsim.su,hsim.sm];simp
  ·exact absurd h0 hn
 ·obtain⟨⟨x,o⟩,hsr,-,-⟩:=hj;unfold SimR at hsr;cases o with
  |some v=>rw[hsr.stack];simp
  |none=>
   simp only at hsr;cases he:x.ended with
   |true=>rw[he]at hsr;exact absurd hsr.state h2
   |false=>rw[he]at hsr;exact absurd hsr.state h0
 ·obtain⟨m',⟨r,hsr,her,-⟩,h0,hr⟩:=hr;rcases hsr.state with⟨-,-,h1,-⟩|⟨-,hd⟩
  ·exact absurd h1 h0
  ·rw[aEnd_done hd]at her;subst her;exact⟨m',hsr,h0,hr⟩
end
end Go.Proofs.YtdpodpjdcfjfgaaGreatDoor
namespace Go.Proofs.YtdpodpjdcfjfgaaGreatDoor
open Go.Shelf
def Tryz.laysItoa_ren:Go.Shelf.Ren:=⟨fun|171=>41|243=>75|246=>121|283=>182|284=>183|285=>184|286=>185|129=>245|317=>244|318=>246|319=>247|320=>248|337=>302|338=>303|n=>n,fun|3=>3|9=>9|2=>2|4=>4|171=>349|0=>0|53=>187|37=>88|5=>5|173=>352|212=>416|51=>99|20=>20|213=>417|46=>101|232=>513|233=>514|n=>n,fun|17=>20|18=>23|19=>24|n=>n⟩
theorem Tryz.laysItoa:Go.Proofs.LaysM.n171 Tryz.prog Tryz.laysItoa_ren:={
 mixed:=by kernel_rfl
 f129:=Tryz.func245.trans (congrArg some (by kernel_rfl))
 f171:=Tryz.func41.trans (congrArg some (by kernel_rfl))
 f243:=Tryz.func75.trans (congrArg some (by kernel_rfl))
 f246:=Tryz.func121.trans (congrArg some (by kernel_rfl))
 f283:=Tryz.func182.trans (congrArg some (by kernel_rfl))
 f284:=Tryz.func183.trans (congrArg some (by kernel_rfl))
 f285:=Tryz.func184.trans (congrArg some (by kernel_rfl))
 f286:=Tryz.func185.trans (congrArg some (by kernel_rfl))
 f317:=Tryz.func244.trans (congrArg some (by kernel_rfl))
 f318:=Tryz.func246.trans (congrArg some (by kernel_rfl))
 f319:=Tryz.func247.trans (congrArg some (by kernel_rfl))
 f320:=Tryz.func248.trans (congrArg some (by kernel_rfl))
 f337:=Tryz.func302.trans (congrArg some (by kernel_rfl))
 f338:=Tryz.func303.trans (congrArg some (by kernel_rfl))
 t0:=Tryz.underlying0
 a0:=Tryz.isAgg0
 z0:=Tryz.sizeOf0
 v0:=Tryz.zeroValue0
 t2:=Tryz.underlying2
 a2:=Tryz.isAgg2
 z2:=Tryz.sizeOf2
 v2:=Tryz.zeroValue2
 t3:=Tryz.underlying3
 a3:=Tryz.isAgg3
 z3:=Tryz.sizeOf3
 v3:=Tryz.zeroValue3
 t4:=Tryz.underlying4
 a4:=Tryz.isAgg4
 z4:=Tryz.sizeOf4
 v4:=Tryz.zeroValue4
 t5:=Tryz.underlying5
 a5:=Tryz.isAgg5
 z5:=Tryz.sizeOf5
 v5:=Tryz.zeroValue5
 t9:=Tryz.underlying9
 a9:=Tryz.isAgg9
 z9:=Tryz.sizeOf9
 v9:=Tryz.zeroValue9
 t20:=Tryz.underlying20
 a20:=Tryz.isAgg20
 z20:=Tryz.sizeOf20
 v20:=Tryz.zeroValue20
 t37:=Tryz.underlying88
 a37:=Tryz.isAgg88
 z37:=Tryz.sizeOf88
 v37:=Tryz.zeroValue88
 t46:=Tryz.underlying101
 a46:=Tryz.isAgg101
 z46:=Tryz.sizeOf101
 v46:=Tryz.zeroValue101
 t51:=Tryz.underlying99
 a51:=Tryz.isAgg99
 z51:=Tryz.sizeOf99
 v51:=Tryz.zeroValue99
 t53:=Tryz.underlying187
 a53:=Tryz.isAgg187
 z53:=Tryz.sizeOf187
 v53:=Tryz.zeroValue187
 t171:=Tryz.underlying349
 a171:=Tryz.isAgg349
 z171:=Tryz.sizeOf349
 v171:=Tryz.zeroValue349
 t173:=Tryz.underlying352
 a173:=Tryz.isAgg352
 z173:=Tryz.sizeOf352
 v173:=Tryz.zeroValue352
 t212:=Tryz.underlying416
 a212:=Tryz.isAgg416
 z212:=Tryz.sizeOf416
 v212:=Tryz.zeroValue416
 t213:=Tryz.underlying417
 a213:=Tryz.isAgg417
 z213:=Tryz.sizeOf417
 t232:=Tryz.underlying513
 a232:=Tryz.isAgg513
 z232:=Tryz.sizeOf513
 v232:=Tryz.zeroValue513
 t233:=Tryz.underlying514
 a233:=Tryz.isAgg514
 z233:=Tryz.sizeOf514
 v233:=Tryz.zeroValue514
 g17:=by kernel_rfl
 g18:=by kernel_rfl
 g19:=by kernel_rfl
 i0:=by kernel_rfl
 i2:=by kernel_rfl
 i3:=by kernel_rfl
 i4:=by kernel_rfl
 i5:=by kernel_rfl
 i9:=by kernel_rfl
 i20:=by kernel_rfl
 i37:=by kernel_rfl
 i46:=by kernel_rfl
 i51:=by kernel_rfl
 i53:=by kernel_rfl
 i171:=by kernel_rfl
 i173:=by kernel_rfl
 i212:=by kernel_rfl
 i232:=by kernel_rfl
 i233:=by kernel_rfl
 m17:=by kernel_rfl
 m18:=by kernel_rfl
 m19:=by kernel_rfl}
theorem itoa_any(n:Int)(h0:-9223372036854775808<=n)(h1:n<=9223372036854775807)(w:World)(htab:Lib.TabIs Tryz.prog w "internal/strconv.uint64pow10" .u64 Lib.pow10Tab):
 Calls Tryz.prog 41 #[.int .i64 n] w λe w'=>e=.returned (.string ⟨(Lib.itoa n).toArray⟩)∧∃k os,w'=Sort.grow (w.drewN k) os:=Any.strconv_Itoa Tryz.laysItoa n h0 h1 w htab
end Go.Proofs.YtdpodpjdcfjfgaaGreatDoor
