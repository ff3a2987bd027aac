import Derived.Test.YtahmgjjgikgpoaaGreatDoorRoJ
import Derived.Test.YtahmgjjgikgpoaaGreatDoorTqJ
import Derived.Test.YtahmgjjgikgpoaaGreatDoorThJ
import Derived.Lib.AppendIntMem
import Derived.Lib.ItoaLen
import Derived.Test.YtahmgjjgikgpoaaGreatDoorSiJ
set_option maxRecDepth 100000
set_option maxHeartbeats 1000000
namespace Go.Proofs.YtahmgjjgikgpoaaGreatDoor
open Go.RowKit Go.Sort
section
variable {gs:List LGlob} {D:Nat->Nat->Int} {t:List UInt8} {a b:ASt} {m:MSt}
theorem last1(s:List Int)(h:1<=s.length):s=s.take (s.length-1)++[(s[s.length-1]?).getD 0]:=by
 rcases List.eq_nil_or_concat s with rfl|⟨l,x,rfl⟩
 ·simp at h
 ·simp
theorem last2(s:List Int)(h:2<=s.length):s=s.take (s.length-2)++[(s[s.length-2]?).getD 0,(s[s.length-1]?).getD 0]:=by
 rcases List.eq_nil_or_concat s with rfl|⟨l,x,rfl⟩
 ·simp at h
 ·rcases List.eq_nil_or_concat l with rfl|⟨l,y,rfl⟩
  ·simp at h
  ·simp
theorem put_sim0(hl:b.ended=false)(h:Sim gs t b m)(x:MCl):SimR gs t (if rRoomB 1 b then rMake x (rRoomS 1 b) else rEnd 2 b,none) (putS x m):=by
 unfold putS;rw[room_sim h];cases hr:rRoomB 1 b with
 |true=>exact simA_of (room_live hl hr) ((h.roomY hr).add x)
 |false=>exact roomN_sim hl h hr
theorem pack_sim(hl:b.ended=false)(h:Sim gs t b m)(tag:Int)(n:Nat)(hn:n<=b.now.s.length):SimR gs t (if rRoomB 1 b then rMake ⟨3,tag,0,0,b.now.s.drop (b.now.s.length-n)⟩ (rStk (b.now.s.take (b.now.s.length-n)) (rRoomS 1 b)) else rEnd 2 b,none) (packS tag n m):=by
 unfold packS;have e:m.stack.drop (m.stack.length-n)=b.now.s.drop (b.now.s.length-n):=by rw[h.stack,drop_flat _ _ _ hn]
 rw[e];exact put_sim hl (h.drop hn) _
theorem slide_sim(hl:b.ended=false)(h:Sim gs t b m)(j:Nat)(hn:j+1<=b.now.s.length)(x:Int):SimR gs t (rStk (b.now.s.take (b.now.s.length-1-j)++[x]) b,none) (pushS x (dropS j (dropS 1 m))):=by
 have h1:=h.drop (n:=1) (by omega);have h2:=h1.drop (n:=j) (by show j<=(b.now.s.take (b.now.s.length-1)).length;rw[List.length_take];omega);have h3:=h2.push x;have e:(b.now.s.take (b.now.s.length-1)).take ((b.now.s.take (b.now.s.length-1)).length-j)=b.now.s.take (b.now.s.length-1-j):=by
  rw[List.length_take,List.take_take];congr 1
  omega
 refine simA_of hl ?_;have h4:Sim gs t (rStk ((b.now.s.take (b.now.s.length-1)).take ((b.now.s.take (b.now.s.length-1)).length-j)++[x]) b) (pushS x (dropS j (dropS 1 m))):=h3;rw[e]at h4;exact h4
theorem simA_at(hl:b.ended=false)(h:Sim gs t b m)(k:Int):SimR gs t ({b with now:={b.now with at_:=k}},none) {m with fr:={m.fr with at_:=k}}:=
 simA_of hl ⟨⟨h.cells,h.stack,h.base,h.dump,h.su,h.sm,h.mu,h.mm,h.state,h.kind,h.text⟩,h.code,rfl⟩
end
section
variable {lo:Nat} {w:World} {M Pb:Nat} {m:MSt} {B:List Nat} {gs:List LGlob} {D:Nat->Nat->Int} {t:List UInt8} {a:ASt} {gp:Option Addr} {gc:Nat} {G:Nat->Int×Option Addr×Nat×Nat}
theorem sim_mtr(hs:Sim gs t a m)(hw:WfB gs a):Mtr m:=⟨by rw[hs.su,hs.sm];exact hw.steps,by rw[hs.sm];exact hw.fuel,by rw[hs.mu,hs.mm];exact hw.used,by rw[hs.mm];exact hw.spare⟩
theorem mtr_step(hm:Mtr m)(hsb:stepM m=true):Mtr (nextS (stepS m)):=by
 rw[stepS_ok hsb];have h1:1<=m.sm-m.su:=by simpa[stepM]using hsb
 have:=hm.su;exact⟨by simp only[nextS];omega,hm.sm,hm.mu,hm.mm⟩
structure Bnds (m:MSt):Prop where
 s:m.stack.length<=520000000
 c:m.cells.length<=3000000
 d:m.dump.length<=3000000
theorem frs_len(gs:List LGlob):∀(l:List AFr) (n:Nat),(frs gs n l).length=l.length
 |[],_=>rfl
 |f::r,n=>by rw[frs,List.length_cons,frs_len gs r,List.length_cons]
theorem sim_bnds(hG:ImgOk gs D)(h0:Sim0 gs t a m)(hw:WfS gs D a):Bnds m:=by
 have h1:=hw.size;have h2:=hw.b.steps;have h3:=hw.b.fuel;have h4:=hw.b.used;have h5:=hw.b.spare;have h6:=hw.b.nc;have h7:=hG.few;have h8:=hw.dl;refine⟨?_,?_,?_⟩
 ·rw[h0.stack,List.length_append];omega
 ·rw[h0.cells];omega
 ·rw[h0.dump,frs_len];omega
theorem sim_wf(hG:ImgOk gs D)(h0:Sim0 gs t a m)(hw:WfC gs D a):Wf gs.length m:=by
 have hB:=sim_bnds hG h0 hw.toWfS;have hb:=hB.s;have h2:=hw.b.steps;have h3:=hw.b.fuel;have hne:=hw.ne;refine⟨?_,?_,?_,?_,?_,by have:=hB.c;omega,?_⟩
 ·rw[h0.stack];intro e;have:=congrArg List.length e;rw[List.length_append,List.length_nil]at this;omega
 ·rw[h0.stack,h0.cells];intro r hr;rcases List.mem_append.1 hr with hr|hr
  ·obtain⟨f,hf,hrf⟩:=List.mem_flatMap.1 hr;exact(hw.ds f hf).1 r hrf
  ·exact hw.s r hr
 ·rw[h0.cells];intro x hx;have hc:=hw.b.cells x hx;exact⟨hc.l,hc.g,hc.k⟩
 ·rw[h0.base,h0.stack,List.length_append];omega
 ·rw[h0.sm,h0.su];omega
 ·exact⟨by rw[h0.su,h0.sm];exact h2,by rw[h0.sm];exact h3,by rw[h0.mu,h0.mm];exact hw.b.used,by rw[h0.mm];exact hw.b.spare⟩
theorem look_both(hG:ImgOk gs D)(hP:ImG lo w Pb gs gp gc G)(h:MM lo w M Pb m B)(h0:Sim0 gs t a m)(hw:WfC gs D a):Calls Tryz.prog 76 #[.pointer (some ⟨M,0,none⟩)] w λe w'=>∃m',SimR gs t (aLookF gs a) m'∧MRes lo M Pb B w m' (.tuple #[]) e w':=by
 refine(lookG h hP (sim_wf hG h0 hw) (by have:=(sim_bnds hG h0 hw.toWfS).d;omega)).mono λe w' hr=>⟨_,?_,hr⟩;have:=look_sim hG (a.fuel-a.steps).toNat hw h0 rfl;unfold lookM aLookF;rw[h0.sm,h0.su];exact this
end
section
variable {lo:Nat} {w:World} {M Pb:Nat} {m:MSt} {B:List Nat} {gs:List LGlob} {D:Nat->Nat->Int} {t:List UInt8} {a:ASt} {gp:Option Addr} {gc:Nat} {G:Nat->Int×Option Addr×Nat×Nat}
def DoR(lo M Pb:Nat)(B:List Nat)(w:World)(gs:List LGlob)(t:List UInt8)(r:AR)(w':World):Prop:=∃m',SimR gs t r m'∧MRes lo M Pb B w m' (.tuple #[]) (.returned (.tuple #[])) w'
theorem do_fin{B':List Nat}{w' w'':World}{r:AR}{m':MSt}{e:Ending}(hA:AG B w w')(hB:∀b∈B',b∈B∨w.heap.size<=b)(hr:MRes lo M Pb B' w' m' (.tuple #[]) e w'')(hs:SimR gs t r m'):e=.returned (.tuple #[])∧Hid (DoR lo M Pb B w gs t r w''):=by
 have he:=hr.1;exact⟨he,m',hs,hr.of hA hB rfl⟩
theorem do_any(hG:ImgOk gs D)(hP:ImG lo w Pb gs gp gc G)(h:MM lo w M Pb m B)(hs:Sim gs t a m)(hw:WfA gs D a):
 Calls Tryz.prog 77 #[.pointer (some ⟨M,0,none⟩)] w λe w'=>∃m',SimR gs t (aDo gs a) m'∧MRes lo M Pb B w m' (.tuple #[]) e w':=by
 have hmt:=sim_mtr hs hw.b;have hsb:=step_sim hw.b hs.su hs.sm;cases hb:rStepB a with
 |false=>
  rw[hb]at hsb;refine(do_out h hmt hsb).mono λe w' hr=>⟨_,?_,hr⟩;unfold aDo;rw[hb,(rStep_no hw.b).2 hb];exact stop_sim hw.b.live hs 1
 |true=>
  rw[hb]at hsb;have hne:=(rStep_yes hw.b).1.1 hb;have hI:=at_ins hG hw;have hbn:=sim_bnds hG hs.toSim0 hw.toWfS;have hS:=hs.next hsb;have hm1:=mtr_step hmt hsb;obtain⟨r1,-,-,-⟩:=rest_wf hw;obtain⟨gi,eg⟩:=gAt_eq hw.f.g;have hat:m.fr.at_=((a.now.at_.toNat:Nat):Int):=by rw[hs.at_];have:=hw.f.a.1;omega
  have hk:a.now.at_.toNat<m.fr.code.length:=by rw[hs.code];exact hw.f.a.2
  have hkb:a.now.at_.toNat<=1000000000:=by
   have h1:=hw.f.a.2;rw[eg]at h1;have:=(hG.code _ gi).len;omega
  have hin:m.fr.code[a.now.at_.toNat]=iAt gs a:=by
   unfold iAt;rw[List.getElem?_eq_getElem hw.f.a.2,Option.getD_some];simp only[hs.code]
  have hstk:(nextS (stepS m)).stack=m.stack:=by rw[stepS_ok hsb];rfl
  have hcel:(nextS (stepS m)).cells=m.cells:=by rw[stepS_ok hsb];rfl
  have hms:m.stack=flat a++a.now.s:=hs.stack;have hmc:m.cells=a.cells:=hs.cells;have hml:m.stack.length=(flat a).length+a.now.s.length:=by rw[hms,List.length_append]
  have hB1:=hbn.s;have hB2:=hbn.c;have hB3:=hbn.d;revert hin hI;generalize hi:iAt gs a=i;generalize D a.now.g.toNat a.now.at_.toNat=d;intro hI hin;obtain⟨⟨p0,p1⟩,-⟩:=hI.f;obtain⟨o,ho⟩:∃o:Nat,i.op=(o:Int):=⟨i.op.toNat,by omega⟩;have ho21:o<21:=by omega
  have ho':i.op.toNat=o:=by omega
  obtain⟨a1,a2,a3,a4,a5,a6⟩:=insL_a hI.f ho ho21;have hwr:=hI.w;rw[ho']at hwr;obtain⟨w1,w2⟩:=wr_need hwr;obtain⟨d0,d1,d2⟩:=hI.dl;obtain⟨gl1,gl2⟩:=hI.gl;have hsn:(rNext a).now.s=a.now.s:=rfl;have href:=hw.s;have hnc:=hw.b.nc;have hu0:=hw.b.used;have hgl:gs.length<=a.cells.length:=by omega
  have hgf:=hG.few;by_cases h8:i.op=8
  ·have hp:0<a.now.s.length:=by
    have:o=8:=by omega
    subst this;simp[needR]at w1;omega
   have hwe:=eval_wf hI hw hne h8;have hs0:=eval_sim hS hp;have e8:aDo gs a=aLookF gs (rEval (rNext a)):=by
    unfold aDo;rw[if_pos hb,hi];simp only;rw[if_neg (by omega),if_pos h8]
   rw[e8];exact do8_any (λm'=>SimR gs t (aLookF gs (rEval (rNext a))) m') h hmt hsb hat hk hkb (by rw[hin];exact h8) (by omega) (by omega) (by omega) λw' B' hM hbl=>look_both hG (hP.low hbl) hM hs0 hwe
  ·by_cases h19:i.op=19
   ·have hwu:=unwind_wf hI hw hne h19;have e19:aDo gs a=aLookF gs (rNext a):=by
     unfold aDo;rw[if_pos hb,hi];simp only;rw[if_pos h19]
    rw[e19];have hlow:=h.lows;refine(do_call (DoR lo M Pb B w gs t (aLookF gs (rNext a))) h hmt hsb hat hk hkb (by rw[hin,h19];simp[oneOp]) λw' B' av hM hA hB _=>?_).mono λe w' hr=>?_
    ·rw[hin,h19];refine⟨λh=>by omega,λh=>by omega,λh=>by omega,λh=>by omega,λh=>by omega,λh=>by omega,λh=>by omega,λh=>by omega,λh=>by omega,λ_=>?_,λh=>by omega⟩;refine(look_both hG (hP.low (hA.low hlow.2 hlow.1)) hM hS.toSim0 hwu).mono ?_;rintro e w'' ⟨m',hsm,hr⟩;exact do_fin hA hB hr hsm
    ·obtain⟨rfl,m',h1,h2⟩:=hr;exact⟨m',h1,h2⟩
   ·rw[aDo_ins hb hi h19 h8];by_cases hone:o=2∨o=3∨o=4∨o=5
    ·rcases hone with rfl|rfl|rfl|rfl
     ·simp[needR]at w1;have ha:=a1 (by omega);have hj:m.fr.code[a.now.at_.toNat].a=((i.a.toNat:Nat):Int):=by rw[hin];omega
      have hjl:i.a.toNat<m.stack.length:=by omega
      refine(do2_any h hmt hsb hat hk hkb (by rw[hin];exact ho) (by omega) hj hjl).mono λe w' hr=>⟨_,?_,hr⟩;have e2:rDoes i (rNext a)=rStk (a.now.s++[(a.now.s[a.now.s.length-1-i.a.toNat]?).getD 0]) (rNext a):=by unfold rDoes;rw[ho];rfl
      have ex:m.stack[m.stack.length-1-i.a.toNat]'(by omega)=(a.now.s[a.now.s.length-1-i.a.toNat]?).getD 0:=by
       have:=get_flat (flat a) a.now.s i.a.toNat (by omega);rw[<-hms,List.getElem?_eq_getElem (by omega)]at this;rw[<-this];rfl
      rw[e2,ex];exact simA_of r1 (hS.push _)
     ·simp[needR]at w1;have e3:rDoes i (rNext a)=if rRoomB 1 (rNext a) then rMake ⟨2,0,(a.now.s[a.now.s.length-1]?).getD 0,(a.now.s[a.now.s.length-2]?).getD 0,[]⟩ (rStk (a.now.s.take (a.now.s.length-2)) (rRoomS 1 (rNext a))) else rEnd 2 (rNext a):=by unfold rDoes;rw[ho];rfl
      refine(do34_any h hmt hsb hat hk hkb (by omega) (by omega) _ (Or.inl ⟨by rw[hin];exact ho,flat a++a.now.s.take (a.now.s.length-2),(a.now.s[a.now.s.length-2]?).getD 0,(a.now.s[a.now.s.length-1]?).getD 0,?_,rfl⟩)).mono λe w' hr=>⟨_,?_,hr⟩
      ·rw[hms,List.append_assoc,<-last2 a.now.s (by omega)]
      ·rw[e3];exact put_sim r1 (drop2_sim hS (by show 2<=a.now.s.length;omega)) _
     ·simp[needR]at w1;have ha:=a1 (by omega);have e4:rDoes i (rNext a)=rStk (a.now.s.take (a.now.s.length-1-i.a.toNat)++[(a.now.s[a.now.s.length-1]?).getD 0]) (rNext a):=by unfold rDoes;rw[ho];rfl
      refine(do34_any h hmt hsb hat hk hkb (by omega) (by omega) _ (Or.inr ⟨by rw[hin];exact ho,flat a++a.now.s.take (a.now.s.length-1),(a.now.s[a.now.s.length-1]?).getD 0,i.a.toNat,?_,by rw[hin];omega,?_,rfl⟩)).mono λe w' hr=>⟨_,?_,hr⟩
      ·rw[hms,List.append_assoc,<-last1 a.now.s (by omega)]
      ·rw[List.length_append,List.length_take];omega
      ·rw[e4];exact slide_sim r1 hS i.a.toNat (by show i.a.toNat+1<=a.now.s.length;omega) _
     ·simp[needR]at w1;have ha:=a1 (by omega);have e5:rDoes i (rNext a)=rStk (a.now.s.take (a.now.s.length-1)) {rNext a with cells:=a.cells.set ((a.now.s[a.now.s.length-2-i.a.toNat]?).getD 0).toNat ⟨5,0,(a.now.s[a.now.s.length-1]?).getD 0,0,[]⟩}:=by unfold rDoes;rw[ho];rfl
      have hrr:=href.at (i:=a.now.s.length-2-i.a.toNat) (by omega);refine(do5_any h hmt hsb hat hk hkb (by rw[hin];exact ho) (by omega) (s:=flat a++a.now.s.take (a.now.s.length-1)) (x:=(a.now.s[a.now.s.length-1]?).getD 0) ?_ (j:=i.a.toNat) (r:=((a.now.s[a.now.s.length-2-i.a.toNat]?).getD 0).toNat) (by rw[hin];omega) ?_ ?_ ?_).mono λe w' hr=>⟨_,?_,hr⟩
      ·rw[hms,List.append_assoc,<-last1 a.now.s (by omega)]
      ·rw[List.length_append,List.length_take];omega
      ·rw[get_flat _ _ _ (by rw[List.length_take];omega),List.length_take,List.getElem?_take];rw[if_pos (by omega),show min (a.now.s.length-1) a.now.s.length-1-i.a.toNat=a.now.s.length-2-i.a.toNat by omega];rw[List.getElem?_eq_getElem (by omega)]at hrr ⊢;simp only[Option.getD_some]at hrr ⊢;congr 1
       omega
      ·rw[hmc];omega
      ·rw[e5];exact upd_sim r1 hS (by show 1<=a.now.s.length;omega)
    ·have hoo:oneOp m.fr.code[a.now.at_.toNat].op:=by rw[hin,ho];unfold oneOp;omega
     refine(do_call (DoR lo M Pb B w gs t (rDoes i (rNext a),none)) h hmt hsb hat hk hkb hoo λw' B' av hM hA hB hav=>?_).mono λe w' hr=>?_
     ·rw[hin];have hsl':(nextS (stepS m)).stack.length<=1000000000:=by rw[hstk];omega
      have hcl':(nextS (stepS m)).cells.length<=100000000:=by rw[hcel];omega
      refine⟨λe=>?_,λe=>?_,λe=>?_,λe=>?_,λe=>?_,λe=>?_,λe=>?_,λe=>?_,λe=>?_,λe=>absurd e h19,λe=>?_⟩
      ·have e0:rDoes i (rNext a)=if rRoomB 1 (rNext a) then rMake ⟨1,i.a,0,0,[]⟩ (rRoomS 1 (rNext a)) else rEnd 2 (rNext a):=by unfold rDoes;rw[e];rfl
       refine(put_any2 ⟨1,i.a,0,0,[]⟩ (.slice none 0 0) ⟨none,0,rfl,λi hi=>absurd hi (by simp)⟩ ⟨_,_,_,rfl⟩ hM hm1 (by omega) (by omega)).mono λe' w'' hr=>do_fin hA hB hr ?_;rw[e0];exact put_sim0 r1 hS _
      ·have hga:=gl1 e;refine⟨by rw[IntKind.wrap_i32];omega,(push_any i.a hM (by omega)).mono λe' w'' hr=>do_fin hA hB hr ?_⟩;have e0:rDoes i (rNext a)=rStk (a.now.s++[i.a]) (rNext a):=by unfold rDoes;rw[e];rfl
       rw[e0];exact simA_of r1 (hS.push i.a)
      ·obtain rfl:o=6:=by omega
       simp[needR]at w1;have ha:=a1 (by omega);obtain⟨j,hj⟩:∃j:Nat,i.a=(j:Int):=⟨i.a.toNat,by omega⟩;have e0:rDoes i (rNext a)=rStk (a.now.s.take (a.now.s.length-i.a.toNat)) (rNext a):=by unfold rDoes;rw[e];rfl
       rw[hj];refine(drop_any j hM (by rw[hstk];omega) (by omega)).mono λe' w'' hr=>do_fin hA hB hr ?_;rw[e0,hj,Int.toNat_natCast];exact simA_of r1 (hS.drop (n:=j) (by show j<=a.now.s.length;omega))
      ·obtain rfl:o=7:=by omega
       have ha:=a1 (by omega);obtain⟨j,hj⟩:∃j:Nat,i.a=(j:Int):=⟨i.a.toNat,by omega⟩;have e0:rDoes i (rNext a)=if rRoomB i.a (rNext a) then rMakeN i.a.toNat (rRoomS i.a (rNext a)) else rEnd 2 (rNext a):=by unfold rDoes;rw[e];rfl
       rw[e0,hj,Int.toNat_natCast];exact(alloc_any j (by omega) hM hm1 (by omega) (by omega)).mono λe' w'' hr=>do_fin hA hB hr (alloc_sim r1 hS j)
      ·have hn2:2<=a.now.s.length:=by
        have:needR o i.a=2:=by unfold needR;rw[if_neg (by omega),if_neg (by omega),if_neg (by omega),if_neg (by omega),if_neg (by omega),if_neg (by omega),if_neg (by omega),if_neg (by omega),if_neg (by omega),if_neg (by omega)]
        omega
       have t1:=href.at (i:=a.now.s.length-1) (by omega);have t2:=href.at (i:=a.now.s.length-2) (by omega);have e0:rDoes i (rNext a)=rReck i.op (a.now.s.take (a.now.s.length-2)) (cAt a ((a.now.s[a.now.s.length-2]?).getD 0)) (cAt a ((a.now.s[a.now.s.length-1]?).getD 0)) (rNext a):=by
        unfold rDoes;rw[if_neg (by omega),if_neg (by omega),if_neg (by omega),if_neg (by omega),if_neg (by omega),if_neg (by omega),if_neg (by omega),if_neg (by omega),if_neg (by omega),if_neg (by omega),if_neg (by omega),if_neg (by omega),if_neg (by omega)];rfl
       obtain⟨x,hx⟩:∃x:Nat,(a.now.s[a.now.s.length-2]?).getD 0=(x:Int):=⟨((a.now.s[a.now.s.length-2]?).getD 0).toNat,by omega⟩;obtain⟨y,hy⟩:∃y:Nat,(a.now.s[a.now.s.length-1]?).getD 0=(y:Int):=⟨((a.now.s[a.now.s.length-1]?).getD 0).toNat,by omega⟩;rw[hx]at t2 e0;rw[hy]at t1 e0;have hx':x<(nextS (stepS m)).cells.length:=by rw[hcel,hmc];omega
       have hy':y<(nextS (stepS m)).cells.length:=by rw[hcel,hmc];omega
       refine(calculate_any i.op e hM hm1 (by omega) (by omega) (s:=flat a++a.now.s.take (a.now.s.length-2)) (x:=x) (y:=y) ?_ hx' hy').mono λe' w'' hr=>do_fin hA hB hr ?_
       ·rw[hstk,hms,List.append_assoc,<-hx,<-hy,<-last2 a.now.s hn2]
       ·rw[e0];have c1:(nextS (stepS m)).cells[x]=cAt a (x:Int):=by
         unfold cAt;rw[Int.toNat_natCast];simp only[hcel,hmc];rw[List.getElem?_eq_getElem (by omega)];rfl
        have c2:(nextS (stepS m)).cells[y]=cAt a (y:Int):=by
         unfold cAt;rw[Int.toNat_natCast];simp only[hcel,hmc];rw[List.getElem?_eq_getElem (by omega)];rfl
        rw[c1,c2];exact cal_sim r1 hS i.op _ _ hn2
      ·obtain rfl:o=15:=by omega
       simp[needR]at w1;have ha:=a1 (by omega);obtain⟨n,hn⟩:∃n:Nat,i.a % 256=(n:Int):=⟨(i.a % 256).toNat,by omega⟩;have e0:rDoes i (rNext a)=if rRoomB 1 (rNext a) then rMake ⟨3,i.a / 256,0,0,a.now.s.drop (a.now.s.length-(i.a % 256).toNat)⟩ (rStk (a.now.s.take (a.now.s.length-(i.a % 256).toNat)) (rRoomS 1 (rNext a))) else rEnd 2 (rNext a):=by unfold rDoes;rw[e];rfl
       have et:i.a.tdiv 256=i.a / 256:=Int.tdiv_eq_ediv_of_nonneg ha.1;refine⟨by omega,?_⟩;rw[et,e0,hn,Int.toNat_natCast];have hps:=pack_sim r1 hS (i.a / 256) n (by show n<=a.now.s.length;omega);by_cases hz:m.stack.length=0
       ·have hn0:n=0:=by omega
        subst hn0;exact(pack0_any (i.a / 256) hM hm1 (by omega) (by rw[hstk];exact List.eq_nil_of_length_eq_zero hz)).mono λe' w'' hr=>do_fin hA hB hr hps
       ·exact(pack_any (i.a / 256) n (by omega) hM hm1 (by omega) (by omega) (by rw[hstk];omega) (by rw[hstk];omega)).mono λe' w'' hr=>do_fin hA hB hr hps
      ·obtain rfl:o=16:=by omega
       simp[needR]at w1;have t1:=href.at (i:=a.now.s.length-1) (by omega);have e0:rDoes i (rNext a)=rSplit i.a (rNext a):=by unfold rDoes;rw[e];rfl
       obtain⟨y,hy⟩:∃y:Nat,(a.now.s[a.now.s.length-1]?).getD 0=(y:Int):=⟨((a.now.s[a.now.s.length-1]?).getD 0).toNat,by omega⟩;rw[hy]at t1;have hy':y<(nextS (stepS m)).cells.length:=by rw[hcel,hmc];omega
       have hgl2:((rNext a).now.s.getLast?).getD 0=(y:Int):=by rw[List.getLast?_eq_getElem?];exact hy
       have hss:=split_sim r1 hS i.a (by show 0<a.now.s.length;omega);rw[hgl2]at hss;refine(split_any i.a hM (by omega) (s:=flat a++a.now.s.take (a.now.s.length-1)) (r:=y) ?_ hy' ?_).mono λe' w'' hr=>do_fin hA hB hr ?_
       ·rw[hstk,hms,List.append_assoc,<-hy,<-last1 a.now.s (by omega)]
       ·have hy2:y<a.cells.length:=by omega
        have:=(hw.b.cells a.cells[y] (List.getElem_mem hy2)).fl;simp only[hcel,hmc];omega
       ·rw[e0];exact hss
      ·obtain rfl:o=17:=by omega
       simp[needR]at w1;have t1:=href.at (i:=a.now.s.length-1) (by omega);have e0:rDoes i (rNext a)=rFork i.alts (rNext a):=by unfold rDoes;rw[e];rfl
       obtain⟨y,hy⟩:∃y:Nat,(a.now.s[a.now.s.length-1]?).getD 0=(y:Int):=⟨((a.now.s[a.now.s.length-1]?).getD 0).toNat,by omega⟩;rw[hy]at t1;have hy':y<(nextS (stepS m)).cells.length:=by rw[hcel,hmc];omega
       have hal:AlM lo w' av i.alts:=by
        obtain⟨b,n,c,k4,kav⟩:=hav;obtain⟨cs,ds,cv,sv,kv,dv,tv,hMM,-⟩:=hM;have hcd:=hMM.cd;have hk4:=hMM.m.at 4 rfl;have hcode:(nextS (stepS m)).fr.code=m.fr.code:=by rw[stepS_ok hsb];rfl
        rw[hcode]at hcd;obtain⟨b',av',-,ekv,kav',hal⟩:=hcd.alts hk;rw[hk4,ekv]at k4;cases k4;rw[kav']at kav;cases kav;rw[hin]at hal;exact hal
       obtain⟨hlen,hgood⟩:=insL_good hI.f;refine(fork_any i.alts av hal (λx hx=>?_) (by omega) hM (by omega) (s:=flat a++a.now.s.take (a.now.s.length-1)) (r:=y) ?_ hy').mono λe' w'' hr=>do_fin hA hB hr ?_
       ·have:=hgood x hx;omega
       ·rw[hstk,hms,List.append_assoc,<-hy,<-last1 a.now.s (by omega)]
       ·rw[e0];exact fork_sim r1 hS i.alts (by show 0<a.now.s.length;omega)
      ·have e0:rDoes i (rNext a)={rNext a with now:={(rNext a).now with at_:=i.a}}:=by unfold rDoes;rw[e];rfl
       obtain⟨cs,ds,cv,sv,kv,dv,tv,hMM,hBe⟩:=hM;refine⟨⟨_,hMM.m.at 5 rfl⟩,hMM.m.fz 5,{nextS (stepS m) with fr:={(nextS (stepS m)).fr with at_:=i.a}},by rw[e0];exact simA_at r1 hS i.a,rfl,hA.set ?_ _,B',⟨cs,ds,cv,sv,kv,dv,tv,hMM.setM (i:=5) rfl (by omega) rfl rfl rfl rfl hMM.cd,hBe⟩,hB⟩;exact hB M (by rw[hBe];exact List.mem_cons_self ..)
      ·have e0:rDoes i (rNext a)=rEnd 4 (rNext a):=by unfold rDoes;rw[e];rfl
       exact(stop_any 4 hM).mono λe' w'' hr=>do_fin hA hB hr (by rw[e0];exact stop_sim r1 hS 4)
     ·obtain⟨rfl,m',h1,h2⟩:=hr;exact⟨m',h1,h2⟩
end
structure SimT (t:List UInt8) (a:ASt) (m:MSt):Prop where
 cells:m.cells=a.cells
 su:m.su=a.steps
 sm:m.sm=a.fuel
 mu:m.mu=a.used
 mm:m.mm=a.spare
 kind:m.kind=a.kind
 text:m.text=t
section
variable {lo:Nat} {w:World} {M Pb:Nat} {m:MSt} {B:List Nat} {gs:List LGlob} {D:Nat->Nat->Int} {t:List UInt8} {a b:ASt} {gp:Option Addr} {gc:Nat} {G:Nat->Int×Option Addr×Nat×Nat}
theorem SimT.begin(h:SimT t a m)(c:Int):Sim0 gs t (aBegin c a) (beginS c m):=⟨h.cells,rfl,rfl,rfl,h.su,h.sm,h.mu,h.mm,rfl,h.kind,h.text⟩
theorem SimR.state{r:AR}(h:SimR gs t r m):(r.2=none∧r.1.ended=false∧m.state=0∧Sim gs t r.1 m)∨(m.state≠0∧(r.2≠none∨r.1.ended=true)):=by
 obtain⟨x,o⟩:=r;unfold SimR at h;cases o with
 |some v=>exact Or.inr ⟨by rw[h.state];decide,Or.inl (by simp)⟩
 |none=>
  simp only at h;cases he:x.ended with
  |true=>rw[he]at h;exact Or.inr ⟨by rw[h.state];decide,Or.inr rfl⟩
  |false=>rw[he]at h;exact Or.inl ⟨rfl,rfl,h.state,h⟩
theorem SimR.meter{r:AR}(h:SimR gs t r m):m.su=r.1.steps∧m.sm=r.1.fuel:=by
 obtain⟨x,o⟩:=r;unfold SimR at h;cases o with
 |some v=>exact⟨h.su,h.sm⟩
 |none=>
  simp only at h;cases he:x.ended with
  |true=>rw[he]at h;exact⟨h.su,h.sm⟩
  |false=>rw[he]at h;exact⟨h.su,h.sm⟩
theorem muS_le{m m':MSt}(h:m.state=0)(hs:m'.sm=m.sm)(h1:m.su<m.sm)(h2:m.su+1<=m'.su):muS m'<muS m:=by
 unfold muS;rw[h,hs];split<;>split<;>omega
def EvI(gs:List LGlob)(D:Nat->Nat->Int)(t:List UInt8)(a:ASt)(R:AR)(m:MSt):Prop:=∃r,SimR gs t r m∧aEnd gs r=R∧ResOk gs D a r
theorem evaluate_both(hG:ImgOk gs D)(hP:ImG lo w Pb gs gp gc G)(h:MM lo w M Pb m B)(hs:SimT t a m)(hw:WfB gs a){c:Int}(hc:0<=c∧c<(a.cells.length:Int)):
 Calls Tryz.prog 54 #[.pointer (some ⟨M,0,none⟩),.int .i32 c] w λe w'=>∃m',SimR gs t (aWork gs c a) m'∧m'.state≠0∧MRes lo M Pb B w m' (evV m') e w':=by
 obtain⟨e1,e2,e3⟩:=aWork_end hG hw hc;have hwf:WfC gs D (aBegin c a):=begin_wf hw hc;have hlk:=aLook_res hG _ hwf rfl;refine(evaluate_any c (EvI gs D t a (aWork gs c a)) h (λw' B' hM hb=>?_) (λw' m' B' hj h0 hM hb=>?_) (λm' hj h0 h2=>?_)).mono λe w' hr=>?_
 ·refine(look_both hG (hP.low hb) hM (hs.begin c) hwf).mono ?_;rintro e w'' ⟨m2,hsm,hr⟩;exact⟨m2,⟨_,hsm,e1.symm,ResOk.after (a:=a) hlk rfl rfl (Int.le_refl _)⟩,hr⟩
 ·obtain⟨r,hsr,her,hrr⟩:=hj;rcases hsr.state with⟨hr2,hre,-,hsim⟩|⟨hn,-⟩
  ·obtain⟨b,o⟩:=r;simp only at hr2 hre hsim;subst hr2;have hwb:WfA gs D b:=by
    have:=hrr.2;simp only at this;rw[hre]at this;exact this
   refine(do_any hG (hP.low hb) hM hsim hwb).mono ?_;rintro e w'' ⟨m2,hsm,hr⟩;have hres:=aDo_res hG hwb;refine⟨m2,⟨_,hsm,?_,hres.after hrr.1.1 hrr.1.2.1 hrr.1.2.2⟩,?_,hr⟩
   ·rw[<-aEnd_next hG hwb];exact her
   ·obtain⟨u1,u2⟩:=hsm.meter;have hst:=hwb.b.steps;cases hbb:rStepB b with
    |true=>
     have h1:=aDo_steps hG hwb hbb;have h2:=(rStep_yes hwb.b).2 hbb;exact muS_le h0 (by rw[u2,hres.1.1,hsim.sm]) (by rw[hsim.su,hsim.sm];exact h2) (by rw[u1,hsim.su];exact h1)
    |false=>
     have e4:aDo gs b=(rEnd 1 b,none):=by unfold aDo;rw[hbb,(rStep_no hwb.b).2 hbb];rfl
     have e5:rEnd 1 b={b with ended:=true,kind:=1}:=by unfold rEnd;rw[hre];rfl
     rw[e4,e5]at hsm;have hE:SimE t {b with ended:=true,kind:=1} m2:=hsm;unfold muS;rw[hE.su,hE.sm,hE.state,h0,hsim.su,hsim.sm];simp
  ·exact absurd h0 hn
 ·obtain⟨⟨x,o⟩,hsr,-,-⟩:=hj;unfold SimR at hsr;cases o with
  |some v=>rw[hsr.stack];simp
  |none=>
   simp only at hsr;cases he:x.ended with
   |true=>rw[he]at hsr;exact absurd hsr.state h2
   |false=>rw[he]at hsr;exact absurd hsr.state h0
 ·obtain⟨m',⟨r,hsr,her,-⟩,h0,hr⟩:=hr;rcases hsr.state with⟨-,-,h1,-⟩|⟨-,hd⟩
  ·exact absurd h1 h0
  ·rw[aEnd_done hd]at her;subst her;exact⟨m',hsr,h0,hr⟩
end
def TlS(r:TRes)(m:MSt):Prop:=match r.2 with
 |some t1=>SimT t1 r.1 m
 |none=>m.kind=r.1.kind∧m.su=r.1.steps∧m.mu=r.1.used
def TlR(lo M Pb:Nat)(B:List Nat)(w:World)(r:TRes)(e:Ending)(w':World):Prop:=∃m',TlS r m'∧MRes lo M Pb B w m' (.bool r.2.isSome) e w'
structure TlG (lo Pb:Nat) (gs:List LGlob) (D:Nat->Nat->Int) (gp:Option Addr) (gc:Nat) (G:Nat->Int×Option Addr×Nat×Nat) (w:World):Prop where
 g:ImgOk gs D
 im:ImG lo w Pb gs gp gc G
 tab:Lib.TabBelow Tryz.prog lo w "internal/strconv.uint64pow10" .u64 Lib.pow10Tab
section
variable {lo:Nat} {w:World} {M Pb:Nat} {m:MSt} {B:List Nat} {gs:List LGlob} {D:Nat->Nat->Int} {t:List UInt8} {a b:ASt} {gp:Option Addr} {gc:Nat} {G:Nat->Int×Option Addr×Nat×Nat}
theorem TlG.low{w':World}(h:TlG lo Pb gs D gp gc G w)(hb:Below lo w w'):TlG lo Pb gs D gp gc G w':=⟨h.g,h.im.low hb,h.tab.on hb⟩
theorem TlR.of{B1:List Nat}{w1 w':World}{r:TRes}{e:Ending}(h1:AG B w w1)(h2:∀b∈B1,b∈B∨w.heap.size<=b)(h:TlR lo M Pb B1 w1 r e w'):TlR lo M Pb B w r e w':=by
 obtain⟨m',hs,hr⟩:=h;have he:=hr.1;exact⟨m',hs,hr.of h1 h2 he⟩
theorem TlR.ret{w':World}{r:TRes}{e:Ending}(h:TlR lo M Pb B w r e w'):e=.returned (.bool r.2.isSome):=by
 obtain⟨m',-,he,-⟩:=h;exact he
theorem say_both(h:MM lo w M Pb m B)(hs:SimT t a m)(hl:a.ended=false)(s:ByteArray)(hz:s.size<=1000000)(ht:t.length<=2000):
 Calls Tryz.prog 56 #[.pointer (some ⟨M,0,none⟩),.string s] w λe w'=>TlR lo M Pb B w (tSay s.data.toList a t λt'=>(a,some t')) e w':=by
 refine(say_any s h hz (by rw[hs.text];exact ht)).mono λe w' hr=>?_;have e1:s.data.toList.length=s.size:=by rw[Array.length_toList];rfl
 unfold sayS sayB at hr;rw[hs.text]at hr;unfold tSay;rw[e1];by_cases hc:t.length+s.size<=2000
 ·rw[if_pos hc];rw[decide_eq_true hc,if_pos rfl]at hr;exact⟨{m with text:=t++s.data.toList},⟨hs.cells,hs.su,hs.sm,hs.mu,hs.mm,hs.kind,rfl⟩,hr⟩
 ·rw[if_neg hc];rw[decide_eq_false hc,if_neg (by simp)]at hr;have e8:rEnd 8 a={a with ended:=true,kind:=8}:=by unfold rEnd;rw[hl];rfl
  rw[e8];exact⟨stopS 8 m,⟨rfl,hs.su,hs.mu⟩,hr⟩
theorem tTodo_len:∀(n:Nat) {L:List TD} {a a1:ASt} {t t1:List UInt8},tTodo gs n L a t=(a1,some t1)->t.length<=t1.length∧(t.length<=2000->t1.length<=2000)
 |n,[],a,a1,t,t1,h=>by
  have:(a,some t)=(a1,some t1):=by cases n<;>exact h
  cases this;exact⟨Nat.le_refl _,id⟩
 |0,_::_,_,_,_,_,h=>by cases h
 |n+1,(s,c)::L,a,a1,t,t1,h=>by
  have hsay:∀(s:List UInt8) (b:ASt) (L':List TD),tSay s b t (λt'=>tTodo gs n L' b t')=(a1,some t1)->t.length<=t1.length∧(t.length<=2000->t1.length<=2000):=λs b L' h=>by
   unfold tSay at h;split at h
   ·rename_i hl
    have:=tTodo_len n h;rw[List.length_append]at this;omega
   ·cases h
  rw[tTodo]at h;split at h
  ·split at h
   ·exact hsay _ _ _ h
   ·cases h
  ·exact hsay _ _ _ h
theorem tEnd_len{L:List TD}{a a1:ASt}{t t1:List UInt8}(h:tEnd gs L a t=(a1,some t1)):t.length<=t1.length∧(t.length<=2000->t1.length<=2000):=tTodo_len _ h
theorem tell_hd(hG:ImgOk gs D)(hw:WfB gs a){c:Int}(hc:0<=c∧c<(a.cells.length:Int)):tEnd gs [([],c)] a t=match tVal gs c a with
 |(a1,some x)=>tSay (tPiece x) a1 t λt'=>tEnd gs (tMore x) a1 t'
 |(a1,none)=>(a1,none):=by
 rw[tEnd_cell hG hw (λp hp=>by rw[List.mem_singleton.1 hp];exact hc.2) hc.1];rcases tVal gs c a with⟨a1,_|x⟩
 ·rfl
 ·simp only[List.append_nil]
def RecC(lo M Pb:Nat)(gs:List LGlob)(D:Nat->Nat->Int)(gp:Option Addr)(gc:Nat)(G:Nat->Int×Option Addr×Nat×Nat)(n:Nat):Prop:=∀(w:World) (m:MSt) (B:List Nat) (t:List UInt8) (a:ASt) (x:MCl) (p:Option Addr) (k c:Nat),2000<=t.length+n->t.length<=2000->TlG lo Pb gs D gp gc G w->MM lo w M Pb m B->SimT t a m->WfB gs a->CellOk gs.length a.cells.length x->x.kind=3->FldX (λb=>lo<=b∧b∉B) w (.slice p k c) x.fields->
 Calls Tryz.prog 57 #[.pointer (some ⟨M,0,none⟩),.agg #[.int .u8 3,.int .i64 x.n,.int .i32 x.left,.int .i32 x.right,.slice p k c]] w λe w'=>TlR lo M Pb B w (tSay (tPiece x) a t λt'=>tEnd gs (tMore x) a t') e w'
def TelC(lo M Pb:Nat)(gs:List LGlob)(D:Nat->Nat->Int)(gp:Option Addr)(gc:Nat)(G:Nat->Int×Option Addr×Nat×Nat)(n:Nat):Prop:=∀(w:World) (m:MSt) (B:List Nat) (t:List UInt8) (a:ASt) (c:Int),2000<=t.length+n->t.length<=2000->TlG lo Pb gs D gp gc G w->MM lo w M Pb m B->SimT t a m->WfB gs a->0<=c∧c<(a.cells.length:Int)->
 Calls Tryz.prog 35 #[.pointer (some ⟨M,0,none⟩),.int .i32 c] w λe w'=>TlR lo M Pb B w (tEnd gs [([],c)] a t) e w'
theorem SimR.ended{r:AR}(h:SimR gs t r m)(he:r.1.ended=true)(hn:r.2=none):SimE t r.1 m:=by
 obtain⟨x,o⟩:=r;simp only at he hn;subst hn;unfold SimR at h;simp only[he]at h;exact h
theorem SimR.val{x:ASt}{v:Int}(h:SimR gs t (x,some v) m):SimV t v x m:=h
theorem MM.cellOf(h:MM lo w M Pb m B){r:Nat}(hr:r<m.cells.length):∃(g n c:Nat) (fp:Option Addr) (fn fc:Nat),r<n∧w.cell? ⟨M,1,none⟩=some (.slice (some ⟨g,0,none⟩) n c)∧(w.cell? ⟨g,r*5,none⟩=some (.int .u8 m.cells[r].kind)∧w.cell? ⟨g,r*5+1,none⟩=some (.int .i64 m.cells[r].n)∧w.cell? ⟨g,r*5+2,none⟩=some (.int .i32 m.cells[r].left)∧w.cell? ⟨g,r*5+3,none⟩=some (.int .i32 m.cells[r].right)∧w.cell? ⟨g,r*5+4,none⟩=some (.slice fp fn fc))∧FldX (λb=>lo<=b∧b∉B) w (.slice fp fn fc) m.cells[r].fields:=by
 obtain⟨cs,ds,cv,sv,kv,dv,tv,h,hBe⟩:=h;obtain⟨cg,cc,fp,fn,fc,hcv,r0,r1,r2,r3,r4,-⟩:=h.cellAt (r:=r) hr;have hfx:=h.fldAt hr hcv r4;have h1:=h.m.at 1 rfl;rw[hBe];exact⟨cg,m.cells.length,cc,fp,fn,fc,hr,by rw[h1,hcv],⟨r0,r1,r2,r3,r4⟩,hfx⟩
theorem tell_any{n:Nat}(hRec:RecC lo M Pb gs D gp gc G n):TelC lo M Pb gs D gp gc G n:=by
 intro w m B t a c hn ht hg h hs hw hc;have hR:=tell_hd (t:=t) hg.g hw hc;obtain⟨R,hRe⟩:∃R,tEnd gs [([],c)] a t=R:=⟨_,rfl⟩;rw[hRe]at hR ⊢;have hlow:=h.lows;have HEV:=evaluate_both hg.g hg.im h hs hw hc;obtain⟨-,-,hE⟩:=aWork_end hg.g hw hc;have hRes:=(aWork_end hg.g hw hc).2.1;rcases tVal_ok hg.g hw hc with⟨x,v,ew,hsb,hv0,hv1,hx,etv,hW1,hcl,hmu,hck⟩|⟨etv,hsb,hen⟩
 ·rw[etv]at hR;simp only at hR;obtain⟨r,rfl⟩:∃r:Nat,v=(r:Int):=⟨v.toNat,by omega⟩;generalize (tVal gs c a).1=a2 at*;have ea:(aWork gs c a).1={a2 with steps:=a2.steps-1}:=by rw[ew]
  have eo:(aWork gs c a).2=some (r:Int):=by rw[ew]
  have hr2:r<a2.cells.length:=by rw[ea]at hv1;simp only at hv1;omega
  have HE:Hid (Calls Tryz.prog 54 #[.pointer (some ⟨M,0,none⟩),.int .i32 c] w λe w1=>e=.returned (.tuple #[.int .i32 (r:Int),.bool true])∧Hid (Calls Tryz.prog 55 #[.pointer (some ⟨M,0,none⟩)] w1 λe w2=>e=.returned (.bool true)∧∃m2 B2,Hid (SimT t a2 m2∧MM lo w2 M Pb m2 B2∧AG B w w2∧(∀b∈B2,b∈B∨w.heap.size<=b)))):=by
   refine HEV.mono λe w1 hr=>?_;obtain⟨m1,hs1,h0,hr1⟩:=hr;rw[ew]at hs1;have hv:=hs1.val;obtain⟨rfl,hA1,B1,hM1,hB1⟩:=hr1;refine⟨by unfold evV;rw[if_neg (by rw[hv.state];decide),hv.stack];rfl,?_⟩;have hmt:Mtr m1:=by
    have h1:=hW1.steps;have h2:0<=(aWork gs c a).1.steps:=Int.le_trans hw.steps.1 hRes.1.2.2;rw[ea]at h2;simp only at h2;exact⟨by rw[hv.su,hv.sm];simp only;omega,by rw[hv.sm];exact hW1.fuel,by rw[hv.mu,hv.mm];exact hW1.used,by rw[hv.mm];exact hW1.spare⟩
   have hsb1:stepM m1=true:=by
    have h1:=hW1.steps;unfold stepM;rw[hv.su,hv.sm];simp only[decide_eq_true_eq];omega
   refine(step_any hM1 hmt).mono λe w2 hr2=>?_;rw[hsb1,stepS_ok hsb1]at hr2;have he:=hr2.1;obtain⟨-,hA2,B2,hM2,hB2⟩:=hr2;refine⟨he,{m1 with su:=m1.su+1},B2,⟨hv.cells,?_,hv.sm,hv.mu,hv.mm,hv.kind,hv.text⟩,hM2,hA1.trans hA2 hB1,λb hb=>(hB2 b hb).elim (hB1 b) λh1=>Or.inr (Nat.le_trans hA1.size h1)⟩;show m1.su+1=a2.steps;rw[hv.su];simp
  have HTW:Hid (∀w2 m2 B2,SimT t a2 m2->MM lo w2 M Pb m2 B2->AG B w w2->(∀b∈B2,b∈B∨w.heap.size<=b)->∃(g n c:Nat) (fp:Option Addr) (fn fc:Nat),(r:Int)<(n:Int)∧w2.cell? ⟨M,1,none⟩=some (.slice (some ⟨g,0,none⟩) n c)∧(w2.cell? ⟨g,r*5,none⟩=some (.int .u8 x.kind)∧w2.cell? ⟨g,r*5+1,none⟩=some (.int .i64 x.n)∧w2.cell? ⟨g,r*5+2,none⟩=some (.int .i32 x.left)∧w2.cell? ⟨g,r*5+3,none⟩=some (.int .i32 x.right)∧w2.cell? ⟨g,r*5+4,none⟩=some (.slice fp fn fc))∧
   Hid (x.kind=1->∀X,Below w2.heap.size w2 X->Calls Tryz.prog 38 #[.int .i64 x.n] X λe w3=>e=.returned (.string ⟨(Lib.itoa x.n).toArray⟩)∧Hid (Calls Tryz.prog 56 #[.pointer (some ⟨M,0,none⟩),.string ⟨(Lib.itoa x.n).toArray⟩] w3 λe w4=>e=.returned (.bool R.2.isSome)∧Hid (TlR lo M Pb B w R (.returned (.bool R.2.isSome)) w4)))∧
   Hid (x.kind=3->∀X,Below w2.heap.size w2 X->Calls Tryz.prog 57 #[.pointer (some ⟨M,0,none⟩),.agg #[.int .u8 3,.int .i64 x.n,.int .i32 x.left,.int .i32 x.right,.slice fp fn fc]] X λe w4=>e=.returned (.bool R.2.isSome)∧Hid (TlR lo M Pb B w R (.returned (.bool R.2.isSome)) w4))∧
   Hid (x.kind≠1->x.kind≠3->∀X,Below w2.heap.size w2 X->Calls Tryz.prog 56 #[.pointer (some ⟨M,0,none⟩),.string ⟨#[102,117,110]⟩] X λe w4=>e=.returned (.bool R.2.isSome)∧Hid (TlR lo M Pb B w R (.returned (.bool R.2.isSome)) w4))):=by
   intro w2 m2 B2 hs2 hM2 hA2 hB2;have hrm:r<m2.cells.length:=by rw[hs2.cells];exact hr2
   have hxm:m2.cells[r]=x:=by
    rw[hx];unfold cAt;rw[ea,Int.toNat_natCast];simp only[hs2.cells];rw[List.getElem?_eq_getElem hr2];rfl
   obtain⟨g,n',c',fp,fn,fc,hrn,k1,hcs,hfx⟩:=hM2.cellOf hrm;rw[hxm]at hcs hfx;have hb2:Below lo w w2:=hA2.low hlow.2 hlow.1;have hfin:∀{X:World} {e:Ending} {w4:World},Below w2.heap.size w2 X->TlR lo M Pb B2 X R e w4->e=.returned (.bool R.2.isSome)∧Hid (TlR lo M Pb B w R (.returned (.bool R.2.isSome)) w4):=λhX hr=>by
    have he:=hr.ret;subst he;exact⟨rfl,hr.of (hA2.then hX) hB2⟩
   have hdone:∀b' t',tEnd gs [] b' t'=(b',some t'):=λb' t'=>tEnd_nil b' t';have hlz:=hM2.lows.1;refine⟨g,n',c',fp,fn,fc,by omega,k1,hcs,λhk X hX=>?_,λhk X hX=>?_,λhk1 hk3 X hX=>?_⟩
   ·have hxn:=hck.n;have hil:=Lib.itoa_length_le x.n hxn.1 hxn.2;refine(itoa_any x.n hxn.1 hxn.2 X ((hg.low (hb2.trans (hX.mono hlz))).tab.here)).mono λe w3 hr=>?_;obtain⟨rfl,k,os,hw3⟩:=hr;have hX3:Below w2.heap.size w2 w3:=by rw[hw3];exact hX.trans (Lib.below_grow _ _ hX.size k os)
    refine⟨rfl,(say_both (hM2.keep hX3) hs2 hW1.live ⟨(Lib.itoa x.n).toArray⟩ (by show(Lib.itoa x.n).toArray.size<=_;rw[List.size_toArray];omega) ht).mono λe w4 hr=>hfin hX3 ?_⟩;have hpi:tPiece x=Lib.itoa x.n:=by unfold tPiece;rw[if_pos hk]
    have hmo:tMore x=[]:=by unfold tMore;rw[if_neg (by omega)]
    rw[hR,hpi,hmo];simp only[hdone];exact hr
   ·have h3:=hRec X m2 B2 t a2 x fp fn fc hn ht (hg.low (hb2.trans (hX.mono hlz))) (hM2.keep hX) hs2 hW1 hck hk (hfx.fr λb h1 h2=>⟨h1,hX.block b h2⟩);refine h3.mono λe w4 hr=>hfin hX ?_;rw[hR];exact hr
   ·refine(say_both (hM2.keep hX) hs2 hW1.live ⟨#[102,117,110]⟩ (by show(3:Nat)<=_;omega) ht).mono λe w4 hr=>hfin hX ?_;have hpi:tPiece x=[102,117,110]:=by unfold tPiece;rw[if_neg hk1,if_neg hk3]
    have hmo:tMore x=[]:=by unfold tMore;rw[if_neg hk3]
    rw[hR,hpi,hmo];simp only[hdone];exact hr
  clear h hs hw hg hlow HEV hE hRes ew hsb hv0 hv1 hx etv hW1 hcl hmu hck hR hRe ea eo hr2 hc hn ht hRec;obtain⟨rb,hrb⟩:∃rb,R.2.isSome=rb:=⟨_,rfl⟩;rw[hrb]at HTW;obtain⟨xk,xn,xl,xr,xf⟩:=x;simp only at HTW;go_enter Tryz.func35,Tryz.ntmps35;go_upto_region 4 with(first
   |(go_at_call 54;refine HE.out.mono ?_;rintro e w1 ⟨rfl,HS⟩;clear HE)
   |(go_at_call 55;refine HS.out.mono ?_;rintro e w2 ⟨rfl,m2,B2,HM⟩;clear HS))
  obtain⟨g,n',c',fp,fn,fc,hrn,k1,⟨c0,c1,c2,c3,c4⟩,HA,HB,HC⟩:=HTW.out w2 m2 B2 HM.out.1 HM.out.2.1 HM.out.2.2.1 HM.out.2.2.2;clear HM HTW;go_cut [7] (λv7 wx=>∃b7:Nat,v7=.pointer (some ⟨b7,0,none⟩)∧(wx.cell? ⟨b7,0,none⟩=some (.int .u8 xk)∧wx.cell? ⟨b7,1,none⟩=some (.int .i64 xn)∧wx.cell? ⟨b7,2,none⟩=some (.int .i32 xl)∧wx.cell? ⟨b7,3,none⟩=some (.int .i32 xr)∧wx.cell? ⟨b7,4,none⟩=some (.slice fp fn fc))∧Hid (Below w2.heap.size w2 wx))
  case first=>
   have hN:=FBL.new5 w2 (.int .u8 xk) (.int .i64 xn) (.int .i32 xl) (.int .i32 xr) (.slice fp fn fc) 154;have HN:=hid hN;clear hN;go_wp2;go_meet
   exact⟨_,rfl,⟨HN.out.at 0 rfl,HN.out.at 1 rfl,HN.out.at 2 rfl,HN.out.at 3 rfl,HN.out.at 4 rfl⟩,(Below.refl _ _).alloc (Nat.le_refl _) _⟩
  case rest=>
   clear c0 c1 c2 c3 c4 k1 hrn;rename World=>wx
   obtain⟨b7,rfl,⟨c0,c1,c2,c3,c4⟩,HBX⟩:=hcut;by_cases h1:xk=1
   ·subst h1;have HI:=hid (HA.out rfl wx HBX.out);clear HA HB HC HBX;go_wp2_with (first
     |(go_at_call 38;refine HI.out.mono ?_;rintro e w3 ⟨rfl,HS⟩;clear HI)
     |(go_at_call 56;refine HS.out.mono ?_;rintro e w4 ⟨rfl,HRR⟩;clear HS))
    go_ret;exact HRR.out
   ·by_cases h3:xk=3
    ·subst h3;have HI:=hid (HB.out rfl wx HBX.out);clear HA HB HC HBX;go_wp2_with (first
      |(go_at_call 57;refine HI.out.mono ?_;rintro e w4 ⟨rfl,HRR⟩;clear HI))
     go_ret;exact HRR.out
    ·have HI:=hid (HC.out h1 h3 wx HBX.out);clear HA HB HC HBX;go_wp2_with (first
      |(go_at_call 56;refine HI.out.mono ?_;rintro e w4 ⟨rfl,HRR⟩;clear HI))
     go_ret;exact HRR.out
 ·rw[etv]at hR;simp only at hR;subst hR;have hns:(rStepS (aWork gs c a).1,(none:Option (List UInt8))).2.isSome=false:=rfl;have hfin:∀{e:Ending} {w':World} {m':MSt},MRes lo M Pb B w m' (.bool false) e w'->(m'.kind=(rStepS (aWork gs c a).1).kind∧m'.su=(rStepS (aWork gs c a).1).steps∧m'.mu=(rStepS (aWork gs c a).1).used)->TlR lo M Pb B w (rStepS (aWork gs c a).1,none) e w':=λhr hk=>⟨_,hk,hr⟩;cases hae:(aWork gs c a).1.ended with
  |true=>
   have ho:(aWork gs c a).2=none:=by
    cases hx:(aWork gs c a).2 with
    |none=>rfl
    |some v=>
     have h2:=hRes.2;rw[hx]at h2;have:=h2.1.live;rw[hae]at this;cases this
   have est:rStepS (aWork gs c a).1=(aWork gs c a).1:=by
    unfold rStepS rEnd;rw[hae];split<;>rfl
   have HE:Hid (Calls Tryz.prog 54 #[.pointer (some ⟨M,0,none⟩),.int .i32 c] w λe w1=>e=.returned (.tuple #[.int .i32 0,.bool false])∧Hid (TlR lo M Pb B w (rStepS (aWork gs c a).1,none) (.returned (.bool false)) w1)):=by
    refine HEV.mono λe w1 hr=>?_;obtain⟨m1,hs1,h0,hr1⟩:=hr;have hv:=hs1.ended hae ho;have hev:evV m1=.tuple #[.int .i32 0,.bool false]:=by unfold evV;rw[if_pos hv.state]
    have he:=hr1.1;rw[hev]at he;exact⟨he,hfin (hr1.of (AG.refl _ _) (λb hb=>Or.inl hb) rfl) (by rw[est];exact⟨hv.kind,hv.su,hv.mu⟩)⟩
   clear h hs hw hg hlow HEV hE hRes etv hsb hen hc hn ht hRec hfin ho est hae hns hRe;go_enter Tryz.func35,Tryz.ntmps35;go_wp2_with (first
    |(go_at_call 54;refine HE.out.mono ?_;rintro e w1 ⟨rfl,HRR⟩;clear HE))
   go_ret;exact HRR.out
  |false=>
   obtain⟨v,ho⟩:∃v,(aWork gs c a).2=some v:=by
    cases hx:(aWork gs c a).2 with
    |none=>
     rcases hE with h1|h1
     ·exact absurd hx h1
     ·rw[hae]at h1;cases h1
    |some v=>exact⟨v,rfl⟩
   have hwb:WfB gs (aWork gs c a).1:=by
    have h2:=hRes.2;rw[ho]at h2;exact h2.1
   have est:rStepS (aWork gs c a).1={(aWork gs c a).1 with ended:=true,kind:=1}:=by
    rw[(rStep_no hwb).2 hsb];unfold rEnd;rw[hae];rfl
   have ew:aWork gs c a=((aWork gs c a).1,some v):=by rw[<-ho]
   have HE:Hid (Calls Tryz.prog 54 #[.pointer (some ⟨M,0,none⟩),.int .i32 c] w λe w1=>e=.returned (.tuple #[.int .i32 v,.bool true])∧Hid (Calls Tryz.prog 55 #[.pointer (some ⟨M,0,none⟩)] w1 λe w2=>e=.returned (.bool false)∧Hid (TlR lo M Pb B w (rStepS (aWork gs c a).1,none) (.returned (.bool false)) w2))):=by
    refine HEV.mono λe w1 hr=>?_;obtain⟨m1,hs1,h0,hr1⟩:=hr;rw[ew]at hs1;have hv:=hs1.val;obtain⟨rfl,hA1,B1,hM1,hB1⟩:=hr1;refine⟨by unfold evV;rw[if_neg (by rw[hv.state];decide),hv.stack];rfl,?_⟩;have hmt:Mtr m1:=⟨by rw[hv.su,hv.sm];exact hwb.steps,by rw[hv.sm];exact hwb.fuel,by rw[hv.mu,hv.mm];exact hwb.used,by rw[hv.mm];exact hwb.spare⟩;have hsb1:stepM m1=false:=by rw[step_sim hwb hv.su hv.sm];exact hsb
    have es1:stepS m1=stopS 1 m1:=by unfold stepS;rw[hsb1];rfl
    refine(step_any hM1 hmt).mono λe w2 hr2=>?_;rw[hsb1,es1]at hr2;have he:=hr2.1;exact⟨he,hfin (hr2.of hA1 hB1 rfl) (by rw[est];exact⟨rfl,hv.su,hv.mu⟩)⟩
   clear h hs hw hg hlow HEV hE hRes etv hsb hen hc hn ht hRec hfin ho est hae hns hRe hwb ew;go_enter Tryz.func35,Tryz.ntmps35;go_wp2_with (first
    |(go_at_call 54;refine HE.out.mono ?_;rintro e w1 ⟨rfl,HS⟩;clear HE)
    |(go_at_call 55;refine HS.out.mono ?_;rintro e w2 ⟨rfl,HRR⟩;clear HS))
   go_ret;exact HRR.out
end
end Go.Proofs.YtahmgjjgikgpoaaGreatDoor
namespace Go.Proofs.YtahmgjjgikgpoaaGreatDoor
open Go.RowKit Go.Sort Go.Shelf
attribute [local go_sem] Oper.semAt_some
def bwV{zs:List Int}(pre:List (BwE zs)):List Int:=pre.map λy=>y.1.2
theorem cat40(l:List UInt8):(⟨#[40]⟩:ByteArray)++⟨l.toArray⟩=⟨(40::l).toArray⟩:=by
 apply ByteArray.ext;rw[ByteArray.data_append];simp
section
variable {lo:Nat} {w:World} {M Pb:Nat} {m:MSt} {B:List Nat} {gs:List LGlob} {D:Nat->Nat->Int} {t:List UInt8} {a b:ASt} {gp:Option Addr} {gc:Nat} {G:Nat->Int×Option Addr×Nat×Nat}
theorem tFl_snoc(l:List Int)(f:Int):tFl (l++[f])=tFl l++[([32],-1),([],f)]:=by simp[tFl]
def RcI(lo M Pb:Nat)(B:List Nat)(w:World)(gs:List LGlob)(a:ASt)(t:List UInt8)(l:List Int)(W:World):Prop:=∃a1 t1 m1 B1,tEnd gs (tFl l) a t=(a1,some t1)∧SimT t1 a1 m1∧MM lo W M Pb m1 B1∧AG B w W∧∀b∈B1,b∈B∨w.heap.size<=b
def RcX(lo M Pb rb:Nat)(B:List Nat)(w:World)(gs:List LGlob)(a:ASt)(t:List UInt8)(l:List Int)(W:World):Prop:=∃a1 m1 B1,tEnd gs (tFl l) a t=(a1,none)∧(m1.kind=a1.kind∧m1.su=a1.steps∧m1.mu=a1.used)∧MM lo W M Pb m1 B1∧AG (rb::B) w W∧(∀b∈B1,b∈B∨w.heap.size<=b)∧W.cell? ⟨rb,0,none⟩=some (.bool false)
theorem tFl_ok{l:List Int}(h:∀f∈l,0<=f∧f<(a.cells.length:Int)):TdOk (tFl l) a:=by
 intro p hp;obtain⟨f,hf,hp⟩:=List.mem_flatMap.1 hp;simp only[List.mem_cons,List.not_mem_nil,or_false]at hp;rcases hp with rfl|rfl
 ·show(-1:Int)<_;omega
 ·exact(h f hf).2
theorem rec_next(hG:ImgOk gs D)(hw:WfB gs a){l:List Int}{f:Int}(hl:∀f∈l,0<=f∧f<(a.cells.length:Int))(hf:0<=f∧f<(a.cells.length:Int)){a1:ASt}{t1:List UInt8}(e:tEnd gs (tFl l) a t=(a1,some t1)):
 WfB gs a1∧f<(a1.cells.length:Int)∧tEnd gs (tFl (l++[f])) a t=tSay [32] a1 t1 λt'=>tEnd gs [([],f)] a1 t':=by
 rw[tFl_snoc];rcases tEnd_app hG _ (X:=tFl l) (L:=[([32],-1),([],f)]) (t:=t) hw (tFl_ok hl) (λp hp=>by
  simp only[List.mem_cons,List.not_mem_nil,or_false]at hp;rcases hp with rfl|rfl
  ·show(-1:Int)<_;omega
  ·exact hf.2) (Nat.le_refl _) with⟨b1,s1,e1,e2,h1,h2,-⟩|⟨b1,e1,-⟩
 ·rw[e]at e1;cases e1;refine⟨h1,by omega,?_⟩;rw[e2,tEnd_piece (by decide)]
 ·rw[e]at e1;cases e1
theorem rec_last(hG:ImgOk gs D)(hw:WfB gs a){l:List Int}(hl:∀f∈l,0<=f∧f<(a.cells.length:Int)):
 (∀a1 t1,tEnd gs (tFl l) a t=(a1,some t1)->WfB gs a1∧tEnd gs (tFl l++[([41],-1)]) a t=tSay [41] a1 t1 λt'=>(a1,some t'))∧(∀a1,tEnd gs (tFl l) a t=(a1,none)->tEnd gs (tFl l++[([41],-1)]) a t=(a1,none)):=by
 rcases tEnd_app hG _ (X:=tFl l) (L:=[([41],-1)]) (t:=t) hw (tFl_ok hl) (λp hp=>by
  rw[List.mem_singleton.1 hp];show(-1:Int)<_;omega) (Nat.le_refl _) with⟨b1,s1,e1,e2,h1,h2,-⟩|⟨b1,e1,e2,-⟩
 ·refine⟨λa1 t1 e=>?_,λa1 e=>?_⟩
  ·rw[e]at e1;cases e1;refine⟨h1,?_⟩;rw[e2,tEnd_piece (by decide)];simp only[tEnd_nil]
  ·rw[e]at e1;cases e1
 ·refine⟨λa1 t1 e=>?_,λa1 e=>?_⟩
  ·rw[e]at e1;cases e1
  ·rw[e]at e1;cases e1;exact e2
theorem rec_cut(hG:ImgOk gs D)(hw:WfB gs a){l r:List Int}(hl:∀f∈l++r,0<=f∧f<(a.cells.length:Int)){a1:ASt}(e:tEnd gs (tFl l) a t=(a1,none)):tEnd gs (tFl (l++r)) a t=(a1,none):=by
 have ef:tFl (l++r)=tFl l++tFl r:=by simp[tFl]
 rw[ef];rcases tEnd_app hG _ (X:=tFl l) (L:=tFl r) (t:=t) hw (tFl_ok λf hf=>hl f (List.mem_append_left _ hf)) (tFl_ok λf hf=>hl f (List.mem_append_right _ hf)) (Nat.le_refl _) with⟨b1,s1,e1,-⟩|⟨b1,e1,e2,-⟩
 ·rw[e]at e1;cases e1
 ·rw[e]at e1;cases e1;exact e2
theorem FldX.setB{X:Nat->Prop}{w:World}{v:Value}{l:List Int}{b:Nat}{y z:Bool}(h:FldX X w v l)(hc:w.cell? ⟨b,0,none⟩=some (.bool y)):FldX X (w.setCell ⟨b,0,none⟩ (.bool z)) v l:=by
 obtain⟨p,cap,e,hcs⟩:=h;refine⟨p,cap,e,λi hi=>?_⟩;obtain⟨b',o,hx,e2,h0⟩:=hcs i hi;refine⟨b',o,hx,e2,?_⟩;by_cases hb:b'=b
 ·subst hb;by_cases ho:o+i=0
  ·rw[ho,hc]at h0;cases h0
  ·rw[setc (Ne.symm ho)];exact h0
 ·rw[World.cell?_of_block (a:=⟨b',o+i,none⟩) (Below.heap_setCell _ _ _ _ hb)];exact h0
theorem MM.setBox(h:MM lo w M Pb m B){b:Nat}(hb:b∉B)(hlo:lo<=b){y:Bool}(hc:w.cell? ⟨b,0,none⟩=some (.bool y))(z:Bool):MM lo (w.setCell ⟨b,0,none⟩ (.bool z)) M Pb m B:=by
 obtain⟨cs,ds,cv,sv,kv,dv,tv,h,rfl⟩:=h;have hbl:Below lo w (w.setCell ⟨b,0,none⟩ (.bool z)):=(Below.refl _ _).setCell hlo _;have hk:∀q∈mB M cv sv dv tv,(w.setCell ⟨b,0,none⟩ (.bool z)).heap[q]?=w.heap[q]?:=λq hq=>Below.heap_setCell _ _ _ _ (show q≠b from λe=>hb (e▸hq));have hfr:∀v,(∀q∈vB v,q∈vB cv++(vB sv++(vB dv++vB tv)))->Fr (vB v) w (w.setCell ⟨b,0,none⟩ (.bool z)):=λv hv q hm=>hk q (List.mem_cons_of_mem _ (hv q hm));exact⟨cs,ds,cv,sv,kv,dv,tv,⟨h.m.of_block (hk M (List.mem_cons_self ..)) (by simp),row_fr h.cl (hfr cv λb hb=>List.mem_append_left _ hb),λx hx=>(h.fl x hx).setB hc,row_fr h.sk (hfr sv λb hb=>List.mem_append_right _ (List.mem_append_left _ hb)),row_fr h.dp (hfr dv λb hb=>List.mem_append_right _ (List.mem_append_right _ (List.mem_append_left _ hb))),λx hx=>(h.dc x hx).fr hbl,h.cd.fr hbl,row_fr h.tx (hfr tv λb hb=>List.mem_append_right _ (List.mem_append_right _ (List.mem_append_right _ hb))),h.hcs,h.hds,h.nd,h.ml⟩,rfl⟩
theorem RcI.turn{B1:List Nat}{W2 X Y:World}{l:List Int}(h:RcI lo M Pb B1 W2 gs a t l X)(hlo:lo<=W2.heap.size){row:Option Nat}(hg:X.grownBy Y row)(hr:∀r,row=some r->W2.heap.size<=r∧∃o:Obj,X.heap[r]?=some o∧o.isCells=false):RcI lo M Pb B1 W2 gs a t l Y:=by
 obtain⟨a1,t1,m1,B2,h1,h2,h3,h4,h5⟩:=h;exact⟨a1,t1,m1,B2,h1,h2,h3.turn hg (λr e=>⟨Nat.le_trans hlo (hr r e).1,(hr r e).2⟩),h4.turn hg (λr e=>(hr r e).1),h5⟩
theorem RcX.turn{B1:List Nat}{W2 X Y:World}{l:List Int}{rb:Nat}(h:RcX lo M Pb rb B1 W2 gs a t l X)(hlo:lo<=W2.heap.size){row:Option Nat}(hg:X.grownBy Y row)(hr:∀r,row=some r->W2.heap.size<=r∧∃o:Obj,X.heap[r]?=some o∧o.isCells=false):RcX lo M Pb rb B1 W2 gs a t l Y:=by
 obtain⟨a1,m1,B2,h1,h2,h3,h4,h5,h6⟩:=h;exact⟨a1,m1,B2,h1,h2,h3.turn hg (λr e=>⟨Nat.le_trans hlo (hr r e).1,(hr r e).2⟩),h4.turn hg (λr e=>(hr r e).1),h5,cell_kept h6 hg (λr e=>(hr r e).2)⟩
def RcB(M s0 s2:Nat)(X:World):Prop:=X.cell? ⟨s0,0,none⟩=some (.pointer (some ⟨M,0,none⟩))∧X.cell? ⟨s2,0,none⟩=some (.bool false)∧X.frozen? ⟨s2,0,none⟩=false
def RcE(lo M Pb s2:Nat)(B1:List Nat)(W2:World)(gs:List LGlob)(a:ASt)(t:List UInt8)(l:List Int)(W X:World):Prop:=KeepsFrom W2.heap.size W X∧RcX lo M Pb s2 B1 W2 gs a t l X
def RcN(lo M Pb:Nat)(B1:List Nat)(W2:World)(gs:List LGlob)(a:ASt)(t:List UInt8)(l:List Int)(W X:World):Prop:=KeepsFrom W2.heap.size W X∧(W.heap.size<=X.heap.size∧∀q,q<W2.heap.size->q∉B1->X.heap[q]?=W.heap[q]?)∧RcI lo M Pb B1 W2 gs a t l X
theorem rec_body{W2 W:World}{B1:List Nat}{l:List Int}{f:Int}{s0 s2 k:Nat}(hg:TlG lo Pb gs D gp gc G W2)(hlo:lo<=W2.heap.size∧∀b∈B1,lo<=b)(hw:WfB gs a)(hl:∀f∈l,0<=f∧f<(a.cells.length:Int))(hf:0<=f∧f<(a.cells.length:Int))(hT:TelC lo M Pb gs D gp gc G k)(hn:2000<=t.length+1+k)(ht:t.length<=2000)(hI:RcI lo M Pb B1 W2 gs a t l W)(hs2:lo<=s2∧s2<W2.heap.size∧s2∉B1)(hBX:∀X,AG B1 W2 X->RcB M s0 s2 X):
 (Calls Tryz.prog 56 #[.pointer (some ⟨M,0,none⟩),.string ⟨#[32]⟩] W λe w5=>e=.returned (.bool false)∧RcB M s0 s2 w5∧Hid (RcE lo M Pb s2 B1 W2 gs a t (l++[f]) W (w5.setCell ⟨s2,0,none⟩ (.bool false))))∨
 (Calls Tryz.prog 56 #[.pointer (some ⟨M,0,none⟩),.string ⟨#[32]⟩] W λe w5=>e=.returned (.bool true)∧RcB M s0 s2 w5∧Hid (Calls Tryz.prog 35 #[.pointer (some ⟨M,0,none⟩),.int .i32 f] w5 λe w6=>e=.returned (.bool false)∧RcB M s0 s2 w6∧Hid (RcE lo M Pb s2 B1 W2 gs a t (l++[f]) W (w6.setCell ⟨s2,0,none⟩ (.bool false)))))∨
 (Calls Tryz.prog 56 #[.pointer (some ⟨M,0,none⟩),.string ⟨#[32]⟩] W λe w5=>e=.returned (.bool true)∧RcB M s0 s2 w5∧Hid (Calls Tryz.prog 35 #[.pointer (some ⟨M,0,none⟩),.int .i32 f] w5 λe w6=>e=.returned (.bool true)∧Hid (RcN lo M Pb B1 W2 gs a t (l++[f]) W w6))):=by
 obtain⟨a1,t1,m2,B2,hE,hs,hM,hA,hB⟩:=hI;obtain⟨hw1,hf1,hnext⟩:=rec_next (t:=t) hg.g hw hl hf hE;obtain⟨hl1,hl2⟩:=tEnd_len hE;have ht1:=hl2 ht;have hzz:=hA.size;have hnB:∀{B':List Nat},(∀b∈B',b∈B2∨W.heap.size<=b)->∀b∈B',b∈B1∨W2.heap.size<=b:=λh b hb=>(h b hb).elim (hB b) λh1=>Or.inr (Nat.le_trans hzz h1);have hset:∀{X:World} {m':MSt} {B':List Nat} {a':ASt},AG B2 W X->MM lo X M Pb m' B'->(∀b∈B',b∈B2∨W.heap.size<=b)->(m'.kind=a'.kind∧m'.su=a'.steps∧m'.mu=a'.used)->tEnd gs (tFl (l++[f])) a t=(a',none)->RcE lo M Pb s2 B1 W2 gs a t (l++[f]) W (X.setCell ⟨s2,0,none⟩ (.bool false)):=λhAX hMX hBX' hk he=>by
  have hAX2:=hA.trans hAX hB;obtain⟨-,q2,-⟩:=hBX _ hAX2;have hB':=hnB hBX';have hs2':s2∉_:=λhm=>(hB' s2 hm).elim hs2.2.2 λh1=>by omega
  refine⟨?_,_,_,_,he,hk,hMX.setBox hs2' hs2.1 q2 false,?_,hB',World.cell?_setCell_same _ _ _ q2⟩
  ·have kf:=hM.keeps hAX W2.heap.size;refine⟨by simpa using kf.size,λj o h1 h2 h3=>?_⟩;rw[Below.heap_setCell _ _ _ _ (show j≠s2 by omega)];exact kf.same j o h1 h2 h3
  ·exact AG.set ⟨hAX2.os,hAX2.tape,hAX2.output,hAX2.size,λj hj hm=>hAX2.block j hj λh=>hm (List.mem_cons_of_mem _ h)⟩ (Or.inl (List.mem_cons_self ..)) _
 have hsay:=say_both hM hs hw1.live ⟨#[32]⟩ (by show(1:Nat)<=_;omega) ht1;have e32:(⟨#[32]⟩:ByteArray).data.toList=[32]:=rfl;rw[e32]at hsay;by_cases hc:t1.length+([32]:List UInt8).length<=2000
 ·have hts:∀(k:List UInt8->TRes),tSay [32] a1 t1 k=k (t1++[32]):=λk=>by unfold tSay;rw[if_pos hc]
  rw[hts]at hnext hsay;have hlen2:(t1++[32]).length=t1.length+1:=by simp
  have hc':t1.length+1<=2000:=hc;have htl:∀w5 m5 B5,SimT (t1++[32]) a1 m5->MM lo w5 M Pb m5 B5->AG B2 W w5->(∀b∈B5,b∈B2∨W.heap.size<=b)->Calls Tryz.prog 35 #[.pointer (some ⟨M,0,none⟩),.int .i32 f] w5 λe w6=>TlR lo M Pb B5 w5 (tEnd gs [([],f)] a1 (t1++[32])) e w6:=λw5 m5 B5 h1 h2 h3 h4=>hT w5 m5 B5 (t1++[32]) a1 f (by omega) (by omega) (hg.low ((hA.trans h3 hB).low hlo.2 hlo.1)) h2 h1 hw1 ⟨hf.1,hf1⟩;have hgo:∀{o:Bool} {Z:World->Prop},(tEnd gs [([],f)] a1 (t1++[32])).2.isSome=o->(∀w6 m6 B6,TlS (tEnd gs [([],f)] a1 (t1++[32])) m6->MM lo w6 M Pb m6 B6->AG B2 W w6->(∀b∈B6,b∈B2∨W.heap.size<=b)->Z w6)->Calls Tryz.prog 56 #[.pointer (some ⟨M,0,none⟩),.string ⟨#[32]⟩] W λe w5=>e=.returned (.bool true)∧RcB M s0 s2 w5∧Hid (Calls Tryz.prog 35 #[.pointer (some ⟨M,0,none⟩),.int .i32 f] w5 λe w6=>e=.returned (.bool o)∧Z w6):=λho hZ=>by
   refine hsay.mono λe w5 hr=>?_;obtain⟨m5,hs5,he,hA5,B5,hM5,hB5⟩:=hr;refine⟨he,hBX w5 (hA.trans hA5 hB),(htl w5 m5 B5 hs5 hM5 hA5 hB5).mono λe w6 hr6=>?_⟩;obtain⟨m6,hs6,he6,hA6,B6,hM6,hB6⟩:=hr6;rw[ho]at he6;exact⟨he6,hZ w6 m6 B6 hs6 hM6 (hA5.trans hA6 hB5) λb hb=>(hB6 b hb).elim (hB5 b) λh1=>Or.inr (Nat.le_trans hA5.size h1)⟩
  cases hx:(tEnd gs [([],f)] a1 (t1++[32])).2 with
  |none=>
   have hp:tEnd gs [([],f)] a1 (t1++[32])=((tEnd gs [([],f)] a1 (t1++[32])).1,none):=by rw[<-hx]
   refine Or.inr (Or.inl (hgo (by rw[hx];rfl) λw6 m6 B6 h1 h2 h3 h4=>⟨hBX w6 (hA.trans h3 hB),?_⟩));rw[hp]at h1 hnext;exact hset h3 h2 h4 h1 hnext
  |some t2=>
   have hp:tEnd gs [([],f)] a1 (t1++[32])=((tEnd gs [([],f)] a1 (t1++[32])).1,some t2):=by rw[<-hx]
   refine Or.inr (Or.inr (hgo (by rw[hx];rfl) λw6 m6 B6 h1 h2 h3 h4=>?_));rw[hp]at h1 hnext;have hA6:=hA.trans h3 hB;refine⟨hM.keeps h3 _,⟨h3.size,λq hq hqB=>h3.block q (by omega) λhm=>?_⟩,_,_,m6,B6,hnext,h1,h2,hA6,hnB h4⟩;rcases hB q hm with h5|h5
   ·exact hqB h5
   ·omega
 ·have hts:∀(k:List UInt8->TRes),tSay [32] a1 t1 k=(rEnd 8 a1,none):=λk=>by unfold tSay;rw[if_neg hc]
  rw[hts]at hnext hsay;left
  refine hsay.mono λe w5 hr=>?_;obtain⟨m5,hs5,he,hA5,B5,hM5,hB5⟩:=hr;exact⟨he,hBX w5 (hA.trans hA5 hB),hset hA5 hM5 hB5 hs5 hnext⟩
theorem rec_any{n:Nat}(hT:∀k,k<n->TelC lo M Pb gs D gp gc G k):RecC lo M Pb gs D gp gc G n:=by
 intro w m B t a x p k c hn ht hg h hs hw hck hk3 hfx;have hpi:tPiece x=40::Lib.itoa x.n:=by unfold tPiece;rw[if_neg (by omega),if_pos hk3]
 have hmo:tMore x=tFl x.fields.reverse++[([41],-1)]:=by unfold tMore;rw[if_pos hk3]
 rw[hpi,hmo];obtain⟨R,hR⟩:∃R,tSay (40::Lib.itoa x.n) a t (λt'=>tEnd gs (tFl x.fields.reverse++[([41],-1)]) a t')=R:=⟨_,rfl⟩;rw[hR];have hlow:=h.lows;have hxn:=hck.n;have hil:=Lib.itoa_length_le x.n hxn.1 hxn.2;obtain⟨W0,hW0⟩:∃W0,((w.alloc (.cells #[.pointer (some ⟨M,0,none⟩)] 108)).alloc (.cells #[.int .u8 3,.int .i64 x.n,.int .i32 x.left,.int .i32 x.right,.slice p k c] 154)).alloc (.cells #[.bool false] 4)=W0:=⟨_,rfl⟩;have hz0:W0.heap.size=w.heap.size+1+1+1:=by rw[<-hW0];simp
 have hb0:Below w.heap.size w W0:=by rw[<-hW0];exact(((Below.refl _ w).alloc (Nat.le_refl _) _).alloc (by simp) _).alloc (by simp;omega) _
 have d0:W0.cell? ⟨w.heap.size,0,none⟩=some (.pointer (some ⟨M,0,none⟩)):=by rw[<-hW0];exact alloc_old _ _ _ _ _ (alloc_old _ _ _ _ _ (by simp))
 have hb5:=FBL.new5 (w.alloc (.cells #[.pointer (some ⟨M,0,none⟩)] 108)) (.int .u8 3) (.int .i64 x.n) (.int .i32 x.left) (.int .i32 x.right) (.slice p k c) 154;rw[World.size_alloc]at hb5;have d1:W0.cell? ⟨w.heap.size+1,1,none⟩=some (.int .i64 x.n):=by rw[<-hW0];exact alloc_old _ _ _ _ _ (hb5.at 1 rfl)
 have d4:W0.cell? ⟨w.heap.size+1,4,none⟩=some (.slice p k c):=by rw[<-hW0];exact alloc_old _ _ _ _ _ (hb5.at 4 rfl)
 have d2:W0.cell? ⟨w.heap.size+1+1,0,none⟩=some (.bool false):=by
  rw[<-hW0];have:=(Boxed.new ((w.alloc (.cells #[.pointer (some ⟨M,0,none⟩)] 108)).alloc (.cells #[.int .u8 3,.int .i64 x.n,.int .i32 x.left,.int .i32 x.right,.slice p k c] 154)) 4 (.bool false)).cell;rw[World.size_alloc,World.size_alloc]at this;exact this
 have f2:W0.frozen? ⟨w.heap.size+1+1,0,none⟩=false:=by
  rw[<-hW0];have:=frozen_new ((w.alloc (.cells #[.pointer (some ⟨M,0,none⟩)] 108)).alloc (.cells #[.int .u8 3,.int .i64 x.n,.int .i32 x.left,.int .i32 x.right,.slice p k c] 154)) #[.bool false] 4 0;rw[World.size_alloc,World.size_alloc]at this;exact this
 clear hb5;obtain⟨ok,hok⟩:∃ok,decide (t.length+(40::Lib.itoa x.n).length<=2000)=ok:=⟨_,rfl⟩;have hRok:(ok=true->R=tEnd gs (tFl x.fields.reverse++[([41],-1)]) a (t++40::Lib.itoa x.n)∧t.length+(40::Lib.itoa x.n).length<=2000)∧(ok=false->R=(rEnd 8 a,none)):=by
  rw[<-hR,<-hok];unfold tSay;refine⟨λe=>?_,λe=>?_⟩
  ·have:=of_decide_eq_true e;exact⟨if_pos this,this⟩
  ·exact if_neg (of_decide_eq_false e)
 have HIT:Hid (∀X,Below W0.heap.size W0 X->Calls Tryz.prog 38 #[.int .i64 x.n] X λe w'=>e=.returned (.string ⟨(Lib.itoa x.n).toArray⟩)∧Hid (Below W0.heap.size W0 w')):=λX hX=>(itoa_any x.n hxn.1 hxn.2 X ((hg.low ((hb0.trans (hX.mono hb0.size)).mono hlow.1)).tab.here)).mono λe w' ⟨he,k,os,hw⟩=>⟨he,by rw[hw];exact hX.trans (Lib.below_grow _ _ hX.size k os)⟩;have HSY:Hid (∀X,Below W0.heap.size W0 X->Calls Tryz.prog 56 #[.pointer (some ⟨M,0,none⟩),.string (⟨#[40]⟩++⟨(Lib.itoa x.n).toArray⟩)] X λe w1=>e=.returned (.bool ok)∧Hid (∃m1 B1,MM lo w1 M Pb m1 B1∧AG B W0 w1∧(∀b∈B1,b∈B∨W0.heap.size<=b)∧(ok=true->SimT (t++40::Lib.itoa x.n) a m1)∧(ok=false->TlS (rEnd 8 a,none) m1))):=λX hX=>by
  rw[cat40];refine(say_both (h.keep (hb0.trans (hX.mono hb0.size))) hs hw.live ⟨(40::Lib.itoa x.n).toArray⟩ (by show(40::Lib.itoa x.n).toArray.size<=_;rw[List.size_toArray,List.length_cons];omega) ht).mono λe w1 hr=>?_;obtain⟨m1,hs1,he,hA1,B1,hM1,hB1⟩:=hr;have hlist:(⟨(40::Lib.itoa x.n).toArray⟩:ByteArray).data.toList=40::Lib.itoa x.n:=rfl;rw[hlist]at hs1 he;refine⟨?_,m1,B1,hM1,(AG.of_below (X:=B) hX).trans hA1 (λb hb=>Or.inl hb),λb hb=>(hB1 b hb).imp id λh1=>Nat.le_trans hX.size h1,λe1=>?_,λe1=>?_⟩
  ·rw[he,<-hok];unfold tSay;split
   ·rename_i hl
    rw[decide_eq_true hl];rfl
   ·rename_i hl
    rw[decide_eq_false hl];rfl
  ·rw[<-hok]at e1;unfold tSay at hs1;rw[if_pos (of_decide_eq_true e1)]at hs1;exact hs1
  ·rw[<-hok]at e1;unfold tSay at hs1;rw[if_neg (of_decide_eq_false e1)]at hs1;exact hs1
 have HGX:Hid (∀X,Below W0.heap.size W0 X->X.cell? ⟨w.heap.size,0,none⟩=some (.pointer (some ⟨M,0,none⟩))∧X.cell? ⟨w.heap.size+1,1,none⟩=some (.int .i64 x.n)):=λX hX=>⟨cell_keep hX d0,cell_keep hX d1⟩;have hbd:Below W0.heap.size W0 W0.drew:=(Below.refl _ _).drew;have hlB:∀b∈B,b<w.heap.size:=by
  obtain⟨cs,ds,cv,sv,kv,dv,tv,h,rfl⟩:=h;exact λb hb=>(h.rg b hb).2
 have HBOX:Hid (∀X,AG B W0 X->X.cell? ⟨w.heap.size,0,none⟩=some (.pointer (some ⟨M,0,none⟩))∧X.cell? ⟨w.heap.size+1,4,none⟩=some (.slice p k c)∧X.cell? ⟨w.heap.size+1+1,0,none⟩=some (.bool false)∧X.frozen? ⟨w.heap.size+1+1,0,none⟩=false):=λX hX=>by
  have hne:∀b,w.heap.size<=b->b<w.heap.size+1+1+1->X.heap[b]?=W0.heap[b]?:=λb h1 h2=>hX.block b (by omega) λhm=>by have:=hlB b hm;omega
  exact⟨cell_same (hne _ (by omega) (by omega)) d0,cell_same (hne _ (by omega) (by omega)) d4,cell_same (hne _ (by omega) (by omega)) d2,by rw[World.frozen?_of_block (a:=⟨w.heap.size+1+1,0,none⟩) (hne (w.heap.size+1+1) (by omega) (by omega))];exact f2⟩
 have HFIN:Hid (∀X m1 B1,MM lo X M Pb m1 B1->AG ((w.heap.size+1+1)::B) W0 X->(∀b∈B1,b∈B∨W0.heap.size<=b)->TlS R m1->TlR lo M Pb B w R (.returned (.bool R.2.isSome)) X):=λX m1 B1 h1 h2 h3 h4=>by
  have hz:=h2.size;refine⟨m1,h4,rfl,⟨h2.os.trans hb0.os,h2.tape.trans hb0.tape,h2.output.trans hb0.output,by omega,λq hq hqB=>?_⟩,B1,h1,λb hb=>(h3 b hb).imp id λh5=>by omega⟩;rw[h2.block q (by omega) (λhm=>(List.mem_cons.1 hm).elim (λe=>by omega) hqB)];exact hb0.block q hq
 have HLB:=hid hlB;have HMAIN:=hid (And.intro h (And.intro hs (And.intro hw (And.intro hg (And.intro hck hfx)))));have HLOW:=hid hlow;have HTT:=hid hT;have HB0:=hid hb0;have HZ0:=hid hz0;have HN:=hid (And.intro hn ht);have HRO:=hid hRok;refine(callsIn_wide (n:=9)).1 ?_;refine callsIn_of_wp_marks Tryz.func57 rfl trivial ?_ rfl;simp only[Tryz.ntmps57,List.size_toArray,List.length_cons,List.length_nil,Nat.reduceAdd,Nat.reduceSub,Array.replicate_succ,Array.replicate_zero,List.push_toArray,List.append_toArray,List.nil_append,List.cons_append];clear h hs hw hg hck hfx hT hlow hlB hb0 d2 f2 d4 hz0 hn ht hR hRok hpi hmo hok hxn hk3;gi_wp2
 have d0d:W0.drew.cell? ⟨w.heap.size,0,none⟩=_:=d0;have d1d:W0.drew.cell? ⟨w.heap.size+1,1,none⟩=_:=d1;clear hW0 d0 d1;refine wpIn_mono (Q:=Exit.then (λa' w'=>a'={tmps:=#[.pointer (some ⟨M,0,none⟩),.agg #[.int .u8 3,.int .i64 x.n,.int .i32 x.left,.int .i32 x.right,.slice p k c],.pointer (some ⟨w.heap.size,0,none⟩),.pointer (some ⟨w.heap.size+1,0,none⟩),.pointer (some ⟨w.heap.size+1+1,0,none⟩),undef,undef,.pointer (some ⟨M,0,none⟩),.pointer (some ⟨w.heap.size+1,1,none⟩),.int .i64 x.n,.string ⟨(Lib.itoa x.n).toArray⟩,.string (⟨#[40]⟩++⟨(Lib.itoa x.n).toArray⟩),.bool ok,.bool (!ok),undef,undef,undef,undef,undef,undef,undef,undef,undef,undef,undef,undef,undef,undef,undef,undef],defers:=[]}∧Hid (∃m1 B1,MM lo w' M Pb m1 B1∧AG B W0 w'∧(∀b∈B1,b∈B∨W0.heap.size<=b)∧(ok=true->SimT (t++40::Lib.itoa x.n) a m1)∧(ok=false->TlS (rEnd 8 a,none) m1))) (λ_ _ _=>False)) ?_ ?_
 ·gi_region_with (first
   |(refine⟨trivial,?_⟩;gi_at_call 38;refine(callsIn_wide.2 (HIT.out _ hbd)).mono ?_;rintro e w5 ⟨rfl,HB5⟩;obtain⟨g0,g1⟩:=HGX.out w5 HB5.out;have HS5:=hid (HSY.out w5 HB5.out);clear HB5)
   |(refine⟨trivial,?_⟩;gi_at_call 56;refine(callsIn_wide.2 HS5.out).mono ?_;rintro e w6 ⟨rfl,HM6⟩))
  all_goals exact⟨rfl,HM6⟩
 ·intro e a' w1 hp;cases e with
  |normal=>
   obtain⟨rfl,HM6⟩:=hp;clear HIT HSY HGX d0d d1d hbd;obtain⟨m1,B1,hM1,hA1,hB1,hok1,hok0⟩:=HM6.out;obtain⟨k0,k4,k2,g2⟩:=HBOX.out _ hA1;have HM1:=hid hM1;have HA1:=hid hA1;have HB1:=hid hB1;clear HM6 hM1 hA1 hB1;cases ok with
   |false=>
    have HR0:=hid (HRO.out.2 rfl);have HS0:=hid (hok0 rfl);have HRR:Hid (TlR lo M Pb B w R (.returned (.bool false)) (w1.setCell ⟨w.heap.size+1+1,0,none⟩ (.bool false))):=by
     have hnb:w.heap.size+1+1∉B1:=λhm=>(HB1.out _ hm).elim (λh1=>by have:=HLB.out _ h1;omega) λh1=>by have:=HZ0.out;omega
     have hA:=HA1.out;have h1:=HFIN.out (w1.setCell ⟨w.heap.size+1+1,0,none⟩ (.bool false)) m1 B1 (HM1.out.setBox hnb (by have:=HLOW.out.1;omega) k2 false) (AG.set ⟨hA.os,hA.tape,hA.output,hA.size,λj hj hm=>hA.block j hj λh=>hm (List.mem_cons_of_mem _ h)⟩ (Or.inl (List.mem_cons_self ..)) _) HB1.out (by rw[HR0.out];exact HS0.out);rw[HR0.out]at h1 ⊢;exact h1
    have k2s:(w1.setCell ⟨w.heap.size+1+1,0,none⟩ (.bool false)).cell? ⟨w.heap.size+1+1,0,none⟩=some (.bool false):=World.cell?_setCell_same _ _ _ k2;clear hok1 hok0;gi_wp2
    exact⟨.bool false,by simp[results,Tryz.results57,go_sem,k2s],HRR.out⟩
   |true=>
    have HS1:=hid (hok1 rfl);obtain⟨hRt,htl⟩:=HRO.out.1 rfl;clear hok1 hok0;obtain⟨hMm,hsm,hwm,hgm,hckm,hfxm⟩:=HMAIN.out;obtain⟨pp,cap,hpe,hcs⟩:=id hfxm;cases hpe;obtain⟨W2,hW2⟩:∃W2,w1.alloc (Obj.cells #[Value.slice p x.fields.length c] 113)=W2:=⟨_,rfl⟩;have hz2:W2.heap.size=w1.heap.size+1:=by rw[<-hW2];simp
    have hb2:Below w1.heap.size w1 W2:=by rw[<-hW2];exact(Below.refl _ _).alloc (Nat.le_refl _) _
    have d3:W2.cell? ⟨w1.heap.size,0,none⟩=some (.slice p x.fields.length c):=by rw[<-hW2];exact(Boxed.new w1 113 (.slice p x.fields.length c)).cell
    have hzw:=HA1.out.size;have hz0:=HZ0.out;have hM1z:∀b∈B1,b<w1.heap.size:=by
     obtain⟨cs,ds,cv,sv,kv,dv,tv,h,rfl⟩:=HM1.out;exact λb hb=>(h.rg b hb).2
    have hM1l:=HM1.out.lows;have hnB1:∀b,b<W0.heap.size->b∉B->b∉B1:=λb h1 h2 hm=>(HB1.out b hm).elim h2 λh3=>by omega
    have hRef:RefAt W2 p x.fields:=λj hj=>by
     obtain⟨b,o,⟨-,hb⟩,e,hcell⟩:=hcs j hj;have hbw:b<w.heap.size:=block_lt_of_cell hcell;refine⟨b,o,e,?_⟩;rw[List.getElem?_eq_getElem hj];refine cell_keep hb2 (cell_same (HA1.out.block b (by omega) hb) (cell_keep HB0.out hcell))
    have hX:∀q∈w1.heap.size::fB p x.fields.length,q<W2.heap.size∧q∉B1:=λq hq=>by
     rcases List.mem_cons.1 hq with rfl|hq
     ·exact⟨by omega,λhm=>by have:=hM1z _ hm;omega⟩
     ·cases hxf:x.fields with
      |nil=>rw[hxf]at hq;cases p<;>cases hq
      |cons z zs=>
       obtain⟨b,o,⟨-,hb⟩,e,hcell⟩:=hcs 0 (by rw[hxf];simp);have hbw:b<w.heap.size:=block_lt_of_cell hcell;rw[hxf,e]at hq;have e1:q=b:=List.mem_singleton.1 hq;subst e1;exact⟨by omega,hnB1 q (by omega) hb⟩
    have hAW:∀X,AG B1 W2 X->AG B W0 X:=λX hX=>(HA1.out.then hb2).trans hX HB1.out;have hBX:∀X,AG B1 W2 X->RcB M w.heap.size (w.heap.size+1+1) X:=λX hX=>by
     obtain⟨q0,-,q2,q3⟩:=HBOX.out X (hAW X hX);exact⟨q0,q2,q3⟩
    have hs2:lo<=w.heap.size+1+1∧w.heap.size+1+1<W2.heap.size∧w.heap.size+1+1∉B1:=⟨by have:=HLOW.out.1;omega,by omega,hnB1 _ (by omega) λhm=>by have:=HLB.out _ hm;omega⟩;have hlo2:lo<=W2.heap.size∧∀b∈B1,lo<=b:=⟨by have:=hM1l.1;omega,hM1l.2⟩;have hg2:TlG lo Pb gs D gp gc G W2:=hgm.low ((HB0.out.mono HLOW.out.1).trans ((HA1.out.low HLOW.out.2 (by have:=HLOW.out.1;omega)).trans (hb2.mono hM1l.1)));have hfr:∀f∈x.fields,0<=f∧f<(a.cells.length:Int):=hckm.f;have hlen1:(t++40::Lib.itoa x.n).length=t.length+(40::Lib.itoa x.n).length:=List.length_append;have hlen2:(40::Lib.itoa x.n).length=(Lib.itoa x.n).length+1:=rfl;have hflen:=hckm.fl;obtain⟨t0,ht0⟩:∃t0,t++40::Lib.itoa x.n=t0:=⟨_,rfl⟩;rw[ht0]at hRt hlen1 HS1;have hI0:RcI lo M Pb B1 W2 gs a t0 [] W2:=⟨a,t0,m1,B1,tEnd_nil a t0,HS1.out,HM1.out.keep hb2,AG.refl _ _,λb hb=>Or.inl hb⟩;have hTk:TelC lo M Pb gs D gp gc G (n-1):=HTT.out (n-1) (by have:=HN.out;omega);have hnk:2000<=t0.length+1+(n-1):=by have:=HN.out;omega
    have htk:t0.length<=2000:=by omega
    have HBD:Hid (∀l W f,(∀f∈l,f∈x.fields)->f∈x.fields->RcI lo M Pb B1 W2 gs a t0 l W->_):=λl W f h1 h2 h3=>rec_body (l:=l) (f:=f) (s0:=w.heap.size) (s2:=w.heap.size+1+1) (k:=n-1) hg2 hlo2 hwm (λf hf=>hfr f (h1 f hf)) (hfr f h2) hTk hnk htk h3 hs2 hBX;have HLST:=hid (rec_last (t:=t0) hgm.g hwm (l:=x.fields.reverse) (λf hf=>hfr f (List.mem_reverse.1 hf)));have HCUT:=hid (λ(l r:List Int) (e:l++r=x.fields.reverse) (a1:ASt) (h:tEnd gs (tFl l) a t0=(a1,none))=>rec_cut (r:=r) hgm.g hwm (λf hf=>hfr f (List.mem_reverse.1 (by rw[<-e];exact hf))) h);have HX:=hid hX;have HI0:=hid hI0;have HAW:=hid hAW;have HBX:=hid hBX;have HS2:=hid hs2;have HLO2:=hid hlo2;have HRT:=hid hRt;have HM1L:=hid hM1l;have HT0:=hid htk;clear hMm hsm hwm hgm hckm hfxm hcs hM1z hM1l hnB1 hX hI0 hTk hnk htk hfr hAW hBX hs2 hlo2 hg2 htl hlen1 hlen2 hRt ht0;gi_wp2_with (first
     |(refine⟨trivial,?_⟩;gi_at_call 80;refine(bwR_in Fence.wide _ trivial rfl _ _ _ _).mono ?_;rintro e w9 ⟨rfl,rfl⟩))
    (try rw[hW2])
    clear hW2;refine wpIn_rangeFunc_ownH (F:=Fence.wide) rfl (by omega) (gf:=113) (lb:=#[.pointer (some ⟨w1.heap.size,0,none⟩)]) rfl trivial (enters_of Tryz.func113 (by kernel_rfl) rfl)
     (bwR_stops Fence.wide _ trivial rfl (by omega) w1.heap.size p c x.fields (by omega) W2 (by omega) d3 hRef) KpX.trans (KpX.put (λq hq=>(HX.out q hq).1)) (Below.refl _ _) (λ_=>rfl)
     (λ(pre:List (BwE x.fields)) W=>RcI lo M Pb B1 W2 gs a t0 (bwV pre) W)
     (λc (pre:List (BwE x.fields)) W=>c=.ret∧RcX lo M Pb (w.heap.size+1+1) B1 W2 gs a t0 (bwV pre) W)
     (λs X Y row hs hg hr=>hs.turn HLO2.out.1 hg hr)
     (λc s X Y row hs hg hr=>⟨hs.1,hs.2.turn HLO2.out.1 hg hr⟩)
     HI0.out
     (λy a' W=>a'={tmps:=#[.pointer (some ⟨M,0,none⟩),.agg #[.int .u8 3,.int .i64 x.n,.int .i32 x.left,.int .i32 x.right,.slice p x.fields.length c],.pointer (some ⟨w.heap.size,0,none⟩),.pointer (some ⟨w.heap.size+1,0,none⟩),.pointer (some ⟨w.heap.size+1+1,0,none⟩),undef,.int .i32 y.1.2,.pointer (some ⟨M,0,none⟩),.pointer (some ⟨w.heap.size+1,1,none⟩),.int .i64 x.n,.string ⟨(Lib.itoa x.n).toArray⟩,.string (⟨#[40]⟩++⟨(Lib.itoa x.n).toArray⟩),.bool true,.bool false,.pointer (some ⟨w.heap.size+1,4,none⟩),.slice p x.fields.length c,.func (.func 113) #[] #[.pointer (some ⟨w1.heap.size,0,none⟩)],.int .i64 (y.1.1:Int),.int .i32 y.1.2,undef,undef,undef,undef,undef,undef,undef,undef,undef,undef,undef],defers:=[]})
     (λy a' s X Y row hs hg hr=>hs)
     ?assign ?body ?done ?stop
    case assign=>
     rintro l pre y W K' hi hK';gi_wp2
     exact hK' _ _ (KeepsFrom.refl _ _) (KpX.refl _ _) hi rfl
    case body=>
     rintro l pre y a' W hl2 hr hi rfl hlt;have hmem:∀f∈bwV pre,f∈x.fields:=λf hf=>by
      obtain⟨z,-,rfl⟩:=List.mem_map.1 hf;exact z.2
     have hap:bwV (pre++[y])=bwV pre++[y.1.2]:=by unfold bwV;rw[List.map_append];rfl
     have HKP:Hid (∀X,(W.heap.size<=X.heap.size∧∀q,q<W2.heap.size->q∉B1->X.heap[q]?=W.heap[q]?)->KpX (w1.heap.size::fB p x.fields.length) W X):=λX h1=>⟨h1.1,λq hq=>h1.2 q (HX.out q hq).1 (HX.out q hq).2⟩;obtain⟨j0,j2,j3⟩:RcB M w.heap.size (w.heap.size+1+1) W:=by
      obtain⟨-,-,-,-,-,-,-,hA,-⟩:=hi;exact HBX.out W hA
     have HRB:=hid (HBD.out _ W y.1.2 hmem y.2 hi);rw[<-hap]at HRB;clear hi hmem hap;rcases HRB.out with hc1|hc2|hc3
     ·have HC:=hid hc1;clear hc1 HRB;gi_wp2_with (first
       |(refine⟨trivial,?_⟩;gi_at_call 56;refine(CallsIn.inRound l (callsIn_wide.2 HC.out)).mono ?_;rintro e w5 ⟨rfl,⟨i0,i2,i3⟩,HE5⟩)
       |(refine⟨trivial,?_⟩))
      exact⟨HE5.out.1,rfl,HE5.out.2⟩
     ·have HC:=hid hc2;clear hc2 HRB;gi_wp2_with (first
       |(refine⟨trivial,?_⟩;gi_at_call 56;refine(CallsIn.inRound l (callsIn_wide.2 HC.out)).mono ?_;rintro e w5 ⟨rfl,⟨i0,i2,i3⟩,HT5⟩)
       |(refine⟨trivial,?_⟩;gi_at_call 35;refine(CallsIn.inRound l (callsIn_wide.2 HT5.out)).mono ?_;rintro e w6 ⟨rfl,⟨o0,o2,o3⟩,HE5⟩))
      exact⟨HE5.out.1,rfl,HE5.out.2⟩
     ·have HC:=hid hc3;clear hc3 HRB;gi_wp2_with (first
       |(refine⟨trivial,?_⟩;gi_at_call 56;refine(CallsIn.inRound l (callsIn_wide.2 HC.out)).mono ?_;rintro e w5 ⟨rfl,⟨i0,i2,i3⟩,HT5⟩)
       |(refine⟨trivial,?_⟩;gi_at_call 35;refine(CallsIn.inRound l (callsIn_wide.2 HT5.out)).mono ?_;rintro e w6 ⟨rfl,HN5⟩))
      exact⟨HN5.out.1,HKP.out _ HN5.out.2.1,HN5.out.2.2⟩
    case done=>
     rintro D ys W hD hys ⟨a1,t1,m2,B2,hE,hs2,hM2,hA2,hB2⟩ hK;have hrev:bwV ys=x.fields.reverse:=by
      have e:=bwd_rev x.fields 0 (Nat.le_refl _);rw[<-hys,List.map_map]at e;rw[show x.fields.reverse.take x.fields.length=x.fields.reverse by rw[<-List.length_reverse,List.take_length]]at e;exact e
     rw[hrev]at hE;obtain⟨hw1,hRl⟩:=HLST.out.1 a1 t1 hE;rw[<-HRT.out]at hRl;obtain⟨hl1,hl2⟩:=tEnd_len hE;have hsay:=say_both hM2 hs2 hw1.live ⟨#[41]⟩ (by show(1:Nat)<=_;omega) (hl2 HT0.out);have e41:(⟨#[41]⟩:ByteArray).data.toList=[41]:=rfl;rw[e41,<-hRl]at hsay;obtain⟨j0,j2,j3⟩:=HBX.out W hA2;obtain⟨rb,hrb⟩:∃rb,R.2.isSome=rb:=⟨_,rfl⟩;have HSY:Hid (Calls Tryz.prog 56 #[.pointer (some ⟨M,0,none⟩),.string ⟨#[41]⟩] W λe w5=>e=.returned (.bool rb)∧RcB M w.heap.size (w.heap.size+1+1) w5∧Hid ((w5.setCell ⟨w.heap.size+1+1,0,none⟩ (.bool rb)).heap[D]?=some (.deferred (some []))∧((w5.setCell ⟨w.heap.size+1+1,0,none⟩ (.bool rb)).putObj D (.deferred none)).cell? ⟨w.heap.size+1+1,0,none⟩=some (.bool rb)∧TlR lo M Pb B w R (.returned (.bool rb)) ((w5.setCell ⟨w.heap.size+1+1,0,none⟩ (.bool rb)).putObj D (.deferred none)))):=by
      refine hsay.mono λe w5 hr=>?_;obtain⟨m5,hs5,he,hA5,B5,hM5,hB5⟩:=hr;have hA25:=hA2.trans hA5 hB2;have hB5':∀b∈B5,b∈B1∨W2.heap.size<=b:=λb hb=>(hB5 b hb).elim (hB2 b) λh1=>Or.inr (Nat.le_trans hA2.size h1);obtain⟨q0,q2,q3⟩:=HBX.out w5 hA25;have hs:=HS2.out;have hsB5:w.heap.size+1+1∉B5:=λhm=>(hB5' _ hm).elim hs.2.2 λh1=>by omega
      have hD5:w5.heap[D]?=some (.deferred (some [])):=(hM2.keeps hA5 0).same D _ (Nat.zero_le _) hK rfl;have hD6:(w5.setCell ⟨w.heap.size+1+1,0,none⟩ (.bool rb)).heap[D]?=some (.deferred (some [])):=by rw[Below.heap_setCell _ _ _ _ (show D≠w.heap.size+1+1 by omega)];exact hD5
      have hr:∀r,some D=some r->∃o:Obj,(w5.setCell ⟨w.heap.size+1+1,0,none⟩ (.bool rb)).heap[r]?=some o∧o.isCells=false:=λr e=>by cases e;exact⟨_,hD6,rfl⟩
      have hM6:=(hM5.setBox hsB5 hs.1 q2 rb).turn (grownBy_putObj' _ D (.deferred none)) (λr e=>⟨by cases e;have:=HLO2.out.1;omega,hr r e⟩);have hA0:=HAW.out w5 hA25;have hA6:AG ((w.heap.size+1+1)::B) W0 ((w5.setCell ⟨w.heap.size+1+1,0,none⟩ (.bool rb)).putObj D (.deferred none)):=(AG.set ⟨hA0.os,hA0.tape,hA0.output,hA0.size,λj hj hm=>hA0.block j hj λh=>hm (List.mem_cons_of_mem _ h)⟩ (Or.inl (List.mem_cons_self ..)) _).turn (grownBy_putObj' _ D (.deferred none)) (λr e=>by cases e;omega);have h1:=HFIN.out _ m5 B5 hM6 hA6 (λb hb=>(hB5' b hb).elim (HB1.out b) λh1=>Or.inr (by omega)) hs5;rw[hrb]at he h1;exact⟨he,⟨q0,q2,q3⟩,hD6,cell_kept (World.cell?_setCell_same _ _ _ q2) (grownBy_putObj' _ D _) hr,h1⟩
     clear hsay hM2 hA2 hB2 hE hs2 hw1 hRl hl1 hl2 hrev hys hK;gi_wp2_with (first
      |(refine⟨trivial,?_⟩;gi_at_call 56;refine(callsIn_wide.2 HSY.out).mono ?_;rintro e w5 ⟨rfl,⟨i0,i2,i3⟩,HF5⟩))
     refine⟨by simp,.inl ⟨_,_,rfl,run_takeDeferred HF5.out.1,?_⟩⟩;have kf:=HF5.out.2.1;exact⟨.bool rb,by simp[results,Tryz.results57,go_sem,kf],HF5.out.2.2⟩
    case stop=>
     rintro D c pre W hD ⟨k,hk,hpre⟩ ⟨rfl,a1,m2,B2,hE,hs2,hM2,hA2,hB2,hc2⟩ hK;have hrev:bwV pre=x.fields.reverse.take k:=by
      have e:=bwd_rev x.fields 0 hk;rw[<-hpre,List.map_map]at e;exact e
     have hRn:R=(a1,none):=by
      rw[HRT.out];refine HLST.out.2 a1 ?_;have:=HCUT.out (bwV pre) (x.fields.reverse.drop k) (by rw[hrev];exact List.take_append_drop _ _) a1 hE;rw[hrev,List.take_append_drop]at this;exact this
     have HF:Hid (((W.putObj D (.deferred none)).cell? ⟨w.heap.size+1+1,0,none⟩=some (.bool false))∧TlR lo M Pb B w R (.returned (.bool false)) (W.putObj D (.deferred none))):=by
      have hr:∀r,some D=some r->∃o:Obj,W.heap[r]?=some o∧o.isCells=false:=λr e=>by cases e;exact⟨_,hK,rfl⟩
      refine⟨cell_kept hc2 (grownBy_putObj' _ D _) hr,?_⟩;have hA0:AG ((w.heap.size+1+1)::B) W0 W:=by
       have h1:=HA1.out.then hb2;refine AG.trans (X:=(w.heap.size+1+1)::B) (Y:=(w.heap.size+1+1)::B1) ⟨h1.os,h1.tape,h1.output,h1.size,λj hj hm=>h1.block j hj λh=>hm (List.mem_cons_of_mem _ h)⟩ hA2 λb hb=>?_;rcases List.mem_cons.1 hb with rfl|hb
       ·exact Or.inl (List.mem_cons_self ..)
       ·exact(HB1.out b hb).imp (List.mem_cons_of_mem _) id
      have h1:=HFIN.out _ m2 B2 (hM2.turn (grownBy_putObj' _ D (.deferred none)) (λr e=>⟨by cases e;have:=HLO2.out.1;omega,hr r e⟩)) (hA0.turn (grownBy_putObj' _ D (.deferred none)) (λr e=>by cases e;omega)) (λb hb=>(hB2 b hb).elim (HB1.out b) λh1=>Or.inr (by omega)) (by rw[hRn];exact hs2);rw[hRn]at h1 ⊢;exact h1
     have HK:=hid hK;clear hM2 hA2 hB2 hE hs2 hrev hpre hK hRn hc2;gi_wp2
     refine⟨by simp,.inl ⟨_,_,rfl,run_takeDeferred HK.out,?_⟩⟩;have kf:=HF.out.1;exact⟨.bool false,by simp[results,Tryz.results57,go_sem,kf],HF.out.2⟩
  |ret=>exact hp.elim
  |exit id=>exact hp.elim
  |goto t=>exact hp.elim
  |panic ch=>exact hp.elim
  |outgrown=>exact hp.elim
theorem tells(n:Nat):TelC lo M Pb gs D gp gc G n:=by
 induction n using Nat.strongRecOn with
 |_ n ih=>exact tell_any (rec_any ih)
end
end Go.Proofs.YtahmgjjgikgpoaaGreatDoor
