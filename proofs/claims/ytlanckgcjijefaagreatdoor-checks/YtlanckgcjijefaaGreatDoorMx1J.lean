import Derived.Test.YtlanckgcjijefaaGreatDoorRx7J
set_option maxRecDepth 100000
set_option maxHeartbeats 8000000
namespace Go.Proofs.YtlanckgcjijefaaGreatDoor
open Go.RowKit Go.Sort
structure PSt (d T B:Nat) (s:ByteArray) (nest pl:Nat) (nm iv dv:Value) (kd n:Int) (r:Pr (List Ex)) (w:World):Prop where
 ans:Ans T s r nest pl nm iv dv w
 nz:NZr r
 ok:∀got q,r=.ok (got,q)->got.length<=q∧∃pv kp,XN w B kd n ⟨#[]⟩ 0 (.slice none 0 0) (.slice none 0 0) pv (.slice none 0 0)∧PartsSt (d+1) w B pv got kp
def stepP(s:ByteArray)(d:Nat)(r:Pr (List Ex)):Pr (List Ex):=pb r λgot q=>pb (pE s d q) λx q'=>.ok (got++[x],q')
theorem nzr_step{s:ByteArray}{d:Nat}{r:Pr (List Ex)}(h:NZr r):NZr (stepP s d r):=by
 intro c a hx;rcases pb_einv hx with h1|⟨got,q,h1,h2⟩
 ·exact h c a h1
 ·rcases pb_einv h2 with h3|⟨x,q',h3,h4⟩
  ·exact nz_E s d q c a h3
  ·cases h4
theorem txPartS{d T B:Nat}{s:ByteArray}{nest pl:Nat}{nm iv dv:Value}{kd n:Int}{r:Pr (List Ex)}{w:World}(hC:ExprC d T s nest)(hs:s.size<=2000)(hT:T<B)(h:PSt d T B s nest pl nm iv dv kd n r w):
 Calls Tryz.prog 70 #[.pointer (some ⟨T,0,none⟩),.pointer (some ⟨B,0,none⟩)] w λe w'=>e=.returned (.tuple #[])∧NF T B w w'∧PSt d T B s nest pl nm iv dv kd n (stepP s d r) w':=by
 match r,h with
 |.error (c,a),h=>
  obtain⟨q,h1,h2⟩:=h.ans;refine(txPart_err h1 (h.nz c a rfl)).mono ?_;rintro e w' ⟨k1,rfl⟩;exact⟨k1,NF.refl _ _ _,h.ans,h.nz,λgot q' hx=>by cases hx⟩
 |.ok (got,q),h=>
  obtain⟨k1,pv,kp,k2,k3⟩:=h.ok got q rfl;have hq:=h.ans.2;refine(txPart_ok hC h.ans.1 hq hT k2 k3 (by omega)).mono ?_;rintro e w' ⟨m1,m2,m3,m4⟩;refine⟨m1,NF.of_pf m2 (λg hg=>by have:=(k3.row.lt g hg).1;omega),ans_fg m3 (fg_pb _ _),nzr_step h.nz,λgot' q' hx=>?_⟩;have hx2:pb (pE s d q) (λx q'=>(.ok (got++[x],q'):Pr (List Ex)))=.ok (got',q'):=hx;obtain⟨x,q2,h1,h2⟩:=pb_inv hx2;cases h2;obtain⟨pv',kp',n1,n2,-⟩:=m4 x q' h1;have hf:=fwd_E s d q hq x q' h1;exact⟨by simp;omega,pv',kp',n1,n2⟩
theorem txMoreS{d T B:Nat}{s:ByteArray}{nest pl:Nat}{nm iv dv:Value}{kd n:Int}{r:Pr (List Ex)}{w:World}(hs:s.size<=2000)(hT:T<B)(h:PSt d T B s nest pl nm iv dv kd n r w):
 Calls Tryz.prog 74 #[.pointer (some ⟨T,0,none⟩)] w λe w'=>e=.returned (.bool (mr s r))∧NF T B w w'∧PSt d T B s nest pl nm iv dv kd n (skR s r) w':=by
 refine(txMore_any h.ans h.nz hs).mono ?_;rintro e w' ⟨m1,m2,m3⟩;refine⟨m1,NF.of_ef m3,m2,?_,λgot q hx=>?_⟩
 ·match r,h with
  |.ok _,_=>intro c a hx;cases hx
  |.error _,h=>exact h.nz
 ·match r,h,hx with
  |.ok (got',q'),h,hx=>
   cases hx;obtain⟨k1,pv,kp,k2,k3⟩:=h.ok got q' rfl;have:=skp_ge s q';exact⟨by omega,pv,kp,k2.ef m3 (by omega),k3.ef m3 (by omega)⟩
theorem PSt.rx{d T B:Nat}{s:ByteArray}{nest pl:Nat}{nm iv dv:Value}{kd n:Int}{r:Pr (List Ex)}{w:World}(h:PSt d T B s nest pl nm iv dv kd n r w){got:List Ex}{q:Nat}(hr:r=.ok (got,q)){e:Ex}(h0:xK e=kd)(h5:xN e=n)(h1:xNm e=⟨#[]⟩)(h2:xPl e=0)(h3:xBd e=[])(h4:xAl e=[])(h6:xPs e=got):
 RX (d+2) w B w.heap.size (.pointer (some ⟨B,0,none⟩)) e:=by
 obtain⟨-,pv,kp,k2,k3⟩:=h.ok got q hr;exact rx_parts (by rw[h0,h5];exact k2) h1 h2 h3 h4 (by rw[h6];exact k3)
theorem signOf_some{tt:ByteArray}{k:Nat}(hk:k<6)(h:∀j (hj:j<k),tt≠signs[j]'(by show j<6;omega))(he:tt=signs[k]'hk):signOf tt=some k:=by
 unfold signOf;rw[List.findIdx?_eq_some_iff_getElem];refine⟨hk,by simp[he],λj hj=>?_⟩;simpa using h j hj
theorem signOf_none{tt:ByteArray}(h:∀j (hj:j<6),tt≠signs[j]'hj):signOf tt=none:=by
 unfold signOf;rw[List.findIdx?_eq_none_iff];intro x hx;obtain⟨j,hj,rfl⟩:=List.getElem_of_mem hx;simpa using h j hj
theorem XN.new(w:World)(kd n:Int)(nm:ByteArray)(pl:Int)(bv bav pv av:Value):XN (w.alloc (.cells #[.int .i64 kd,.int .i64 n,.string nm,.int .i64 pl,bv,bav,pv,av] 81)) w.heap.size kd n nm pl bv bav pv av:=
 ⟨alloc_cell w _ _ 0 _ rfl,alloc_cell w _ _ 1 _ rfl,alloc_cell w _ _ 2 _ rfl,alloc_cell w _ _ 3 _ rfl,alloc_cell w _ _ 4 _ rfl,alloc_cell w _ _ 5 _ rfl,alloc_cell w _ _ 6 _ rfl,alloc_cell w _ _ 7 _ rfl,λj _=>frozen_new w _ _ j,_,heap_alloc_new w _⟩
theorem op_eq(s:ByteArray)(d k q0:Nat)(r:Pr Ex)(hr:r=pb (pE s d q0) λl q1=>pb (pE s d q1) λr q2=>.ok (.op k l r,q2)):
 fg r=fg (stepP s d (stepP s d (.ok ([],q0))))∧∀x q,r=.ok (x,q)->∃l r,x=.op k l r∧stepP s d (stepP s d (.ok ([],q0)))=.ok ([l,r],q):=by
 subst hr;unfold stepP;rw[pb_ok];cases pE s d q0 with
 |error _=>exact⟨rfl,λx q h=>by cases h⟩
 |ok a=>
  obtain⟨l,q1⟩:=a;rw[pb_ok,pb_ok,pb_ok];cases pE s d q1 with
  |error _=>exact⟨rfl,λx q h=>by cases h⟩
  |ok a=>
   obtain⟨r,q2⟩:=a;exact⟨rfl,λx q h=>by cases h;exact⟨l,r,rfl,rfl⟩⟩
theorem call_eq(s:ByteArray)(d q0:Nat)(K:List Ex->Nat->Pr Ex):(pb (pE s d q0) λx q1=>pb (pE s d q1) λy q2=>K [x,y] q2)=pb (stepP s d (stepP s d (.ok ([],q0)))) K:=by
 unfold stepP;rw[pb_ok];cases pE s d q0 with
 |error _=>rfl
 |ok a=>
  obtain⟨l,q1⟩:=a;rw[pb_ok,pb_ok,pb_ok];cases pE s d q1 with
  |error _=>rfl
  |ok a=>rfl
theorem tok_beq{tt t:ByteArray}{l:List UInt8}(h:t.toList=l):(tt.toList==l)=decide (tt=t):=by
 by_cases e:tt=t
 ·subst e;rw[h];simp
 ·have e2:(tt.toList==l)=false:=by
   rw[beq_eq_false_iff_ne,<-h];exact λh=>e (toL_inj h)
  rw[e2];simp[e]
structure CallSt (d T B:Nat) (s:ByteArray) (nest pl:Nat) (nm iv dv:Value) (w:World) (r0:Pr Ex) (wr:World) (mv:Value) (r:Pr (List Ex)) (f:Nat):Prop where
 nf:NF T B w wr
 mv:mv=.bool (mr s r)
 st:PSt d T B s nest pl nm iv dv 3 0 (skR s r) wr
 nz:NZr r
 fu:∀got q,r=.ok (got,q)->s.size+1<=f+q∧q<=s.size
 eq:r0=pb r λgot q=>pb (pMore s (pE s d) f got q) λl q3=>.ok (.call l,q3)
theorem CallSt.done{d T B:Nat}{s:ByteArray}{nest pl:Nat}{nm iv dv:Value}{w wr:World}{r0:Pr Ex}{mv:Value}{r:Pr (List Ex)}{f:Nat}(h:CallSt d T B s nest pl nm iv dv w r0 wr mv r f)(hm:mr s r=false)(hB:B=w.heap.size):
 ExRes (d+1) T s r0 nest pl nm iv dv w (.returned (.pointer (some ⟨B,0,none⟩))) wr:=by
 obtain⟨h1,-,h3,h4,h5,h6⟩:=h;match r,hm,h3,h5,h6 with
 |.ok (got,q),hm,h3,h5,h6=>
  obtain⟨k1,k2⟩:=h5 got q rfl;have hc:=mr_no hm;have e:r0=.ok (.call got,skp s q):=by
   rw[h6,pb_ok];match f,k1 with
   |f+1,_=>rw[pMore,if_pos hc];rfl
   |0,k1=>omega
  refine⟨h1.ef (by omega),by rw[e];exact h3.ans,_,rfl,λx q' hx=>?_⟩;rw[e]at hx;cases hx;have hx:=h3.rx (got:=got) (q:=skp s q) rfl (e:=.call got) rfl rfl rfl rfl rfl rfl rfl;exact hx.wide (by omega) (Nat.le_refl _) (Nat.le_refl _)
 |.error (c,a),_,h3,_,h6=>
  have e:r0=.error (c,a):=h6;exact⟨h1.ef (by omega),by rw[e];exact h3.ans,_,rfl,λx q' hx=>by rw[e]at hx;cases hx⟩
theorem txForm_any{d T:Nat}{s:ByteArray}{p nest pl:Nat}{nm iv dv:Value}{w:World}(hC:ExprC d T s nest)(h:TX w T s p nest 0 pl nm iv dv)(hs:s.size<=2000)(hp:p<=s.size):
 Calls Tryz.prog 60 #[.pointer (some ⟨T,0,none⟩)] w λe w'=>ExRes (d+1) T s (pForm s (pE s d) p) nest pl nm iv dv w e w':=by
 have hTw:=h.lt;have HT0:=hid h;have HC:=hid hC;have HPK:=hid (λw1 (h:TX w1 T s p nest 0 pl nm iv dv)=>txPeek_any h hs hp);obtain⟨tt,htt⟩:∃tt,tokT s p=tt:=⟨_,rfl⟩;have HTT:=hid htt;unfold TakeRes at HPK;rw[htt]at HPK;clear h hC htt;go_enter Tryz.func60,Tryz.ntmps60;go_wp2_with (first
  |(go_at_call 22;refine(HPK.out _ (HT0.out.alloc _)).mono ?_;rintro e w1 ⟨rfl,hT1,hE1⟩;have HT1:=hid hT1;have HE1:=hid hE1;clear hT1 hE1 HPK))
 have hne:w.heap.size≠T:=by omega
 have HXW:Hid (XN (w1.alloc (Obj.cells #[.string ⟨#[43]⟩,.string ⟨#[45]⟩,.string ⟨#[42]⟩,.string ⟨#[47]⟩,.string ⟨#[61]⟩,.string ⟨#[60]⟩] 9)) w.heap.size 3 0 ⟨#[]⟩ 0 (.slice none 0 0) (.slice none 0 0) (.slice none 0 0) (.slice none 0 0)):=((XN.new w 3 0 ⟨#[]⟩ 0 (.slice none 0 0) (.slice none 0 0) (.slice none 0 0) (.slice none 0 0)).ef HE1.out hne).alloc _;have HTW:Hid (TX (w1.alloc (Obj.cells #[.string ⟨#[43]⟩,.string ⟨#[45]⟩,.string ⟨#[42]⟩,.string ⟨#[47]⟩,.string ⟨#[61]⟩,.string ⟨#[60]⟩] 9)) T s (skp s p) nest 0 pl nm iv dv):=HT1.out.alloc _;have HNW:Hid (NF T w.heap.size w (w1.alloc (Obj.cells #[.string ⟨#[43]⟩,.string ⟨#[45]⟩,.string ⟨#[42]⟩,.string ⟨#[47]⟩,.string ⟨#[61]⟩,.string ⟨#[60]⟩] 9))):=NF.of_ef ((((EF.refl T w).alloc _).trans HE1.out).alloc _);have HAR:Hid (∀k (hk:k<6),(w1.alloc (Obj.cells #[.string ⟨#[43]⟩,.string ⟨#[45]⟩,.string ⟨#[42]⟩,.string ⟨#[47]⟩,.string ⟨#[61]⟩,.string ⟨#[60]⟩] 9)).cell? ⟨w1.heap.size,k,none⟩=some (.string (signs[k]'hk))):=by
  intro k hk;rcases(show k=0∨k=1∨k=2∨k=3∨k=4∨k=5 by omega) with rfl|rfl|rfl|rfl|rfl|rfl<;>simp[signs]
 generalize w1.alloc (Obj.cells #[.string ⟨#[43]⟩,.string ⟨#[45]⟩,.string ⟨#[42]⟩,.string ⟨#[47]⟩,.string ⟨#[61]⟩,.string ⟨#[60]⟩] 9)=W at*;clear HE1 HT1 HT0;have hsp:=skp_le hp;go_loopw [7] (λkv wr=>∃k:Nat,k<=6∧kv=.int .i64 (k:Int)∧wr=W∧Hid (∀j (hj:j<k) (h6:j<6),tt≠signs[j]'h6)) (λkv _=>6-(intOf kv).toNat)
 case atStart=>exact⟨0,by omega,rfl,rfl,λj hj=>by omega⟩
 case round=>
  obtain⟨k,hk,rfl,hww,HI⟩:=hrel;replace hww:=hww.symm
  subst hww;have HTK:=hid (λw1 (h:TX w1 T s (skp s p) nest 0 pl nm iv dv)=>txTake_any h hs hsp);unfold TakeRes at HTK;rw[nxt_skp]at HTK;have hnx:=nxt_le hp;by_cases hlt:k<6
  ·have h0:(0:Int)<=(k:Int):=by omega
   have h1:(k:Int)<6:=by omega
   have c0:=HAR.out k hlt;obtain⟨rk,hrk⟩:∃r,signs[k]'hlt=r:=⟨_,rfl⟩;have HRK:=hid hrk;rw[hrk]at c0;clear hrk;by_cases he:tt=rk
   ·have hb:(tt.toList==rk.toList)=true:=by rw[he];simp
    have HSG:Hid (signOf tt=some k):=signOf_some hlt (λj hj=>HI.out j hj (by omega)) (he.trans HRK.out.symm);have HRE:Hid (pForm s (pE s d) p=pb (pE s d (nxt s p)) λl q1=>pb (pE s d q1) λr q2=>.ok (.op k l r,q2)):=by
     show _=_;unfold pForm;rw[HTT.out,HSG.out]
    clear he;go_wp2_with (first
     |(go_at_call 21;refine(HTK.out _ HTW.out).mono ?_;rintro e w2 ⟨rfl,hT2,hE2⟩;have HT2:=hid hT2;have hX2:=HXW.out.ef hE2 hne;have HX2:=hid hX2;have e0:=hX2.c0;have ef0:=hX2.f 0 (by omega);have e1:=(hX2.setKind 8).c1;have ef1:=(hX2.setKind 8).f 1 (by omega);have HNF:=hid (((HNW.out.trans (NF.of_ef hE2)).set (o:=0) (.int .i64 8)).set (o:=1) (.int .i64 (9+(k:Int))));have HPS:Hid (PSt d T w.heap.size s nest pl nm iv dv 8 (9+(k:Int)) (.ok ([],nxt s p)) ((w2.setCell ⟨w.heap.size,0,none⟩ (.int .i64 8)).setCell ⟨w.heap.size,1,none⟩ (.int .i64 (9+(k:Int))))):=(by refine⟨⟨(HT2.out.other (Ne.symm hne)).other (Ne.symm hne),hnx⟩,λc a h=>(by cases h),λgot q h=>?_⟩;cases h;exact⟨Nat.zero_le _,_,[],(HX2.out.setKind 8).setN (9+(k:Int)),PartsSt.nil _ _ _ (by have:=HX2.out.lt;simp;omega)⟩);clear hT2 hE2 hX2 HTK)
     |(go_at_call 70;refine(txPartS HC.out hs hTw HPS.out).mono ?_;rintro e w4 ⟨rfl,hF4,hP4⟩;have HNF4:=hid (HNF.out.trans hF4);have HPS4:=hid hP4;clear HNF HPS hF4 hP4;have HNF:=HNF4;have HPS:=HPS4;clear HNF4 HPS4))
    all_goals first
     |(exfalso;simp_all;done)
     |skip
    go_ret;rw[HRE.out];obtain⟨h1,h2⟩:=op_eq s d k (nxt s p) _ rfl;refine⟨HNF.out.ef (Nat.le_refl _),ans_fg HPS.out.ans h1,_,rfl,λx q hx=>?_⟩;obtain⟨l,r,rfl,h3⟩:=h2 x q hx;exact HPS.out.rx h3 (e:=.op k l r) rfl rfl rfl rfl rfl rfl rfl
   ·have hb:(tt.toList==rk.toList)=false:=by rw[beq_eq_false_iff_ne];exact λh=>he (toL_inj h)
    have HI2:Hid (∀j (hj:j<k+1) (h6:j<6),tt≠signs[j]'h6):=by
     intro j hj h6;by_cases e:j=k
     ·subst e;intro h;exact he (h.trans HRK.out)
     ·exact HI.out j (by omega) h6
    clear he;go_wp2;all_goals first
     |exact⟨⟨k+1,by omega,by go_num,by first|rfl|trivial,HI2.out⟩,by simp[intOf];omega⟩
     |(exfalso;simp_all;done)
  ·obtain rfl:k=6:=by omega
   have HSG:Hid (signOf tt=none):=signOf_none λj hj=>HI.out j hj hj;have t1:=tok_beq (tt:=tt) (t:=tLet) (l:=[108,101,116]) (by rw[ByteArray.toList_eq];rfl);have t2:=tok_beq (tt:=tt) (t:=tLetrec) (l:=[108,101,116,114,101,99]) (by rw[ByteArray.toList_eq];rfl);have t3:=tok_beq (tt:=tt) (t:=tCon) (l:=[99,111,110]) (by rw[ByteArray.toList_eq];rfl);have t4:=tok_beq (tt:=tt) (t:=tCase) (l:=[99,97,115,101]) (by rw[ByteArray.toList_eq];rfl);have HPF:Hid (pForm s (pE s d) p=if tt=tLet then pLets s (pE s d) false (nxt s p) else if tt=tLetrec then pLets s (pE s d) true (nxt s p) else if tt=tCon then pCon s (pE s d) (nxt s p) else if tt=tCase then pCase s (pE s d) (nxt s p) else pCall s (pE s d) p):=by
    show _=_;unfold pForm;rw[HTT.out,HSG.out]
   by_cases e1:tt=tLet
   ·have HRE:Hid (pForm s (pE s d) p=pLets s (pE s d) false (nxt s p)):=by show _=_;rw[HPF.out,if_pos e1]
    have HTL:Hid (tt=if false=true then tLetrec else tLet):=by show _=_;rw[if_neg (by decide)];exact e1
    simp only[e1,decide_true]at t1;rw[<-e1]at t1;clear t2 t3 t4 HPF e1;go_wp2_with (first
     |(go_at_call 21;refine(HTK.out _ HTW.out).mono ?_;rintro e w2 ⟨rfl,hT2,hE2⟩;have HT2:=hid hT2;have HX2:=hid (HXW.out.ef hE2 hne);have HNF:=hid (HNW.out.trans (NF.of_ef hE2));clear hT2 hE2 HTK)
     |(go_at_call 71;refine(txLets_any false HTL.out HC.out HT2.out hs hnx hTw HX2.out).mono ?_;rintro e w3 ⟨rfl,hF3,hA3,hR3⟩;have HNF3:=hid (HNF.out.trans hF3);have HA3:=hid hA3;have HR3:=hid hR3;clear hF3 hA3 hR3))
    all_goals first
     |(exfalso;simp_all;done)
     |skip
    go_ret;rw[HRE.out];exact⟨HNF3.out.ef (Nat.le_refl _),HA3.out,_,rfl,HR3.out⟩
   by_cases e2:tt=tLetrec
   ·have HRE:Hid (pForm s (pE s d) p=pLets s (pE s d) true (nxt s p)):=by show _=_;rw[HPF.out,if_neg e1,if_pos e2]
    have HTL:Hid (tt=if true=true then tLetrec else tLet):=by show _=_;rw[if_pos rfl];exact e2
    rw[show decide (tt=tLet)=false by simp[e1]]at t1;rw[show decide (tt=tLetrec)=true by simp[e2]]at t2;clear t3 t4 HPF e1 e2;go_wp2_with (first
     |(go_at_call 21;refine(HTK.out _ HTW.out).mono ?_;rintro e w2 ⟨rfl,hT2,hE2⟩;have HT2:=hid hT2;have HX2:=hid (HXW.out.ef hE2 hne);have HNF:=hid (HNW.out.trans (NF.of_ef hE2));clear hT2 hE2 HTK)
     |(go_at_call 71;refine(txLets_any true HTL.out HC.out HT2.out hs hnx hTw HX2.out).mono ?_;rintro e w3 ⟨rfl,hF3,hA3,hR3⟩;have HNF3:=hid (HNF.out.trans hF3);have HA3:=hid hA3;have HR3:=hid hR3;clear hF3 hA3 hR3))
    all_goals first
     |(exfalso;simp_all;done)
     |skip
    go_ret;rw[HRE.out];exact⟨HNF3.out.ef (Nat.le_refl _),HA3.out,_,rfl,HR3.out⟩
   by_cases e3:tt=tCon
   ·have HRE:Hid (pForm s (pE s d) p=pCon s (pE s d) (nxt s p)):=by show _=_;rw[HPF.out,if_neg e1,if_neg e2,if_pos e3]
    rw[show decide (tt=tLet)=false by simp[e1]]at t1;rw[show decide (tt=tLetrec)=false by simp[e2]]at t2;rw[show decide (tt=tCon)=true by simp[e3]]at t3;clear t4 HPF e1 e2 e3;go_wp2_with (first
     |(go_at_call 21;refine(HTK.out _ HTW.out).mono ?_;rintro e w2 ⟨rfl,hT2,hE2⟩;have HT2:=hid hT2;have HX2:=hid (HXW.out.ef hE2 hne);have HNF:=hid (HNW.out.trans (NF.of_ef hE2));clear hT2 hE2 HTK)
     |(go_at_call 72;refine(txCon_any HC.out HT2.out hs hnx hTw HX2.out).mono ?_;rintro e w3 ⟨rfl,hF3,hA3,hR3⟩;have HNF3:=hid (HNF.out.trans hF3);have HA3:=hid hA3;have HR3:=hid hR3;clear hF3 hA3 hR3))
    all_goals first
     |(exfalso;simp_all;done)
     |skip
    go_ret;rw[HRE.out];exact⟨HNF3.out.ef (Nat.le_refl _),HA3.out,_,rfl,HR3.out⟩
   by_cases e4:tt=tCase
   ·have HRE:Hid (pForm s (pE s d) p=pCase s (pE s d) (nxt s p)):=by show _=_;rw[HPF.out,if_neg e1,if_neg e2,if_neg e3,if_pos e4]
    rw[show decide (tt=tLet)=false by simp[e1]]at t1;rw[show decide (tt=tLetrec)=false by simp[e2]]at t2;rw[show decide (tt=tCon)=false by simp[e3]]at t3;rw[show decide (tt=tCase)=true by simp[e4]]at t4;clear HPF e1 e2 e3 e4;go_wp2_with (first
     |(go_at_call 21;refine(HTK.out _ HTW.out).mono ?_;rintro e w2 ⟨rfl,hT2,hE2⟩;have HT2:=hid hT2;have HX2:=hid (HXW.out.ef hE2 hne);have HNF:=hid (HNW.out.trans (NF.of_ef hE2));clear hT2 hE2 HTK)
     |(go_at_call 73;refine(txBrs_any HC.out HT2.out hs hnx hTw HX2.out).mono ?_;rintro e w3 ⟨rfl,hF3,hA3,hR3⟩;have HNF3:=hid (HNF.out.trans hF3);have HA3:=hid hA3;have HR3:=hid hR3;clear hF3 hA3 hR3))
    all_goals first
     |(exfalso;simp_all;done)
     |skip
    go_ret;rw[HRE.out];exact⟨HNF3.out.ef (Nat.le_refl _),HA3.out,_,rfl,HR3.out⟩
   ·have HRE:Hid (pForm s (pE s d) p=pCall s (pE s d) p):=by show _=_;rw[HPF.out,if_neg e1,if_neg e2,if_neg e3,if_neg e4]
    rw[show decide (tt=tLet)=false by simp[e1]]at t1;rw[show decide (tt=tLetrec)=false by simp[e2]]at t2;rw[show decide (tt=tCon)=false by simp[e3]]at t3;rw[show decide (tt=tCase)=false by simp[e4]]at t4;clear HPF e1 e2 e3 e4 HTK;obtain⟨r0,hr0⟩:∃r,pForm s (pE s d) p=r:=⟨_,rfl⟩;have HR0:Hid (r0=pb (stepP s d (stepP s d (.ok ([],skp s p)))) λgot q=>pb (pMore s (pE s d) (s.size+1) got q) λl q3=>.ok (.call l,q3)):=by
     show _=_;rw[<-hr0,HRE.out,<-call_eq];unfold pCall;rw[skp_E s d p]
    have HRF:=hid hr0;clear HRE hr0;have HPS:=hid (show PSt d T w.heap.size s nest pl nm iv dv 3 0 (.ok ([],skp s p)) _ from⟨⟨HTW.out,hsp⟩,λc a h=>(by cases h),λgot q h=>(by cases h;exact⟨Nat.zero_le _,_,[],HXW.out,PartsSt.nil _ _ _ (HXW.out.lt)⟩)⟩);have HNF:=hid HNW.out;go_wp2_with (first
     |(go_at_call 70;refine(txPartS HC.out hs hTw HPS.out).mono ?_;rintro e w4 ⟨rfl,hF4,hP4⟩;have HNF4:=hid (HNF.out.trans hF4);have HPS4:=hid hP4;clear HNF HPS hF4 hP4;have HNF:=HNF4;have HPS:=HPS4;clear HNF4 HPS4)
     |(go_at_call 74;refine(txMoreS hs hTw HPS.out).mono ?_;rintro e w5 ⟨rfl,hF5,hP5⟩;have HNF5:=hid (HNF.out.trans hF5);have HPS5:=hid hP5;clear hF5 hP5))
    have HST:Hid (CallSt d T w.heap.size s nest pl nm iv dv w r0 w5 (.bool (mr s (stepP s d (stepP s d (.ok ([],skp s p)))))) (stepP s d (stepP s d (.ok ([],skp s p)))) (s.size+1)):=by
     refine⟨HNF5.out,rfl,HPS5.out,HPS.out.nz,λgot q hx=>?_,HR0.out⟩;have h:=HPS.out.ans;rw[hx]at h;exact⟨by omega,h.2⟩
    clear HPS5 HPS HNF5 HNF HR0;generalize stepP s d (stepP s d (.ok ([],skp s p)))=rr at HST ⊢;go_loopw [8] (λmv wr=>∃r f,Hid (CallSt d T w.heap.size s nest pl nm iv dv w r0 wr mv r f)) (λ_ wr=>left s T wr)
    case atStart=>exact⟨_,_,HST⟩
    case round=>
     obtain⟨r,f,HK⟩:=hrel;rename World=>wl
     have hmv:=HK.out.mv;subst hmv;cases hm:mr s r with
     |false=>
      have HM:=hid hm;clear hm;go_wp2;go_ret;rw[HRF.out];exact HK.out.done HM.out rfl
     |true=>
      obtain⟨got,q,rfl,hne2⟩:=mr_inv hm;have HNE:=hid hne2;clear hm hne2;obtain⟨k1,k2⟩:=HK.out.fu got q rfl;obtain⟨f,rfl⟩:∃f',f=f'+1:=⟨f-1,by omega⟩;have HPL:=hid HK.out.st;go_wp2_with (first
       |(go_at_call 70;refine(txPartS HC.out hs hTw HPL.out).mono ?_;rintro e w4 ⟨rfl,hF4,hP4⟩;have HF4:=hid hF4;have HP4:=hid hP4;clear hF4 hP4)
       |(go_at_call 74;refine(txMoreS hs hTw HP4.out).mono ?_;rintro e w6 ⟨rfl,hF6,hP6⟩;have HF6:=hid hF6;have HP6:=hid hP6;clear hF6 hP6))
      have hfw:=fwd_E s d (skp s q) (skp_le k2);have hst:stepP s d (skR s (.ok (got,q)))=pb (pE s d (skp s q)) λx q'=>.ok (got++[x],q'):=rfl;have hsg:=skp_ge s q;refine⟨⟨_,f,(HK.out.nf.trans HF4.out).trans HF6.out,rfl,HP6.out,HP4.out.nz,λgot' q' hx=>?_,?_⟩,?_⟩
      ·rw[hst]at hx;obtain⟨x,q1,h1,h2⟩:=pb_inv hx;cases h2;have:=hfw x q' h1;exact⟨by omega,this.2⟩
      ·rw[HK.out.eq,pb_ok,pMore,if_neg HNE.out,hst,skp_E s d q];cases pE s d q with
       |error _=>rfl
       |ok a=>rfl
      ·refine left_lt HPL.out.ans.1 (skp_le k2) HP6.out.ans HP4.out.nz λa q' hx=>?_;rw[hst]at hx;obtain⟨x,q1,h1,h2⟩:=pb_inv hx;cases h2;have:=hfw x q' h1;omega
theorem rx_leaf{d:Nat}{w:World}{a B b:Nat}{e:Ex}(hN:XN w B (xK e) (xN e) (xNm e) (xPl e) (.slice none 0 0) (.slice none 0 0) (.slice none 0 0) (.slice none 0 0))(h1:xBd e=[])(h2:xPs e=[])(h3:xAl e=[])(ha:a<=B)(hb:B<b)(hw:b<=w.heap.size):RX (d+1) w a b (.pointer (some ⟨B,0,none⟩)) e:=by
 refine⟨B,_,_,_,_,[],[],b,rfl,ha,hw,hN,?_,?_⟩
 ·intro u hu g hg;obtain rfl:u=.slice none 0 0:=by simpa using hu
  cases hg
 ·exact⟨by rw[h1];exact⟨World.ownsRow_nil _ _ _ _,World.ownsRow_nil _ _ _ _,Or.inl rfl⟩,by rw[h2];exact World.ownsRow_nil _ _ _ _,by rw[h2];exact hb,by rw[h3];exact World.ownsRow_nil _ _ _ _,by rw[h3];exact Nat.le_refl _⟩
theorem open_beq{tt:ByteArray}:(tt.toList==[40])=decide (tt=tOpen):=tok_beq (by rw[ByteArray.toList_eq];rfl)
theorem txExpr_atom{d T:Nat}{s:ByteArray}{p nest pl:Nat}{nm iv dv:Value}{w:World}(h:TX w T s p nest 0 pl nm iv dv)(hs:s.size<=2000)(hp:p<=s.size)(ho:tokT s p≠tOpen):
 Calls Tryz.prog 47 #[.pointer (some ⟨T,0,none⟩)] w λe w'=>ExRes d T s (pAtom s p) nest pl nm iv dv w e w':=by
 have HS:=hid (txTake_any h hs hp);have HN:=hid (nxt_le hp);have hTw:=h.lt;have HZ:=hid (tokT_size (s:=s) hp);have HF:=hid (λw1 (h:TX w1 T s (nxt s p) nest 0 pl nm iv dv)=>txFail_first (c:=2) (q:=tokA s p) h);have HW:=hid (λw1=>whole_any (tokT s p) w1 (by have h1:=HZ.out;have h2:=HN.out;omega));have HD:=hid (λw1=>word_any (tokT s p) w1 (by have h1:=HZ.out;have h2:=HN.out;omega));have HP:Hid (pAtom s p=if wordB (tokT s p)=true then .ok (.name false (tokT s p) (tokA s p),nxt s p) else match wholeP (tokT s p) with
  |some v=>.ok (.num v,nxt s p)
  |none=>.error (2,tokA s p)):=rfl
 obtain⟨tt,htt⟩:∃tt,tokT s p=tt:=⟨_,rfl⟩;unfold TakeRes at HS;rw[htt]at HS HW HP HD ho;have hob:(tt.toList==[40])=false:=by rw[open_beq];simp[ho]
 clear htt h HZ ho;unfold WhRes at HW;cases hwb:wordB tt with
 |true=>
  rw[hwb]at HD;have HE0:Hid (pAtom s p=.ok (.name false tt (tokA s p),nxt s p)):=by show _=_;rw[HP.out,if_pos hwb]
  clear HP hwb HW HF;go_enter Tryz.func47,Tryz.ntmps47;go_wp2_with (first
   |(go_at_call 21;refine HS.out.mono ?_;rintro e w1 ⟨rfl,hT,hE⟩;have HT:=hid hT;have HE:=hid hE;clear hT hE HS)
   |(go_at_call 43;refine(HD.out _).mono ?_;rintro e w2 ⟨rfl,hb⟩;have HB:=hid hb;clear hb HD))
  go_ret;have hz:=HE.out.size;have hz2:=HB.out.size;refine⟨(HE.out.trans (EF.of_below HB.out)).alloc _,by rw[HE0.out];exact⟨(HT.out.keep HB.out).alloc _,HN.out⟩,_,rfl,λx q hx=>?_⟩;rw[HE0.out]at hx;cases hx;exact rx_leaf (XN.new w2 1 0 tt _ _ _ _ _) rfl rfl rfl (by omega) (by simp) (Nat.le_refl _)
 |false=>
  rw[hwb]at HD;obtain⟨r,hr⟩:∃r,wholeP tt=r:=⟨_,rfl⟩;rw[hr]at HW HP;cases r with
  |some v=>
   have HE0:Hid (pAtom s p=.ok (.num v,nxt s p)):=by show _=_;rw[HP.out,if_neg (by simp[hwb])]
   clear HP hwb HF hr;go_enter Tryz.func47,Tryz.ntmps47;go_wp2_with (first
    |(go_at_call 21;refine HS.out.mono ?_;rintro e w1 ⟨rfl,hT,hE⟩;have HT:=hid hT;have HE:=hid hE;clear hT hE HS)
    |(go_at_call 43;refine(HD.out _).mono ?_;rintro e w2 ⟨rfl,hb⟩;have HB:=hid hb;clear hb HD)
    |(go_at_call 45;refine(HW.out _).mono ?_;rintro e w3 ⟨hb3,n,rfl,hnv⟩;have hnv1:=hnv v rfl;subst hnv1;have HB3:=hid hb3;clear hb3 HW hnv))
   go_ret;have hz:=HE.out.size;have hz2:=HB.out.size;have hz3:=HB3.out.size;refine⟨((HE.out.trans (EF.of_below HB.out)).trans (EF.of_below HB3.out)).alloc _,by rw[HE0.out];exact⟨((HT.out.keep HB.out).keep HB3.out).alloc _,HN.out⟩,_,rfl,λx q hx=>?_⟩;rw[HE0.out]at hx;cases hx;exact rx_leaf (XN.new w3 0 _ _ _ _ _ _ _) rfl rfl rfl (by omega) (by simp) (Nat.le_refl _)
  |none=>
   have HE0:Hid (pAtom s p=.error (2,tokA s p)):=by show _=_;rw[HP.out,if_neg (by simp[hwb])]
   clear HP hwb hr;go_enter Tryz.func47,Tryz.ntmps47;go_wp2_with (first
    |(go_at_call 21;refine HS.out.mono ?_;rintro e w1 ⟨rfl,hT,hE⟩;have HT:=hid hT;have HE:=hid hE;clear hT hE HS)
    |(go_at_call 43;refine(HD.out _).mono ?_;rintro e w2 ⟨rfl,hb⟩;have HB:=hid hb;clear hb HD)
    |(go_at_call 45;refine(HW.out _).mono ?_;rintro e w3 ⟨hb3,n,rfl,-⟩;have HB3:=hid hb3;clear hb3 HW)
    |(go_at_call 23;refine(HF.out _ ((HT.out.keep HB.out).keep HB3.out)).mono ?_;rintro e w4 ⟨rfl,hT4,hE4⟩;have HT4:=hid hT4;have HE4:=hid hE4;clear hT4 hE4 HF))
   go_ret;refine⟨(((HE.out.trans (EF.of_below HB.out)).trans (EF.of_below HB3.out)).trans HE4.out).alloc _,by rw[HE0.out];exact⟨_,HT4.out.alloc _,HN.out⟩,_,rfl,λx q hx=>?_⟩;rw[HE0.out]at hx;cases hx
theorem txExpr_deep{T:Nat}{s:ByteArray}{p pl:Nat}{nm iv dv:Value}{w:World}(h:TX w T s p 30 0 pl nm iv dv)(hs:s.size<=2000)(hp:p<=s.size)(ho:tokT s p=tOpen):
 Calls Tryz.prog 47 #[.pointer (some ⟨T,0,none⟩)] w λe w'=>ExRes 0 T s (pE s 0 p) 30 pl nm iv dv w e w':=by
 have HS:=hid (txTake_any h hs hp);have HN:=hid (nxt_le hp);have HF:=hid (λw1 (h:TX w1 T s (nxt s p) 30 0 pl nm iv dv)=>txFail_first (c:=3) (q:=tokA s p) h);have HE0:Hid (pE s 0 p=.error (3,tokA s p)):=by show _=_;rw[pE,if_pos ho]
 unfold TakeRes at HS;rw[ho]at HS;have hob:(tOpen.toList==[40])=true:=by rw[open_beq];simp
 clear h ho;go_enter Tryz.func47,Tryz.ntmps47;go_wp2_with (first
  |(go_at_call 21;refine HS.out.mono ?_;rintro e w1 ⟨rfl,hT,hE⟩;have HT:=hid hT;have HE:=hid hE;obtain⟨c0,c1,c2,c3,c4,-,-,-,-⟩:=hT;clear hE HS)
  |(go_at_call 23;refine(HF.out _ HT.out).mono ?_;rintro e w4 ⟨rfl,hT4,hE4⟩;have HT4:=hid hT4;have HE4:=hid hE4;clear hT4 hE4 HF))
 go_ret;refine⟨HE.out.trans HE4.out,by rw[HE0.out];exact⟨_,HT4.out,HN.out⟩,_,rfl,λx q hx=>?_⟩;rw[HE0.out]at hx;cases hx
theorem txExpr_form{d T:Nat}{s:ByteArray}{p nest pl:Nat}{nm iv dv:Value}{w:World}(hC:ExprC d T s (nest+1))(hn:nest<30)(h:TX w T s p nest 0 pl nm iv dv)(hs:s.size<=2000)(hp:p<=s.size)(ho:tokT s p=tOpen):
 Calls Tryz.prog 47 #[.pointer (some ⟨T,0,none⟩)] w λe w'=>ExRes (d+1) T s (pE s (d+1) p) nest pl nm iv dv w e w':=by
 have HS:=hid (txTake_any h hs hp);have hnx:=nxt_le hp;have HRE:Hid (pE s (d+1) p=pb (pForm s (pE s d) (nxt s p)) λe q=>pb (pWant s tClose q) λ_ q2=>.ok (e,q2)):=by show _=_;rw[pE,if_pos ho]
 have HFM:=hid (λw1 (h:TX w1 T s (nxt s p) (nest+1) 0 pl nm iv dv)=>txForm_any hC h hs hnx);have hn1:¬30<=(nest:Int):=by omega
 have hn2:(nest:Int)<30:=by omega
 unfold TakeRes at HS;rw[ho]at HS;have hob:(tOpen.toList==[40])=true:=by rw[open_beq];simp
 clear h ho hC;have HNS:Hid (∀w1:World,TX w1 T s (nxt s p) nest 0 pl nm iv dv->TX (w1.setCell ⟨T,2,none⟩ (.int .i64 ((nest:Int)+1))) T s (nxt s p) (nest+1) 0 pl nm iv dv):=by
  intro w1 h1;have h2:=h1.setNest (nest+1);rw[show(((nest+1:Nat):Int))=(nest:Int)+1 by omega]at h2;exact h2
 match hf:pForm s (pE s d) (nxt s p) with
 |.error (c,a)=>
  have hc:=nz_form (nz_E s d) (s:=s) (nxt s p) c a hf;have he1:((c:Int)==0)=false:=by rw[beq_eq_false_iff_ne];omega
  have HE0:Hid (pE s (d+1) p=.error (c,a)):=by show _=_;rw[HRE.out,hf];rfl
  go_enter Tryz.func47,Tryz.ntmps47;go_wp2_with (first
   |(go_at_call 21;refine HS.out.mono ?_;rintro e w1 ⟨rfl,hT,hE⟩;have HT:=hid hT;have HE:=hid hE;have f2:=hT.f 2 (by omega);obtain⟨c0,c1,c2,c3,c4,-,-,-,-⟩:=hT;clear hE HS)
   |(go_at_call 60;refine(HFM.out _ (HNS.out _ HT.out)).mono ?_;rintro e w2 ⟨hE2,hA2,o,rfl,-⟩;rw[hf]at hA2;obtain⟨q2,hT2,hq2⟩:=hA2;have HE2:=hid hE2;have HT2:=hid hT2;have g2:=hT2.f 2 (by omega);have hT3:=hT2.setNest nest;have HT3:=hid hT3;have m3:=hT3.c3;obtain⟨d0,d1,d2,d3,d4,-,-,-,-⟩:=hT2;clear hE2 hT3 HFM))
  all_goals first
   |(exfalso;omega)
   |skip
  go_ret;refine⟨((HE.out.set _).trans HE2.out).set _,by rw[HE0.out];exact⟨_,HT3.out,hq2⟩,_,rfl,λx q hx=>?_⟩;rw[HE0.out]at hx;cases hx
 |.ok (x,q)=>
  have HE0:Hid (pE s (d+1) p=pb (pWant s tClose q) λ_ q2=>.ok (x,q2)):=by show _=_;rw[HRE.out,hf];rfl
  go_enter Tryz.func47,Tryz.ntmps47;go_wp2_with (first
   |(go_at_call 21;refine HS.out.mono ?_;rintro e w1 ⟨rfl,hT,hE⟩;have HT:=hid hT;have HE:=hid hE;have f2:=hT.f 2 (by omega);obtain⟨c0,c1,c2,c3,c4,-,-,-,-⟩:=hT;clear hE HS)
   |(go_at_call 60;refine(HFM.out _ (HNS.out _ HT.out)).mono ?_;rintro e w2 ⟨hE2,hA2,o,rfl,hX2⟩;rw[hf]at hA2 hX2;obtain⟨hT2,hq2⟩:=hA2;have HX2:=hid hX2;have HE2:=hid hE2;have HT2:=hid hT2;have g2:=hT2.f 2 (by omega);have hT3:=hT2.setNest nest;have HT3:=hid hT3;have m3:=hT3.c3;obtain⟨d0,d1,d2,d3,d4,-,-,-,-⟩:=hT2;clear hE2 hT3 hX2 HFM)
   |(go_at_call 19;refine(txWant_any (t:=tClose) HT3.out hs hq2).mono ?_;rintro e w4 ⟨rfl,hU⟩;obtain⟨hE4,hA4⟩:=unit_ans hU;have HE4:=hid hE4;have HA4:=hid hA4;clear hU hE4 hA4))
  go_ret;have hz1:=HE.out.size;have hz2:=HE2.out.size;have hz4:=HE4.out.size;simp at hz2 hz4;have hTw:=HT.out.lt;refine⟨(((HE.out.set _).trans HE2.out).set _).trans HE4.out,by rw[HE0.out];exact ans_fg HA4.out (fg_pb _ _),_,rfl,λx' q' hx=>?_⟩;rw[HE0.out]at hx;obtain⟨u,q1,h1,h2⟩:=pb_inv hx;cases h2;have hR:=HX2.out x q rfl;rw[World.size_setCell]at hR;refine RX.wide (RX.same hR (λk h3 h4=>?_) (by omega)) (by omega) (by omega) (Nat.le_refl _);rw[HE4.out.block k (by simp;omega) (by omega),Below.heap_setCell _ _ _ _ (show k≠T by omega)]
theorem txExpr_any{T:Nat}{s:ByteArray}(hs:s.size<=2000):∀d nest,d+nest=30->ExprC d T s nest
 |0,nest,hd=>by
  intro w p pl nm iv dv h hp;obtain rfl:nest=30:=by omega
  by_cases ho:tokT s p=tOpen
  ·exact txExpr_deep h hs hp ho
  ·rw[pE,if_neg ho];exact txExpr_atom h hs hp ho
 |d+1,nest,hd=>by
  intro w p pl nm iv dv h hp;by_cases ho:tokT s p=tOpen
  ·exact txExpr_form (txExpr_any hs d (nest+1) (by omega)) (by omega) h hs hp ho
  ·rw[pE,if_neg ho];exact txExpr_atom h hs hp ho
section
variable {w:World} {T:Nat} {s:ByteArray} {p nest err pl:Nat} {nm iv dv:Value}
theorem TX.setNm(h:TX w T s p nest err pl nm iv dv)(x:Value):TX (w.setCell ⟨T,5,none⟩ x) T s p nest err pl x iv dv:=by
 have ho:∀j,j≠5->(w.setCell ⟨T,5,none⟩ x).cell? ⟨T,j,none⟩=w.cell? ⟨T,j,none⟩:=λj hj=>World.cell?_setCell_other _ _ _ _ (off_ne (Ne.symm hj));refine⟨?_,?_,?_,?_,?_,World.cell?_setCell_same _ _ _ h.c5,?_,?_,λj hj=>by rw[World.frozen?_setCell];exact h.f j hj⟩
 ·rw[ho _ (by omega)];exact h.c0
 ·rw[ho _ (by omega)];exact h.c1
 ·rw[ho _ (by omega)];exact h.c2
 ·rw[ho _ (by omega)];exact h.c3
 ·rw[ho _ (by omega)];exact h.c4
 ·rw[ho _ (by omega)];exact h.c6
 ·rw[ho _ (by omega)];exact h.c7
theorem TX.setIv(h:TX w T s p nest err pl nm iv dv)(x:Value):TX (w.setCell ⟨T,6,none⟩ x) T s p nest err pl nm x dv:=by
 have ho:∀j,j≠6->(w.setCell ⟨T,6,none⟩ x).cell? ⟨T,j,none⟩=w.cell? ⟨T,j,none⟩:=λj hj=>World.cell?_setCell_other _ _ _ _ (off_ne (Ne.symm hj));refine⟨?_,?_,?_,?_,?_,?_,World.cell?_setCell_same _ _ _ h.c6,?_,λj hj=>by rw[World.frozen?_setCell];exact h.f j hj⟩
 ·rw[ho _ (by omega)];exact h.c0
 ·rw[ho _ (by omega)];exact h.c1
 ·rw[ho _ (by omega)];exact h.c2
 ·rw[ho _ (by omega)];exact h.c3
 ·rw[ho _ (by omega)];exact h.c4
 ·rw[ho _ (by omega)];exact h.c5
 ·rw[ho _ (by omega)];exact h.c7
theorem TX.setDv(h:TX w T s p nest err pl nm iv dv)(x:Value):TX (w.setCell ⟨T,7,none⟩ x) T s p nest err pl nm iv x:=by
 have ho:∀j,j≠7->(w.setCell ⟨T,7,none⟩ x).cell? ⟨T,j,none⟩=w.cell? ⟨T,j,none⟩:=λj hj=>World.cell?_setCell_other _ _ _ _ (off_ne (Ne.symm hj));refine⟨?_,?_,?_,?_,?_,?_,?_,World.cell?_setCell_same _ _ _ h.c7,λj hj=>by rw[World.frozen?_setCell];exact h.f j hj⟩
 ·rw[ho _ (by omega)];exact h.c0
 ·rw[ho _ (by omega)];exact h.c1
 ·rw[ho _ (by omega)];exact h.c2
 ·rw[ho _ (by omega)];exact h.c3
 ·rw[ho _ (by omega)];exact h.c4
 ·rw[ho _ (by omega)];exact h.c5
 ·rw[ho _ (by omega)];exact h.c6
end
abbrev Imps:=List (ByteArray×Nat)
abbrev Defs:=List (ByteArray×Nms×Ex)
def impRow(l:Imps):List Value:=l.flatMap λx=>[.string x.1,.int .i64 (x.2:Int)]
def defRow(kd:List ((Value×Value×Value)×Nat×Nat))(l:Defs):List Value:=(List.zip kd l).flatMap λx=>[.string x.2.1,x.1.1.1,x.1.1.2.1,x.1.1.2.2]
theorem impRow_at(l:Imps)(i:Nat)(hi:i<l.length):(impRow l)[i*2]?=some (.string l[i].1):=(flat2_at _ _ l i hi).1
theorem defRow_at{kd:List ((Value×Value×Value)×Nat×Nat)}{l:Defs}(h:kd.length=l.length)(i:Nat)(hi:i<l.length):(defRow kd l)[i*4]?=some (.string l[i].1):=by
 have hz:i<(List.zip kd l).length:=by simp;omega
 have h1:=(flat4_at (λx:(((Value×Value×Value)×Nat×Nat)×(ByteArray×Nms×Ex))=>(.string x.2.1:Value)) (λx=>x.1.1.1) (λx=>x.1.1.2.1) (λx=>x.1.1.2.2) (List.zip kd l) i hz).1;unfold defRow;rw[h1];simp
def dupB{α:Type}(l:List ByteArray)(n:ByteArray)(at' k:Nat)(r:Pr α):Pr α:=if (l.take k).any (λb=>decide (b=n))=true then fl 5 at' r else r
theorem dupB_zero{α:Type}(l:List ByteArray)(n:ByteArray)(at':Nat)(r:Pr α):dupB l n at' 0 r=r:=by unfold dupB;simp
theorem dupB_succ{α:Type}{l:List ByteArray}{n:ByteArray}{at' k:Nat}{r:Pr α}(hk:k<l.length):dupB l n at' (k+1) r=if l[k]=n then fl 5 at' (dupB l n at' k r) else dupB l n at' k r:=by
 unfold dupB;rw[List.take_succ_eq_append_getElem hk,List.any_append];cases h1:(l.take k).any (λb=>decide (b=n)) with
 |true=>
  by_cases h2:l[k]=n
  ·simp[h2,fl_fl]
  ·simp[h2]
 |false=>
  by_cases h2:l[k]=n
  ·simp[h2]
  ·simp[h2]
theorem nzr_dupB{α:Type}{l:List ByteArray}{n:ByteArray}{at' k:Nat}{r:Pr α}(h:NZr r):NZr (dupB l n at' k r):=by
 unfold dupB;split
 ·exact nzr_fl h (by decide)
 ·exact h
def pDecl(s:ByteArray)(known:List ByteArray)(p:Nat):Pr ByteArray:=pb (pName s p) λx q=>if inB x.1 known 0=true then .error (5,x.2) else .ok (x.1,q)
theorem nz_decl(s:ByteArray)(known:List ByteArray):NZ (pDecl s known):=by
 intro p c a h;rcases pb_einv h with h1|⟨y,q,h1,h2⟩
 ·exact nz_name s p c a h1
 ·split at h2<;>cases h2;decide
theorem fwd_decl{s:ByteArray}{known:List ByteArray}:Fwd s (pDecl s known) 1:=by
 intro p hp a q h;obtain⟨x,q1,h1,h2⟩:=pb_inv h;have k1:=fwd_name p hp x q1 h1;split at h2
 ·cases h2
 ·cases h2;exact k1
theorem decl_eq(s:ByteArray)(l1 l2:List ByteArray)(p:Nat):fg (dupB l2 (tokT s p) (tokA s p) l2.length (dupB l1 (tokT s p) (tokA s p) l1.length (pName s p)))=fg (pDecl s (l1++l2) p):=by
 unfold pDecl dupB;rw[List.take_length,List.take_length];match hn:pName s p with
 |.error e=>
  rw[pb_err];split<;>split<;>rfl
 |.ok (x,q)=>
  have hx:x=(tokT s p,tokA s p):=by
   unfold pName at hn;split at hn
   ·cases hn;rfl
   ·cases hn
  subst hx;rw[pb_ok];unfold inB;rw[List.drop_zero,List.any_append];cases h1:l1.any (λb=>decide (b=tokT s p)) with
  |true=>simp[fl,fg]
  |false=>
   cases h2:l2.any (λb=>decide (b=tokT s p)) with
   |true=>simp[fl,fg]
   |false=>simp[fg]
theorem ans_c6{α:Type}{T:Nat}{s:ByteArray}{r:Pr α}{nest pl:Nat}{nm iv dv:Value}{w:World}(h:Ans T s r nest pl nm iv dv w):w.cell? ⟨T,6,none⟩=some iv∧w.cell? ⟨T,7,none⟩=some dv∧T<w.heap.size:=by
 match r,h with
 |.ok _,h=>exact⟨h.1.c6,h.1.c7,h.1.lt⟩
 |.error _,h=>
  obtain⟨q,h1,-⟩:=h;exact⟨h1.c6,h1.c7,h1.lt⟩
theorem txDecl_any{T:Nat}{s:ByteArray}{p nest pl:Nat}{nm iv dv:Value}{w:World}{imps:Imps}{defs:Defs}{kd:List ((Value×Value×Value)×Nat×Nat)}(h:TX w T s p nest 0 pl nm iv dv)(hs:s.size<=2000)(hp:p<=s.size)(hI:w.ownsRow (T+1) 77 2 iv imps.length (impRow imps))(hD:w.ownsRow (T+1) 52 4 dv defs.length (defRow kd defs))(hk:kd.length=defs.length)(hil:imps.length<=2000)(hdl:defs.length<=2000):
 Calls Tryz.prog 24 #[.pointer (some ⟨T,0,none⟩)] w λe w'=>e=.returned (.string (tokT s p))∧EF T w w'∧Ans T s (pDecl s (imps.map (·.1)++defs.map (·.1)) p) nest pl nm iv dv w':=by
 have HNM:=hid (txName_any h hs hp);have HI:=hid hI;have HD:=hid hD;have HEQ:=hid (decl_eq s (imps.map (·.1)) (defs.map (·.1)) p);have HZN:=hid (nz_name s p);obtain⟨ip,ic,rfl⟩:=row_slice hI;obtain⟨dp,dc,rfl⟩:=row_slice hD;obtain⟨tt,htt⟩:∃tt,tokT s p=tt:=⟨_,rfl⟩;rw[htt]at HNM HEQ;rw[htt];obtain⟨l1,hl1⟩:∃l,imps.map (·.1)=l:=⟨_,rfl⟩;obtain⟨l2,hl2⟩:∃l,defs.map (·.1)=l:=⟨_,rfl⟩;have HL1:=hid hl1;have HL2:=hid hl2;have hn1:l1.length=imps.length:=by rw[<-hl1];simp
 have hn2:l2.length=defs.length:=by rw[<-hl2];simp
 rw[hl1,hl2]at HEQ;rw[hl1,hl2];clear h hI hD htt hl1 hl2;go_enter Tryz.func24,Tryz.ntmps24;go_wp2_with (first
  |(go_at_call 20;refine HNM.out.mono ?_;rintro e w1 ⟨rfl,hE1,hA1⟩;have HE1:=hid hE1;have HA1:=hid hA1;clear hE1 hA1 HNM))
 go_loopw [5] (λkv wi=>∃k:Nat,k<=imps.length∧kv=.int .i64 (k:Int)∧Hid (EF T w wi∧Ans T s (dupB l1 tt (tokA s p) k (pName s p)) nest pl nm (.slice ip imps.length ic) (.slice dp defs.length dc) wi)) (λkv _=>imps.length-(intOf kv).toNat)
 case atStart=>exact⟨0,Nat.zero_le _,rfl,HE1.out,by rw[dupB_zero];exact HA1.out⟩
 case round=>
  obtain⟨k,hk0,rfl,HL⟩:=hrel;rename World=>wi
  obtain⟨c6,c7,-⟩:=ans_c6 HL.out.2;by_cases hlt:k<imps.length
  ·have h0:(0:Int)<=(k:Int):=by omega
   have h1:(k:Int)<(imps.length:Int):=by omega
   have HRi:=hid (row_ef HI.out HL.out.1 (by omega));obtain⟨ga,rfl⟩:∃ga,ip=some ⟨ga,0,none⟩:=by
    obtain⟨ga,cap,e,-⟩:=HRi.out.form (by omega);exact⟨ga,by cases e;rfl⟩
   have ct:wi.cell? ⟨ga,k*2,none⟩=some (.string (l1[k]'(by omega))):=by
    have h2:=HRi.out.cellAt (k*2) (by omega);rw[impRow_at imps k hlt]at h2;rw[h2];congr 2
    simp[<-HL1.out]
   have HSU:=hid (dupB_succ (n:=tt) (at':=tokA s p) (r:=pName s p) (show k<l1.length by omega));obtain⟨tk,htk⟩:∃tk,l1[k]'(by omega)=tk:=⟨_,rfl⟩;rw[htk]at ct HSU;clear htk;have HZD:=hid (nzr_dupB (l:=l1) (n:=tt) (at':=tokA s p) (k:=k) (r:=pName s p) HZN.out);by_cases hd:tk=tt
   ·have b1:(tk.toList==tt.toList)=true:=by rw[hd];simp
    rw[if_pos hd]at HSU;clear hd;go_wp2_with (first
     |(go_at_call 23;refine(txFail_any (c:=5) (a:=tokA s p) HL.out.2 HZD.out).mono ?_;rintro e w5 ⟨rfl,hA5,hE5⟩;have HA5:=hid hA5;have HE5:=hid hE5;clear hA5 hE5))
    all_goals first
     |(exfalso;simp_all;done)
     |exact⟨⟨k+1,by omega,by go_num,HL.out.1.trans HE5.out,by rw[HSU.out];exact HA5.out⟩,by simp[intOf];omega⟩
   ·have b1:(tk.toList==tt.toList)=false:=by rw[beq_eq_false_iff_ne];exact λh=>hd (toL_inj h)
    rw[if_neg hd]at HSU;clear hd;go_wp2;all_goals first
     |exact⟨⟨k+1,by omega,by go_num,HL.out.1,by rw[HSU.out];exact HL.out.2⟩,by simp[intOf];omega⟩
     |(exfalso;simp_all;done)
  ·have hge:¬(k:Int)<(imps.length:Int):=by omega
   obtain rfl:k=imps.length:=by omega
   have HEL:=hid HL.out.1;have HAL:=hid HL.out.2;have HZ1:=hid (nzr_dupB (l:=l1) (n:=tt) (at':=tokA s p) (k:=imps.length) (r:=pName s p) HZN.out);go_wp2;go_loopw [6] (λkv wj=>∃k:Nat,k<=defs.length∧kv=.int .i64 (k:Int)∧Hid (EF T w wj∧Ans T s (dupB l2 tt (tokA s p) k (dupB l1 tt (tokA s p) imps.length (pName s p))) nest pl nm (.slice ip imps.length ic) (.slice dp defs.length dc) wj)) (λkv _=>defs.length-(intOf kv).toNat)
   case atStart=>exact⟨0,Nat.zero_le _,rfl,HEL.out,by rw[dupB_zero];exact HAL.out⟩
   case round=>
    obtain⟨k,hk1,rfl,HM⟩:=hrel;rename World=>wj
    obtain⟨e6,e7,-⟩:=ans_c6 HM.out.2;by_cases hlt:k<defs.length
    ·have h0:(0:Int)<=(k:Int):=by omega
     have h1:(k:Int)<(defs.length:Int):=by omega
     have HRj:=hid (row_ef HD.out HM.out.1 (by omega));obtain⟨ga,rfl⟩:∃ga,dp=some ⟨ga,0,none⟩:=by
      obtain⟨ga,cap,e,-⟩:=HRj.out.form (by omega);exact⟨ga,by cases e;rfl⟩
     have ct:wj.cell? ⟨ga,k*4,none⟩=some (.string (l2[k]'(by omega))):=by
      have h2:=HRj.out.cellAt (k*4) (by omega);rw[defRow_at hk k hlt]at h2;rw[h2];congr 2
      simp[<-HL2.out]
     have HSU:=hid (dupB_succ (n:=tt) (at':=tokA s p) (r:=dupB l1 tt (tokA s p) imps.length (pName s p)) (show k<l2.length by omega));obtain⟨tk,htk⟩:∃tk,l2[k]'(by omega)=tk:=⟨_,rfl⟩;rw[htk]at ct HSU;clear htk;have HZD:=hid (nzr_dupB (l:=l2) (n:=tt) (at':=tokA s p) (k:=k) HZ1.out);by_cases hd:tk=tt
     ·have b1:(tk.toList==tt.toList)=true:=by rw[hd];simp
      rw[if_pos hd]at HSU;clear hd;go_wp2_with (first
       |(go_at_call 23;refine(txFail_any (c:=5) (a:=tokA s p) HM.out.2 HZD.out).mono ?_;rintro e w5 ⟨rfl,hA5,hE5⟩;have HA5:=hid hA5;have HE5:=hid hE5;clear hA5 hE5))
      all_goals first
       |(exfalso;simp_all;done)
       |exact⟨⟨k+1,by omega,by go_num,HM.out.1.trans HE5.out,by rw[HSU.out];exact HA5.out⟩,by simp[intOf];omega⟩
     ·have b1:(tk.toList==tt.toList)=false:=by rw[beq_eq_false_iff_ne];exact λh=>hd (toL_inj h)
      rw[if_neg hd]at HSU;clear hd;go_wp2;all_goals first
       |exact⟨⟨k+1,by omega,by go_num,HM.out.1,by rw[HSU.out];exact HM.out.2⟩,by simp[intOf];omega⟩
       |(exfalso;simp_all;done)
    ·have hge2:¬(k:Int)<(defs.length:Int):=by omega
     obtain rfl:k=defs.length:=by omega
     go_wp2;go_ret;refine⟨rfl,HM.out.1,ans_fg HM.out.2 ?_⟩;rw[<-HEQ.out,hn1,hn2]
end Go.Proofs.YtlanckgcjijefaaGreatDoor
