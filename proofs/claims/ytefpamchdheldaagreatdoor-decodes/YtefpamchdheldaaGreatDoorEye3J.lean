import Derived.Test.YtefpamchdheldaaGreatDoorEyeJ
import Derived.Test.YtefpamchdheldaaGreatDoorShapedJ
set_option maxRecDepth 100000
set_option maxHeartbeats 8000000
namespace Go.Proofs.YtefpamchdheldaaGreatDoor
open Go.RowKit Go.Sort
def Away(E:Nat)(v:Value):Prop:=∀p n c,v=.slice p n c->∀a,p=some a->a.block≠E
theorem EF.cell{E:Nat}{w w':World}(h:EF E w w'){b j:Nat}{u:Value}(hc:w.cell? ⟨b,j,none⟩=some u)(hb:b≠E):w'.cell? ⟨b,j,none⟩=some u:=by
 rw[<-hc];exact World.cell?_of_block (h.block b (block_lt_of_cell hc) hb)
theorem ImpsAt.ef{E:Nat}{w w':World}{v:Value}{l:List LImp}(h:ImpsAt w v l)(hE:EF E w w')(ha:Away E v):ImpsAt w' v l:=by
 obtain⟨p,cap,e,hs,hc⟩:=h;refine⟨p,cap,e,hs,λi hi=>?_⟩;obtain⟨b,o,e2,h0,h1,h2⟩:=hc i hi;have hb:b≠E:=ha _ _ _ e _ e2;exact⟨b,o,e2,hE.cell h0 hb,hE.cell h1 hb,h2⟩
def NameRes(E:Nat)(s:ByteArray)(r:Rd ByteArray)(pl:Nat)(w:World)(e:Ending)(w':World):Prop:=
 (∃t q,r=.ok (t,q)∧e=.returned (.string t)∧ES w' E s q 0 pl∧EF E w w')∨
 (∃c at' t q,r=.error (c,at')∧e=.returned (.string t)∧t.size<=16∧ES w' E s q c at'∧q<=s.size∧EF E w w')
theorem eyeName_any(E:Nat)(s last:ByteArray)(imps:List LImp)(v:Value)(p pl:Nat)(w:World)(hs:s.size<=100000)(hp:p<=s.size)(h:ES w E s p 0 pl)(hI:ImpsAt w v imps)(hA:Away E v):
 Calls Tryz.prog 27 #[.pointer (some ⟨E,0,none⟩),.string last,v] w λe w'=>NameRes E s (rdNameB s last imps p) pl w e w':=by
 obtain⟨c0,c1,c2,c3,-⟩:=id h;have HV:=hid (eyeVarint_any E s p pl w hs hp h);have HI:Hid (∀w',EF E w w'->ImpsAt w' v imps):=λw' hE=>hI.ef hE hA;obtain⟨ip,ic,rfl,hlen,-⟩:=hI.open;clear h hI hA;match hv:rdV s p with
 |.error (c,a)=>
  have hc:((c:Int)==0)=false:=by rw[beq_eq_false_iff_ne];have:=rdV_err hv;omega
  have HR:=hid (rdNameB_n (last:=last) (imps:=imps) (rdName_v hv));have HRV:=hid hv;clear hv;go_enter Tryz.func27,Tryz.ntmps27;go_wp2_with (first
   |(go_at_call 28;refine HV.out.mono ?_;rintro e w1 hr;obtain⟨rfl,q,hS1,hq,hE1⟩:=hr.err HRV.out;obtain⟨d0,d1,d2,d3,-⟩:=id hS1;have HS1:=hid hS1;have HE1:=hid hE1;clear hr hS1 hE1))
  go_ret;exact Or.inr ⟨c,a,_,q,HR.out,rfl,(show(0:Nat)<=16 by omega),HS1.out,hq,HE1.out⟩
 |.ok (n,q)=>
  have hn:=(rdV_ok hv).1;have hqs:=(rdV_ok hv).2.2;have HRV:=hid hv;by_cases h1:n<1∨16<n
  ·have HR:=hid (rdNameB_n (last:=last) (imps:=imps) (rdName_size hv h1));clear hv;go_enter Tryz.func27,Tryz.ntmps27;go_wp2_with (first
    |(go_at_call 28;refine HV.out.mono ?_;rintro e w1 hr;obtain⟨rfl,hS1,hE1⟩:=hr.ok HRV.out;obtain⟨d0,d1,d2,d3,-⟩:=id hS1;have HS1:=hid hS1;have HE1:=hid hE1;clear hr hS1 hE1)
    |(go_at_call 26;refine(eyeFail_first E s q pl 4 p _ HS1.out).mono ?_;rintro e w2 ⟨rfl,hS2,hE2⟩;obtain⟨d0,d1,d2,d3,-⟩:=id hS2;have HS2:=hid hS2;have HE2:=hid hE2;clear hS2 hE2))
   all_goals first
    |(exfalso;omega)
    |(go_ret;exact Or.inr ⟨4,p,_,q,HR.out,rfl,(show(0:Nat)<=16 by omega),HS2.out,hqs,HE1.out.trans HE2.out⟩)
  ·by_cases h2:s.size<q+n
   ·have HR:=hid (rdNameB_n (last:=last) (imps:=imps) (rdName_short hv h1 h2));clear hv;go_enter Tryz.func27,Tryz.ntmps27;go_wp2_with (first
     |(go_at_call 28;refine HV.out.mono ?_;rintro e w1 hr;obtain⟨rfl,hS1,hE1⟩:=hr.ok HRV.out;obtain⟨d0,d1,d2,d3,-⟩:=id hS1;have HS1:=hid hS1;have HE1:=hid hE1;clear hr hS1 hE1))
    go_quiet (fail);go_wp2_with (first
     |(go_at_call 26;refine(eyeFail_first E s q pl 6 s.size _ (HS1.out.keep (below_drewN (Below.refl _ _) _))).mono ?_;rintro e w2 ⟨rfl,hS2,hE2⟩;obtain⟨d0,d1,d2,d3,-⟩:=id hS2;have HS2:=hid hS2;have HE2:=hid hE2;clear hS2 hE2))
    all_goals first
     |(exfalso;omega)
     |(go_ret;exact Or.inr ⟨6,s.size,_,q,HR.out,rfl,(show(0:Nat)<=16 by omega),HS2.out,hqs,(HE1.out.trans (EF.of_below (below_drewN (Below.refl _ _) _))).trans HE2.out⟩)
   ·have hz:(s.extract q (q+n)).size=n:=by rw[ByteArray.size_extract];omega
    cases h3:nmB (s.extract q (q+n)) with
    |false=>
     have HR:=hid (rdNameB_n (last:=last) (imps:=imps) (rdName_bad hv h1 h2 h3));clear hv;go_enter Tryz.func27,Tryz.ntmps27;go_wp2_with (first
      |(go_at_call 28;refine HV.out.mono ?_;rintro e w1 hr;obtain⟨rfl,hS1,hE1⟩:=hr.ok HRV.out;obtain⟨d0,d1,d2,d3,hf⟩:=id hS1;have g1:=hf 1 (by omega);clear hf;have HS1:=hid hS1;have HE1:=hid hE1;clear hr hS1 hE1)
      |(go_at_call 49;fail))
     have HAT:Hid (∀w',Below w1.heap.size w1 w'->ES (w'.setCell ⟨E,1,none⟩ (.int .i64 ((q:Int)+(n:Int)))) E s (q+n) 0 pl):=by
      intro w' hb;have h:=(HS1.out.keep hb).at (q+n);rw[show(((q+n:Nat):Int))=(q:Int)+(n:Int) by omega]at h;exact h
     go_quiet (fail);go_wp2;go_quiet (fail);go_wp2_with (first
      |(go_at_call 49;refine(isName_any _ _ (by unfold maxLen;omega)).mono ?_;rintro e w' ⟨rfl,rfl⟩;rw[h3])
      |(go_at_call 26;refine(eyeFail_first E s (q+n) pl 4 p _ (HAT.out _ (below_drewN (Below.refl _ _) _))).mono ?_;rintro e w2 ⟨rfl,hS2,hE2⟩;obtain⟨d0,d1,d2,d3,-⟩:=id hS2;have HS2:=hid hS2;have HE2:=hid (((HE1.out.trans (EF.of_below (below_drewN (Below.refl _ _) _))).set _).trans hE2);clear hS2 hE2))
     obtain⟨ip',ic',e5,-,hin⟩:=(HI.out w2 HE2.out).open;obtain⟨rfl,-⟩:ip=ip'∧ic=ic':=by simpa using e5
     have HIN:=hid hin;clear hin e5;go_loopw [10,11] (λokv kv wr=>∃(k:Nat) (b:Bool),k<=imps.length∧kv=.int .i64 (k:Int)∧okv=.bool b∧Below w2.heap.size w2 wr) (λ_ kv _=>imps.length-(intOf kv).toNat)
     case atStart=>exact⟨0,_,Nat.zero_le _,rfl,rfl,Below.refl _ _⟩
     case round=>
      obtain⟨k,b,hk,rfl,rfl,hb⟩:=hrel;by_cases hlt:k<imps.length
      ·obtain⟨ib,io,rfl,x0,x1,-⟩:=HIN.out _ hb k hlt;have hk1:(0:Int)<=(k:Int):=by omega
       have hk2:(k:Int)<(imps.length:Int):=by omega
       generalize imps[k].name=nm at*;generalize imps[k].arity=ar at*;cases b;all_goals
        go_wp2;try go_quiet (fail)
        try go_wp2
       all_goals exact⟨⟨k+1,_,by omega,by go_num,rfl,by first|exact below_drewN hb _|exact hb⟩,by simp[intOf];omega⟩
      ·have HK:=hid (HS2.out.keep hb);have HEK:=hid (HE2.out.trans (EF.of_below hb));obtain⟨y0,y1,y2,y3,-⟩:=id HK.out;cases b
       ·go_wp2_with (first
         |(go_at_call 26;refine(eyeFail_later E s (q+n) 4 p _ _ _ HK.out (by omega)).mono ?_;rintro e w3 ⟨rfl,hS3,hE3⟩;have HS3:=hid hS3;have HE3:=hid hE3;clear hS3 hE3))
        go_ret;exact Or.inr ⟨4,p,_,q+n,HR.out,rfl,by omega,HS3.out,by omega,HEK.out.trans HE3.out⟩
       ·go_wp2;go_ret;exact Or.inr ⟨4,p,_,q+n,HR.out,rfl,by omega,HK.out,by omega,HEK.out⟩
    |true=>
     have HNM:=hid (rdName_good hv h1 h2 h3);clear hv;go_enter Tryz.func27,Tryz.ntmps27;go_wp2_with (first
      |(go_at_call 28;refine HV.out.mono ?_;rintro e w1 hr;obtain⟨rfl,hS1,hE1⟩:=hr.ok HRV.out;obtain⟨d0,d1,d2,d3,hf⟩:=id hS1;have g1:=hf 1 (by omega);clear hf;have HS1:=hid hS1;have HE1:=hid hE1;clear hr hS1 hE1)
      |(go_at_call 49;fail))
     have HAT:Hid (∀w',Below w1.heap.size w1 w'->ES (w'.setCell ⟨E,1,none⟩ (.int .i64 ((q:Int)+(n:Int)))) E s (q+n) 0 pl):=by
      intro w' hb;have h:=(HS1.out.keep hb).at (q+n);rw[show(((q+n:Nat):Int))=(q:Int)+(n:Int) by omega]at h;exact h
     go_quiet (fail);go_wp2;go_quiet (fail);go_wp2_with (first
      |(go_at_call 49;refine(isName_any _ _ (by unfold maxLen;omega)).mono ?_;rintro e w' ⟨rfl,rfl⟩;rw[h3]))
     generalize ht:s.extract q (q+n)=t at*;clear ht;go_loopw [10,11] (λokv kv wr=>∃(k:Nat) (b:Bool),k<=imps.length∧kv=.int .i64 (k:Int)∧okv=.bool b∧Hid (b=(gtB t last && noN imps t k)∧ES wr E s (q+n) 0 pl∧EF E w wr)) (λ_ kv _=>imps.length-(intOf kv).toNat)
     case atStart=>exact⟨0,_,Nat.zero_le _,rfl,rfl,by simp[gtB,noN],HAT.out _ (below_drewN (Below.refl _ _) _),(HE1.out.trans (EF.of_below (below_drewN (Below.refl _ _) _))).set _⟩
     case round=>
      obtain⟨k,b,hk,rfl,rfl,HK⟩:=hrel;rename World=>wB
      have HKE:=hid HK.out.2.2;obtain⟨ip',ic',e5,-,hin⟩:=(HI.out wB HKE.out).open;obtain⟨rfl,-⟩:ip=ip'∧ic=ic':=by simpa using e5
      have HIN:=hid (hin wB (Below.refl _ _));clear hin e5;by_cases hlt:k<imps.length
      ·obtain⟨ib,io,rfl,x0,x1,-⟩:=HIN.out k hlt;have hk1:(0:Int)<=(k:Int):=by omega
       have hk2:(k:Int)<(imps.length:Int):=by omega
       have HNX:Hid ((gtB t last && noN imps t (k+1))=(b && !(imps[k].name.toList==t.toList))):=by
        show _=_;rw[HK.out.1,noN_next _ _ _ hlt,Bool.and_assoc]
       generalize imps[k].name=nm at*;generalize imps[k].arity=ar at*;cases b;all_goals
        go_wp2;try go_quiet (fail)
        try go_wp2
       all_goals exact⟨⟨k+1,_,by omega,by go_num,rfl,by rw[HNX.out];simp,by first|exact HK.out.2.1.keep (below_drewN (Below.refl _ _) _)|exact HK.out.2.1,by first|exact HKE.out.trans (EF.of_below (below_drewN (Below.refl _ _) _))|exact HKE.out⟩,by simp[intOf];omega⟩
      ·obtain⟨y0,y1,y2,y3,-⟩:=id HK.out.2.1;have HB:Hid ((gtB t last && !hasN imps t)=b):=by
        show _=_;rw[HK.out.1,show k=imps.length by omega,noN_all]
       cases b
       ·have HR:=hid (rdNameB_bad (last:=last) (imps:=imps) HNM.out HB.out);go_wp2_with (first
         |(go_at_call 26;refine(eyeFail_first E s (q+n) pl 10 p _ HK.out.2.1).mono ?_;rintro e w3 ⟨rfl,hS3,hE3⟩;have HS3:=hid hS3;have HE3:=hid hE3;clear hS3 hE3))
        go_ret;exact Or.inr ⟨10,p,_,q+n,HR.out,rfl,by omega,HS3.out,by omega,HKE.out.trans HE3.out⟩
       ·have HR:=hid (rdNameB_good (last:=last) (imps:=imps) HNM.out HB.out);go_wp2;go_ret;exact Or.inl ⟨_,q+n,HR.out,rfl,HK.out.2.1,HKE.out⟩
def EyeSt(w:World)(E:Nat)(s:ByteArray):Except (Nat×Nat) Nat->Prop
 |.ok p=>ES w E s p 0 0∧p<=s.size
 |.error (c,a)=>c≠0∧∃q,ES w E s q c a∧q<=s.size
def stOf{α:Type}:Rd α->Except (Nat×Nat) Nat
 |.ok (_,q)=>.ok q
 |.error e=>.error e
def nx{α:Type}(st:Except (Nat×Nat) Nat)(f:Nat->Rd α):Rd α:=
 match st with
 |.ok p=>f p
 |.error e=>.error e
theorem EyeSt.keep{w w':World}{E:Nat}{s:ByteArray}{st:Except (Nat×Nat) Nat}(h:EyeSt w E s st)(hb:Below w.heap.size w w'):EyeSt w' E s st:=by
 match st,h with
 |.ok p,⟨h1,h2⟩=>exact⟨h1.keep hb,h2⟩
 |.error (c,a),⟨h0,q,h1,h2⟩=>exact⟨h0,q,h1.keep hb,h2⟩
theorem EyeSt.cells{w:World}{E:Nat}{s:ByteArray}{st:Except (Nat×Nat) Nat}(h:EyeSt w E s st):∃p err pl:Nat,ES w E s p err pl∧p<=s.size∧((err:Int)=0↔∃p,st=.ok p):=by
 match st,h with
 |.ok p,⟨h1,h2⟩=>exact⟨p,0,0,h1,h2,by simp⟩
 |.error (c,a),⟨h0,q,h1,h2⟩=>exact⟨q,c,a,h1,h2,by simp;omega⟩
def VarSt(E:Nat)(s:ByteArray)(r:Rd Nat)(w:World)(e:Ending)(w':World):Prop:=
 ((∃n q,r=.ok (n,q)∧n<18446744073709551616∧e=.returned (.int .u64 (n:Int)))∨(∃x,r=.error x∧e=.returned (.int .u64 0)))∧EyeSt w' E s (stOf r)∧EF E w w'
theorem eyeVarint_st(E:Nat)(s:ByteArray)(st:Except (Nat×Nat) Nat)(w:World)(hs:s.size<=100000)(h:EyeSt w E s st):
 Calls Tryz.prog 28 #[.pointer (some ⟨E,0,none⟩)] w λe w'=>VarSt E s (nx st (rdV s)) w e w':=by
 match st,h with
 |.ok p,⟨h1,h2⟩=>
  refine(eyeVarint_any E s p 0 w hs h2 h1).mono ?_;rintro e w' (⟨n,q,hr,rfl,hS,hE⟩|⟨c,a,q,hr,rfl,hS,hq,hE⟩)
  ·refine⟨Or.inl ⟨n,q,hr,(rdV_ok hr).1,rfl⟩,?_,hE⟩;show EyeSt w' E s (stOf (rdV s p));rw[hr];exact⟨hS,(rdV_ok hr).2.2⟩
  ·refine⟨Or.inr ⟨_,hr,rfl⟩,?_,hE⟩;show EyeSt w' E s (stOf (rdV s p));rw[hr];exact⟨by have:=rdV_err hr;omega,q,hS,hq⟩
 |.error (c,a),⟨h0,q,h1,h2⟩=>
  refine(eyeVarint_failed E s q c a w h1 h0).mono ?_;rintro e w' ⟨rfl,hS,hE⟩;exact⟨Or.inr ⟨_,rfl,rfl⟩,⟨h0,q,hS,h2⟩,hE⟩
theorem eyeNumber_failed(E:Nat)(s:ByteArray)(p err pl lo hi:Nat)(w:World)(h:ES w E s p err pl)(he:err≠0)(hlo:lo<=65535)(hhi:hi<=65535):
 Calls Tryz.prog 29 #[.pointer (some ⟨E,0,none⟩),.int .i64 (lo:Int),.int .i64 (hi:Int)] w λe w'=>e=.returned (.int .i64 (lo:Int))∧ES w' E s p err pl∧EF E w w':=by
 obtain⟨c0,c1,c2,c3,-⟩:=id h;have HV:=hid (eyeVarint_failed E s p err pl w h he);have hc:((err:Int)==0)=false:=by rw[beq_eq_false_iff_ne];omega
 clear h;go_enter Tryz.func29,Tryz.ntmps29;go_wp2_with (first
  |(go_at_call 28;refine HV.out.mono ?_;rintro e w1 ⟨rfl,hS1,hE1⟩;obtain⟨d0,d1,d2,d3,-⟩:=id hS1;have HS1:=hid hS1;have HE1:=hid hE1;clear hS1 hE1)
  |(go_at_call 26;refine(eyeFail_later E s p err pl _ _ _ HS1.out he).mono ?_;rintro e w2 ⟨rfl,hS2,hE2⟩;obtain⟨d0,d1,d2,d3,-⟩:=id hS2;have HS2:=hid hS2;have HE2:=hid hE2;clear hS2 hE2))
 all_goals go_ret
 all_goals first
  |exact⟨ret_num (by omega),HS2.out,HE1.out.trans HE2.out⟩
  |exact⟨ret_num (by omega),HS1.out,HE1.out⟩
def NumSt(E:Nat)(s:ByteArray)(lo:Nat)(r:Rd Nat)(w:World)(e:Ending)(w':World):Prop:=
 ((∃n q,r=.ok (n,q)∧e=.returned (.int .i64 (n:Int)))∨(∃x,r=.error x∧e=.returned (.int .i64 (lo:Int))))∧EyeSt w' E s (stOf r)∧EF E w w'
theorem eyeNumber_st(E:Nat)(s:ByteArray)(st:Except (Nat×Nat) Nat)(lo hi:Nat)(w:World)(hs:s.size<=100000)(h:EyeSt w E s st)(hlo:lo<=65535)(hhi:hi<=65535):
 Calls Tryz.prog 29 #[.pointer (some ⟨E,0,none⟩),.int .i64 (lo:Int),.int .i64 (hi:Int)] w λe w'=>NumSt E s lo (nx st (rdN s lo hi)) w e w':=by
 match st,h with
 |.ok p,⟨h1,h2⟩=>
  refine(eyeNumber_any E s p lo hi 0 w hs h2 h1 hlo hhi).mono ?_;rintro e w' (⟨n,q,hr,rfl,hS,hE⟩|⟨c,a,q,hr,rfl,hS,hq,hE⟩)
  ·refine⟨Or.inl ⟨n,q,hr,rfl⟩,?_,hE⟩;show EyeSt w' E s (stOf (rdN s lo hi p));rw[hr];exact⟨hS,(rdN_ok hr).2.2.2⟩
  ·refine⟨Or.inr ⟨_,hr,rfl⟩,?_,hE⟩;show EyeSt w' E s (stOf (rdN s lo hi p));rw[hr];exact⟨(rdN_err hr).ne,q,hS,hq⟩
 |.error (c,a),⟨h0,q,h1,h2⟩=>
  refine(eyeNumber_failed E s q c a lo hi w h1 h0 hlo hhi).mono ?_;rintro e w' ⟨rfl,hS,hE⟩;exact⟨Or.inr ⟨_,rfl,rfl⟩,⟨h0,q,hS,h2⟩,hE⟩
theorem eyeName_failed(E:Nat)(s last:ByteArray)(v:Value)(p err pl:Nat)(w:World)(h:ES w E s p err pl)(he:err≠0):
 Calls Tryz.prog 27 #[.pointer (some ⟨E,0,none⟩),.string last,v] w λe w'=>e=.returned (.string ⟨#[]⟩)∧ES w' E s p err pl∧EF E w w':=by
 obtain⟨c0,c1,c2,c3,-⟩:=id h;have HV:=hid (eyeVarint_failed E s p err pl w h he);have hc:((err:Int)==0)=false:=by rw[beq_eq_false_iff_ne];omega
 clear h;go_enter Tryz.func27,Tryz.ntmps27;go_wp2_with (first
  |(go_at_call 28;refine HV.out.mono ?_;rintro e w1 ⟨rfl,hS1,hE1⟩;obtain⟨d0,d1,d2,d3,-⟩:=id hS1;have HS1:=hid hS1;have HE1:=hid hE1;clear hS1 hE1))
 go_ret;exact⟨rfl,HS1.out,HE1.out⟩
def NameSt(E:Nat)(s:ByteArray)(r:Rd ByteArray)(w:World)(e:Ending)(w':World):Prop:=
 (∃t,e=.returned (.string t)∧t.size<=16∧∀t' q,r=.ok (t',q)->t=t')∧EyeSt w' E s (stOf r)∧EF E w w'
theorem eyeName_st(E:Nat)(s last:ByteArray)(imps:List LImp)(v:Value)(st:Except (Nat×Nat) Nat)(w:World)(hs:s.size<=100000)(h:EyeSt w E s st)(hI:ImpsAt w v imps)(hA:Away E v):
 Calls Tryz.prog 27 #[.pointer (some ⟨E,0,none⟩),.string last,v] w λe w'=>NameSt E s (nx st (rdNameB s last imps)) w e w':=by
 match st,h with
 |.ok p,⟨h1,h2⟩=>
  refine(eyeName_any E s last imps v p 0 w hs h2 h1 hI hA).mono ?_;rintro e w' (⟨t,q,hr,rfl,hS,hE⟩|⟨c,a,t,q,hr,rfl,ht,hS,hq,hE⟩)
  ·have hk:=rdName_ok (rdNameB_ok hr).1;refine⟨⟨t,rfl,hk.2.2.2.1,?_⟩,?_,hE⟩
   ·show ∀t' q,rdNameB s last imps p=.ok (t',q)->t=t';intro t' q' h';rw[hr]at h';cases h';rfl
   ·show EyeSt w' E s (stOf (rdNameB s last imps p));rw[hr];exact⟨hS,hk.2.1⟩
  ·refine⟨⟨t,rfl,ht,?_⟩,?_,hE⟩
   ·show ∀t' q,rdNameB s last imps p=.ok (t',q)->t=t';intro t' q' h';rw[hr]at h';cases h'
   ·show EyeSt w' E s (stOf (rdNameB s last imps p));rw[hr];exact⟨(rdNameB_err hr).ne,q,hS,hq⟩
 |.error (c,a),⟨h0,q,h1,h2⟩=>
  refine(eyeName_failed E s last v q c a w h1 h0).mono ?_;rintro e w' ⟨rfl,hS,hE⟩;exact⟨⟨_,rfl,(show(0:Nat)<=16 by omega),λ_ _ h'=>by cases h'⟩,⟨h0,q,hS,h2⟩,hE⟩
end Go.Proofs.YtefpamchdheldaaGreatDoor
