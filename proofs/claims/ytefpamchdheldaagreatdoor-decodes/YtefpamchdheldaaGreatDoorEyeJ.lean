import Derived.Test.YtefpamchdheldaaGreatDoorWrongJ
import Derived.Test.YtefpamchdheldaaGreatDoorParseJ
set_option maxRecDepth 100000
set_option maxHeartbeats 8000000
namespace Go.Proofs.YtefpamchdheldaaGreatDoor
open Go.RowKit Go.Sort
structure EF (E:Nat) (w w':World):Prop where
 os:w'.os=w.os
 tape:w'.tape=w.tape
 output:w'.output=w.output
 size:w.heap.size<=w'.heap.size
 block:∀k,k<w.heap.size->k≠E->w'.heap[k]?=w.heap[k]?
theorem EF.refl(E:Nat)(w:World):EF E w w:=⟨rfl,rfl,rfl,Nat.le_refl _,λ_ _ _=>rfl⟩
theorem EF.trans{E:Nat}{w w1 w2:World}(h:EF E w w1)(k:EF E w1 w2):EF E w w2:=
 ⟨k.os.trans h.os,k.tape.trans h.tape,k.output.trans h.output,Nat.le_trans h.size k.size,λb hb hE=>(k.block b (Nat.lt_of_lt_of_le hb h.size) hE).trans (h.block b hb hE)⟩
theorem EF.of_below{E:Nat}{w w':World}(h:Below w.heap.size w w'):EF E w w':=⟨h.os,h.tape,h.output,h.size,λk hk _=>h.block k hk⟩
theorem EF.set{E o:Nat}{w w':World}(h:EF E w w')(u:Value):EF E w (w'.setCell ⟨E,o,none⟩ u):=
 h.trans ⟨rfl,rfl,rfl,by simp,λk _ hk=>Below.heap_setCell _ _ _ _ hk⟩
structure ES (w:World) (E:Nat) (s:ByteArray) (p err pl:Nat):Prop where
 c0:w.cell? ⟨E,0,none⟩=some (.string s)
 c1:w.cell? ⟨E,1,none⟩=some (.int .i64 (p:Int))
 c2:w.cell? ⟨E,2,none⟩=some (.int .i64 (err:Int))
 c3:w.cell? ⟨E,3,none⟩=some (.int .i64 (pl:Int))
 f:∀j,j<4->w.frozen? ⟨E,j,none⟩=false
theorem ES.keep{w w':World}{E:Nat}{s:ByteArray}{p err pl:Nat}(h:ES w E s p err pl)(hb:Below w.heap.size w w'):ES w' E s p err pl:=
 ⟨cell_keep hb h.c0,cell_keep hb h.c1,cell_keep hb h.c2,cell_keep hb h.c3,λj hj=>by have hE:E<w.heap.size:=block_lt_of_cell h.c0;rw[hb.frozen (p:=⟨E,j,none⟩) hE];exact h.f j hj⟩
theorem off_ne{E a b:Nat}(h:a≠b):(⟨E,a,none⟩:Addr)≠⟨E,b,none⟩:=λe=>h (congrArg Addr.off e)
theorem ES.at{w:World}{E:Nat}{s:ByteArray}{p err pl:Nat}(h:ES w E s p err pl)(q:Nat):ES (w.setCell ⟨E,1,none⟩ (.int .i64 (q:Int))) E s q err pl:=by
 refine⟨?_,World.cell?_setCell_same _ _ _ h.c1,?_,?_,λj hj=>by rw[World.frozen?_setCell];exact h.f j hj⟩
 ·rw[World.cell?_setCell_other _ _ _ _ (off_ne (by omega))];exact h.c0
 ·rw[World.cell?_setCell_other _ _ _ _ (off_ne (by omega))];exact h.c2
 ·rw[World.cell?_setCell_other _ _ _ _ (off_ne (by omega))];exact h.c3
theorem ES.tell{w:World}{E:Nat}{s:ByteArray}{p err pl:Nat}(h:ES w E s p err pl)(e q:Nat):ES ((w.setCell ⟨E,2,none⟩ (.int .i64 (e:Int))).setCell ⟨E,3,none⟩ (.int .i64 (q:Int))) E s p e q:=by
 have h2:(w.setCell ⟨E,2,none⟩ (.int .i64 (e:Int))).cell? ⟨E,3,none⟩=some (.int .i64 (pl:Int)):=by rw[World.cell?_setCell_other _ _ _ _ (off_ne (by omega))];exact h.c3
 refine⟨?_,?_,?_,World.cell?_setCell_same _ _ _ h2,λj hj=>by rw[World.frozen?_setCell,World.frozen?_setCell];exact h.f j hj⟩
 ·rw[World.cell?_setCell_other _ _ _ _ (off_ne (by omega)),World.cell?_setCell_other _ _ _ _ (off_ne (by omega))];exact h.c0
 ·rw[World.cell?_setCell_other _ _ _ _ (off_ne (by omega)),World.cell?_setCell_other _ _ _ _ (off_ne (by omega))];exact h.c1
 ·rw[World.cell?_setCell_other _ _ _ _ (off_ne (by omega))];exact World.cell?_setCell_same _ _ _ h.c2
def FailRes(E:Nat)(s:ByteArray)(p err pl:Nat)(w:World)(e:Ending)(w':World):Prop:=e=.returned (.tuple #[])∧ES w' E s p err pl∧EF E w w'
theorem eyeFail_first(E:Nat)(s:ByteArray)(p pl c q:Nat)(w:World)(h:ES w E s p 0 pl):
 Calls Tryz.prog 26 #[.pointer (some ⟨E,0,none⟩),.int .i64 (c:Int),.int .i64 (q:Int)] w λe w'=>FailRes E s p c q w e w':=by
 obtain⟨c0,c1,c2,c3,hf⟩:=id h;have f2:=hf 2 (by omega);have f3:=hf 3 (by omega);have HS:=hid h;clear hf h;go_enter Tryz.func26,Tryz.ntmps26;go_wp2;refine bE ?_;exact⟨rfl,HS.out.tell c q,((EF.refl E w).set _).set _⟩
theorem eyeFail_later(E:Nat)(s:ByteArray)(p err pl:Nat)(c q:Int)(w:World)(h:ES w E s p err pl)(he:err≠0):
 Calls Tryz.prog 26 #[.pointer (some ⟨E,0,none⟩),.int .i64 c,.int .i64 q] w λe w'=>FailRes E s p err pl w e w':=by
 obtain⟨c0,c1,c2,c3,-⟩:=id h;have HS:=hid h;have he1:((err:Int)==0)=false:=by rw[beq_eq_false_iff_ne];omega
 clear h;go_enter Tryz.func26,Tryz.ntmps26;go_wp2;refine bE ?_;exact⟨rfl,HS.out,EF.refl E w⟩
def VarRes(E:Nat)(s:ByteArray)(p pl:Nat)(w:World)(e:Ending)(w':World):Prop:=
 (∃n q,rdV s p=.ok (n,q)∧e=.returned (.int .u64 (n:Int))∧ES w' E s q 0 pl∧EF E w w')∨
 (∃c at' q,rdV s p=.error (c,at')∧e=.returned (.int .u64 0)∧ES w' E s q c at'∧q<=s.size∧EF E w w')
theorem VarRes.ok{E:Nat}{s:ByteArray}{p pl n q:Nat}{w:World}{e:Ending}{w':World}(h:VarRes E s p pl w e w')(hv:rdV s p=.ok (n,q)):e=.returned (.int .u64 (n:Int))∧ES w' E s q 0 pl∧EF E w w':=by
 rcases h with⟨n',q',h1,h2,h3,h4⟩|⟨c,a,q',h1,h2,h3,h4⟩
 ·rw[hv]at h1;simp only[Except.ok.injEq,Prod.mk.injEq]at h1;obtain⟨rfl,rfl⟩:=h1;exact⟨h2,h3,h4⟩
 ·rw[hv]at h1;cases h1
theorem VarRes.err{E:Nat}{s:ByteArray}{p pl c a:Nat}{w:World}{e:Ending}{w':World}(h:VarRes E s p pl w e w')(hv:rdV s p=.error (c,a)):e=.returned (.int .u64 0)∧∃q,ES w' E s q c a∧q<=s.size∧EF E w w':=by
 rcases h with⟨n',q',h1,h2,h3,h4⟩|⟨c',a',q',h1,h2,h3,h4⟩
 ·rw[hv]at h1;cases h1
 ·rw[hv]at h1;simp only[Except.error.injEq,Prod.mk.injEq]at h1;obtain⟨rfl,rfl⟩:=h1;exact⟨h2,q',h3,h4⟩
theorem eyeVarint_any(E:Nat)(s:ByteArray)(p pl:Nat)(w:World)(hs:s.size<=100000)(hp:p<=s.size)(h:ES w E s p 0 pl):
 Calls Tryz.prog 28 #[.pointer (some ⟨E,0,none⟩)] w λe w'=>VarRes E s p pl w e w':=by
 obtain⟨c0,c1,c2,c3,hf⟩:=id h;have HS:=hid h;clear hf h;go_enter Tryz.func28,Tryz.ntmps28;go_wp2;go_loopw [4,5,6] (λnv uv kv wr=>∃(k q n:Nat),k<=9∧kv=.int .i64 (k:Int)∧nv=.int .u64 (n:Int)∧uv=.int .u64 ((128 ^ k:Nat):Int)∧q<=s.size∧n<128 ^ k∧Hid (vRead s p 0 p 0=vRead s p k q n∧ES wr E s q 0 pl∧EF E w wr)) (λ_ _ kv _=>10-(intOf kv).toNat)
 case atStart=>exact⟨0,p,0,by omega,rfl,rfl,rfl,hp,by simp,rfl,HS.out,EF.refl E w⟩
 case round=>
  obtain⟨k,q,n,hk,rfl,rfl,rfl,hq,hnk,HK⟩:=hrel;rename World=>wB
  obtain⟨d0,d1,d2,d3,hg⟩:=id HK.out.2.1;have g1:=hg 1 (by omega);clear hg;have HE:=hid HK.out.2.2;have HV:=hid HK.out.1;by_cases hlt:q<s.size
  ·have hlt':¬(s.size:Int)<=(q:Int):=by omega
   have h0:(0:Int)<=(q:Int):=by omega
   have h1:(q:Int)<(s.size:Int):=by omega
   have hb:s[q].toNat<256:=s[q].toNat_lt;have HAT:Hid (∀w',Below wB.heap.size wB w'->ES (w'.setCell ⟨E,1,none⟩ (.int .i64 ((q:Int)+1))) E s (q+1) 0 pl):=by
    intro w' hb;have h:=(HK.out.2.1.keep hb).at (q+1);rw[show(((q+1:Nat):Int))=(q:Int)+1 by omega]at h;exact h
   have hu9:128 ^ k<=9223372036854775808:=Nat.le_trans (Nat.pow_le_pow_right (by omega) hk) (by decide);have HMUL:Hid (¬(k=9∧1<s[q].toNat)->IntKind.u64.wrap ((n:Int)+IntKind.u64.wrap ((s[q].toNat:Int) % 128*((128 ^ k:Nat):Int)))=((n+s[q].toNat % 128*128 ^ k:Nat):Int)∧n+s[q].toNat % 128*128 ^ k<18446744073709551616∧n+s[q].toNat % 128*128 ^ k<128 ^ (k+1)):=by
    intro hn9;have hm:s[q].toNat % 128*128 ^ k+128 ^ k<=128 ^ (k+1):=by
     rw[Nat.pow_succ,Nat.mul_comm (128 ^ k) 128,<-Nat.succ_mul];exact Nat.mul_le_mul_right _ (by omega)
    have hlim:s[q].toNat % 128*128 ^ k+128 ^ k<=18446744073709551616:=by
     by_cases h9:k=9
     ·have hb1:s[q].toNat % 128<=1:=by omega
      have h1:=Nat.mul_le_mul_right (128 ^ k) hb1;rw[Nat.one_mul]at h1;exact Nat.le_trans (Nat.add_le_add h1 hu9) (Nat.le_trans (Nat.add_le_add_right hu9 _) (by decide))
     ·exact Nat.le_trans hm (Nat.le_trans (Nat.pow_le_pow_right (by omega) (show k+1<=9 by omega)) (by decide))
    have e1:((s[q].toNat:Int) % 128*((128 ^ k:Nat):Int))=((s[q].toNat % 128*128 ^ k:Nat):Int):=by simp
    rw[e1,wrapU64 _ (by omega),<-Int.natCast_add,wrapU64 _ (by omega)];exact⟨rfl,by omega,by omega⟩
   have HPW:Hid (k<9->IntKind.u64.wrap (((128 ^ k:Nat):Int)*128)=((128 ^ (k+1):Nat):Int)):=by
    intro h9;have h2:128 ^ (k+1)<=9223372036854775808:=Nat.le_trans (Nat.pow_le_pow_right (by omega) (show k+1<=9 by omega)) (by decide);rw[show(((128 ^ k:Nat):Int)*128)=((128 ^ (k+1):Nat):Int) by rw[Nat.pow_succ];simp,wrapU64 _ (by omega)]
   have HVE:=hid (λh1 h2=>vRead_end (s:=s) (fr:=p) (k:=k) (p:=q) (n:=n) hlt h1 h2);have HVM:=hid (λh1 h2=>vRead_more (s:=s) (fr:=p) (k:=k) (p:=q) (n:=n) hlt h1 h2);have HVB:=hid (λh1=>vRead_bad (s:=s) (fr:=p) (k:=k) (p:=q) (n:=n) hlt h1);generalize hu:128 ^ k=u at*;have HU:=hid hu;clear hu;go_wp2;go_quiet (fail);go_wp2;go_quiet (fail);go_wp2_with (first
    |(go_at_call 26;refine(eyeFail_first E s (q+1) pl 9 p _ (HAT.out _ (below_drewN (Below.refl _ _) _))).mono ?_;rintro e w2 ⟨rfl,hS2,hE2⟩;have HS2:=hid hS2;have HE2:=hid hE2;clear hS2 hE2))
   all_goals(try simp only[beq_iff_eq,beq_eq_false_iff_ne,ne_eq]at*)
   all_goals first
    |(go_ret
      refine Or.inr ⟨9,p,q+1,HV.out.trans (HVB.out (by omega)),rfl,HS2.out,by omega,((HE.out.trans (EF.of_below (below_drewN (Below.refl _ _) _))).set _).trans HE2.out⟩)
    |(go_ret
      have hnb:¬((k=9∧1<s[q].toNat)∨(0<k∧s[q].toNat=0)):=by omega
      obtain⟨m1,m2,m3⟩:=HMUL.out (λh=>hnb (Or.inl h));refine Or.inl ⟨_,q+1,HV.out.trans (HVE.out hnb (by omega)),congrArg (λz=>Ending.returned (.int .u64 z)) m1,HAT.out _ (below_drewN (Below.refl _ _) _),(HE.out.trans (EF.of_below (below_drewN (Below.refl _ _) _))).set _⟩)
    |(have hnb:¬((k=9∧1<s[q].toNat)∨(0<k∧s[q].toNat=0)):=by omega
      obtain⟨m1,m2,m3⟩:=HMUL.out (λh=>hnb (Or.inl h));exact⟨⟨k+1,q+1,n+s[q].toNat % 128*u,by omega,by go_num,by rw[m1],by rw[HPW.out (by omega)],by omega,m3,by rw[HV.out,HVM.out hnb (by omega)],HAT.out _ (below_drewN (Below.refl _ _) _),(HE.out.trans (EF.of_below (below_drewN (Below.refl _ _) _))).set _⟩,by simp[intOf];omega⟩)
    |skip
  ·have hlt':(s.size:Int)<=(q:Int):=by omega
   go_wp2;go_quiet (fail);go_wp2_with (first
    |(go_at_call 26;refine(eyeFail_first E s q pl 6 s.size _ (HK.out.2.1.keep (below_drewN (Below.refl _ _) _))).mono ?_;rintro e w2 ⟨rfl,hS2,hE2⟩;have HS2:=hid hS2;have HE2:=hid hE2;clear hS2 hE2))
   go_ret;exact Or.inr ⟨6,s.size,q,HV.out.trans (vRead_short hlt),rfl,HS2.out,hq,(HE.out.trans (EF.of_below (below_drewN (Below.refl _ _) _))).trans HE2.out⟩
theorem eyeVarint_failed(E:Nat)(s:ByteArray)(p err pl:Nat)(w:World)(h:ES w E s p err pl)(he:err≠0):
 Calls Tryz.prog 28 #[.pointer (some ⟨E,0,none⟩)] w λe w'=>e=.returned (.int .u64 0)∧ES w' E s p err pl∧EF E w w':=by
 obtain⟨c0,c1,c2,c3,-⟩:=id h;have HS:=hid h;have he1:((err:Int)==0)=false:=by rw[beq_eq_false_iff_ne];omega
 clear h;go_enter Tryz.func28,Tryz.ntmps28;go_wp2;go_loopw [4,5,6] (λ_ _ _ wr=>wr=w) (λ_ _ _ _=>0)
 case atStart=>rfl
 case round=>
  subst hrel;go_wp2;go_ret;exact⟨rfl,HS.out,EF.refl _ _⟩
theorem ret_num{k:IntKind}{a b:Int}(h:a=b):Ending.returned (.int k a)=.returned (.int k b):=by rw[h]
def NumRes(E:Nat)(s:ByteArray)(lo:Nat)(r:Rd Nat)(pl:Nat)(w:World)(e:Ending)(w':World):Prop:=
 (∃n q,r=.ok (n,q)∧e=.returned (.int .i64 (n:Int))∧ES w' E s q 0 pl∧EF E w w')∨
 (∃c at' q,r=.error (c,at')∧e=.returned (.int .i64 (lo:Int))∧ES w' E s q c at'∧q<=s.size∧EF E w w')
theorem eyeNumber_any(E:Nat)(s:ByteArray)(p lo hi pl:Nat)(w:World)(hs:s.size<=100000)(hp:p<=s.size)(h:ES w E s p 0 pl)(hlo:lo<=65535)(hhi:hi<=65535):
 Calls Tryz.prog 29 #[.pointer (some ⟨E,0,none⟩),.int .i64 (lo:Int),.int .i64 (hi:Int)] w λe w'=>NumRes E s lo (rdN s lo hi p) pl w e w':=by
 obtain⟨c0,c1,c2,c3,-⟩:=id h;have HV:=hid (eyeVarint_any E s p pl w hs hp h);clear h;match hv:rdV s p with
 |.error (c,a)=>
  have hc:((c:Int)==0)=false:=by rw[beq_eq_false_iff_ne];have:=rdV_err hv;omega
  have hc':c≠0:=by have:=rdV_err hv;omega
  have HR:=hid (rdN_v (lo:=lo) (hi:=hi) hv);have HRV:=hid hv;clear hv;go_enter Tryz.func29,Tryz.ntmps29;go_wp2_with (first
   |(go_at_call 28;refine HV.out.mono ?_;rintro e w1 hr;obtain⟨rfl,q,hS1,hq,hE1⟩:=hr.err HRV.out;obtain⟨d0,d1,d2,d3,-⟩:=id hS1;have HS1:=hid hS1;have HE1:=hid hE1;clear hr hS1 hE1)
   |(go_at_call 26;refine(eyeFail_later E s q c a _ _ _ HS1.out hc').mono ?_;rintro e w2 ⟨rfl,hS2,hE2⟩;obtain⟨d0,d1,d2,d3,-⟩:=id hS2;have HS2:=hid hS2;have HE2:=hid hE2;clear hS2 hE2))
  all_goals go_ret
  all_goals first
   |exact Or.inr ⟨c,a,q,HR.out,ret_num (by omega),HS2.out,hq,HE1.out.trans HE2.out⟩
   |exact Or.inr ⟨c,a,q,HR.out,ret_num (by omega),HS1.out,hq,HE1.out⟩
 |.ok (n,q)=>
  have hn:=(rdV_ok hv).1;have HQ:=hid (rdV_ok hv).2;have HRV:=hid hv;have HRB:=hid (rdN_bad (lo:=lo) (hi:=hi) hv);have HRG:=hid (rdN_good (lo:=lo) (hi:=hi) hv);clear hv;go_enter Tryz.func29,Tryz.ntmps29;go_wp2_with (first
   |(go_at_call 28;refine HV.out.mono ?_;rintro e w1 hr;obtain⟨rfl,hS1,hE1⟩:=hr.ok HRV.out;obtain⟨d0,d1,d2,d3,-⟩:=id hS1;have HS1:=hid hS1;have HE1:=hid hE1;clear hr hS1 hE1)
   |(go_at_call 26;refine(eyeFail_first E s q pl 8 p _ HS1.out).mono ?_;rintro e w2 ⟨rfl,hS2,hE2⟩;obtain⟨d0,d1,d2,d3,-⟩:=id hS2;have HS2:=hid hS2;have HE2:=hid hE2;clear hS2 hE2))
  all_goals go_ret
  all_goals first
   |exact Or.inr ⟨8,p,q,HRB.out (by omega),rfl,HS2.out,HQ.out.2,HE1.out.trans HE2.out⟩
   |exact Or.inl ⟨n,q,HRG.out (by omega),rfl,HS1.out,HE1.out⟩
end Go.Proofs.YtefpamchdheldaaGreatDoor
