import Derived.Test.YtblobglfjhilmaaGreatDoorRd6J
set_option maxRecDepth 100000
set_option maxHeartbeats 8000000
namespace Go.Proofs.YtblobglfjhilmaaGreatDoor
open Go.RowKit Go.Sort
structure RImp (E:Nat) (s:ByteArray) (n:Nat) (T:Rd (List LImp)) (W2 wr:World) (got:List LImp) (last:ByteArray) (p:Nat) (vp:Option Addr) (vc:Nat):Prop where
 le:got.length<=n
 rs:RS wr E s p
 hp:p<=s.size
 row:ImpsO wr W2.heap.size (.slice vp got.length vc) got
 rd:T=rdImps s (n-got.length) got last p
 small:got.length<=p
 off:Off [E] W2 wr
theorem RImp.next{E:Nat}{s:ByteArray}{n:Nat}{T:Rd (List LImp)}{W2 wr X0 w6:World}{got:List LImp}{last t:ByteArray}{p q q2 a:Nat}{vp:Option Addr}{vc:Nat}{ob:Obj}(hc:RImp E s n T W2 wr got last p vp vc)(hlt:got.length<n)(hE:E<W2.heap.size)(h1:rdNameB s last [] p=.ok (t,q))(h2:rdN s 0 20 q=.ok (a,q2))
 (hO:Off [E] wr X0) (hS:RS X0 E s q2) (hg:(X0.alloc ob).grownBy w6 (Value.slice vp got.length vc).ownBlock) {g c:Nat} (hat:(Value.slice vp got.length vc).ownBlock=some g∨g=(X0.alloc ob).heap.size) (hlg:g<w6.heap.size) (hown:w6.ownsRow 0 73 2 (.slice (some ⟨g,0,none⟩) (got.length+1) c) (got.length+1) (got.flatMap impC++[.string t,.int .i64 (a:Int)])):
 RImp E s n T W2 w6 (got++[⟨t,a⟩]) t q2 (some ⟨g,0,none⟩) c:=by
 have hl:(got++[(⟨t,a⟩:LImp)]).length=got.length+1:=by simp
 have hrow:=hc.row.off okImp hO (by simp;omega);have hb:Below X0.heap.size X0 (X0.alloc ob):=(Below.refl _ _).alloc (Nat.le_refl _) _;have hsz:W2.heap.size<=X0.heap.size:=Nat.le_trans hc.off.size hO.size;have k1:=rdName_ok (rdNameB_ok h1).1;have k2:=rdN_ok h2;have hsm:=hc.small;refine⟨by omega,hS.of_block (stays_alloc_app hg hS.lt hrow hE),k2.2.2.2,?_,?_,by omega,?_⟩
 ·rw[hl];exact hrow.push okImp hsz (λb hb'=>hb.block b (hrow.rg b hb').2) hb.size trivial (λb hb'=>by cases hb') List.nodup_nil hg rfl hat hlg hown
 ·rw[hc.rd,show n-got.length=(n-(got++[(⟨t,a⟩:LImp)]).length)+1 by omega,rdImps,bd_ok h1,bd_ok h2]
 ·refine((hc.off.trans hO).alloc ob).grown hg λb e=>Or.inr ?_;exact(hrow.rg b (List.mem_append_left _ (mem_vB.2 e))).1
def rdImpsN(s:ByteArray)(p:Nat):Rd (List LImp):=bd (rdV s p) λn q=>rdImps s n [] ⟨#[]⟩ q
theorem noImps(w:World):ImpsAt w (.slice none 0 0) []:=⟨none,0,rfl,(show(0:Nat)<_ by omega),λi hi=>absurd hi (by simp)⟩
theorem noAway(E:Nat):Away E (.slice none 0 0):=by intro p n c e a ha;cases e;cases ha
theorem rdImpsN_any{W w:World}{E:Nat}{adr:Nat->Addr}{s:ByteArray}{p:Nat}(hs:s.size<=100000)(hB:Ba W w E adr)(h:RS w E s p)(hp:p<=s.size):
 Calls Tryz.prog 98 #[.pointer (some ⟨E,0,none⟩)] w λe w'=>ReadSt W E adr s (rdImpsN s p) (λw' l v=>ImpsO w' w.heap.size v l) zSl w e w':=by
 have hEw:E<w.heap.size:=h.lt;have HN:=hid (rdNumber_any hs hB h hp);have HB:=hid hB;obtain⟨ii,hii,hij⟩:=Option.map_eq_some_iff.1 Tryz.impI;simp only[Prod.mk.injEq]at hij;obtain⟨hi0,hi1,hi2⟩:=hij;clear h hB;match hv:rdV s p with
 |.error (c,a)=>
  have HR:Hid (rdImpsN s p=.error (c,a)):=bd_err hv;have HRV:=hid hv;clear hv;go_enter Tryz.func98,Tryz.ntmps98;go_wp2_with (first
   |(go_at_call 145;refine HN.out.mono ?_;rintro e w1 hr;obtain⟨v,rfl,rfl,hE1,hB1⟩:=hr.isErr HRV.out;have HE1:=hid hE1;clear hr hE1 hB1))
  go_ret2
  exact ReadSt.bad HR.out rfl HE1.out HB.out
 |.ok (n,q)=>
  have hn:=(rdV_ok hv).1;have HRV:=hid hv;have HT:Hid (rdImpsN s p=rdImps s n [] ⟨#[]⟩ q):=bd_ok hv;clear hv;go_enter Tryz.func98,Tryz.ntmps98;go_wp2_with (first
   |(go_at_call 145;refine HN.out.mono ?_;rintro e w1 hr;obtain⟨v,rfl,rfl,hS1,hq1,hE1,hB1⟩:=hr.isOk HRV.out;have HE1:=hid hE1;have HS1:=hid hS1;clear hr hE1 hB1 hS1 HN))
  have hw1:w.heap.size<=w1.heap.size:=HE1.out.size;have hE1:E<w1.heap.size:=HS1.out.lt;have HR0:Hid (RImp E s n (rdImps s n [] ⟨#[]⟩ q) w1 w1 [] ⟨#[]⟩ q none 0):=⟨Nat.zero_le _,HS1.out,hq1,RowS.nil _ _,rfl,Nat.zero_le _,Off.refl _ _⟩;generalize rdImps s n [] ⟨#[]⟩ q=T at*;clear HS1;go_loopw [6,7,20] (λlv tv kv wr=>∃(got:List LImp) (last:ByteArray) (p:Nat) (vp:Option Addr) (vc:Nat),lv=.slice vp got.length vc∧tv=.string last∧kv=.int .u64 ((got.length:Nat):Int)∧Hid (RImp E s n T w1 wr got last p vp vc)) (λ_ _ kv _=>n-(intOf kv).toNat)
  case atStart=>exact⟨[],_,q,none,0,rfl,rfl,rfl,HR0.out⟩
  case round=>
   clear HR0;obtain⟨got,last,p,vp,vc,rfl,rfl,rfl,HC⟩:=hrel;rename World=>wr
   have hle:=HC.out.le;have hpp:=HC.out.hp;have hsm:=HC.out.small;have HEW:Hid (EF E w wr):=HE1.out.trans (HC.out.off.ef (by simp));have HBW:=hid (HB.out.ef HEW.out);have hEr:E<wr.heap.size:=HC.out.rs.lt;by_cases hlt:got.length<n
   ·have HRD:Hid (T=bd (rdNameB s last [] p) λt q=>bd (rdN s 0 20 q) λa r=>rdImps s (n-got.length-1) (got++[⟨t,a⟩]) t r):=by
     show _=_;rw[HC.out.rd];conv=>lhs;rw[show n-got.length=(n-got.length-1)+1 by omega]
     rw[rdImps]
    have HN1:=hid (rdBehind_any (last:=last) hs HBW.out HC.out.rs hpp (noImps wr) (noAway E) (RI.nil last).1);match hv1:rdNameB s last [] p with
    |.error (c,a)=>
     have HTE:Hid (T=.error (c,a)):=by show _=_;rw[HRD.out,bd_err hv1]
     have HV1:=hid hv1;clear hv1;go_wp2_with (first
      |(go_at_call 147;refine HN1.out.mono ?_;rintro e w3 hr;obtain⟨v,rfl,rfl,hE3,hB3⟩:=hr.isErr HV1.out;have HE3:=hid hE3;clear hr hE3 hB3 HN1))
     go_ret2
     exact ReadSt.bad (HT.out.trans HTE.out) rfl (HEW.out.trans HE3.out) HB.out
    |.ok (t,q1)=>
     have hq1:=(rdName_ok (rdNameB_ok hv1).1).2.1;have ht16:=(rdName_ok (rdNameB_ok hv1).1).2.2.2.1;have HV1:=hid hv1;have HRD2:Hid (T=bd (rdN s 0 20 q1) λa r=>rdImps s (n-got.length-1) (got++[⟨t,a⟩]) t r):=by show _=_;rw[HRD.out,bd_ok hv1]
     have HCL:=hid (λw=>Clone_any t w (by omega));clear hv1 HRD;match hv2:rdN s 0 20 q1 with
     |.error (c,a)=>
      have HTE:Hid (T=.error (c,a)):=by show _=_;rw[HRD2.out,bd_err hv2]
      have HV2:=hid hv2;clear hv2;go_wp2_with (first
       |(go_at_call 147;refine HN1.out.mono ?_;rintro e w3 hr;obtain⟨v,rfl,rfl,hS3,hq3,hE3,hB3⟩:=hr.isOk HV1.out;have HE3:=hid hE3;have HN2:=hid (rdWithin_any (lo:=0) (hi:=20) hs hB3 hS3 hq1 (by omega) (by omega));clear hr hS3 hE3 hB3 HN1)
       |(go_at_call 148;refine HN2.out.mono ?_;rintro e w5 hr;obtain⟨v,rfl,rfl,hE5,hB5⟩:=hr.isErr HV2.out;have HE5:=hid hE5;clear hr hE5 hB5 HN2))
      go_ret2
      exact ReadSt.bad (HT.out.trans HTE.out) rfl ((HEW.out.trans HE3.out).trans HE5.out) HB.out
     |.ok (a,q2)=>
      have hq2:=(rdN_ok hv2).2.2.2;have HV2:=hid hv2;clear hv2;go_wp2_with (first
       |(go_at_call 147;refine HN1.out.mono ?_;rintro e w3 hr;obtain⟨v,rfl,rfl,hS3,hq3,hE3,hB3⟩:=hr.isOk HV1.out;have HE3:=hid hE3;have HN2:=hid (rdWithin_any (lo:=0) (hi:=20) hs hB3 hS3 hq1 (by omega) (by omega));clear hr hS3 hE3 hB3 HN1)
       |(go_at_call 148;refine HN2.out.mono ?_;rintro e w5 hr;obtain⟨v,rfl,rfl,hS5,hq5,hE5,hB5⟩:=hr.isOk HV2.out;have HS5:=hid hS5;have HO5:=hid ((Off.of_ef (bs:=[E]) HE3.out (by simp)).trans (Off.of_ef hE5 (by simp)));clear hr hS5 hE5 hB5 HN2)
       |(go_at_call 40;refine(HCL.out _).mono ?_;rintro e w6 ⟨rfl,hb6⟩;have HS6:=hid (HS5.out.keep hb6);have HO6:=hid (HO5.out.trans (Off.of_below hb6));clear hb6)
       |(at_builtin;refine wpList_append_lies _ rfl (.tmp 39) (.tmp 44) 36 rfl 0 73 ii _ 2 24 Tryz.underlying36 hii hi0 hi1 hi2 rfl (by omega) (.slice vp got.length vc) got.length (got.flatMap impC) rfl ((HC.out.row.off okImp HO6.out (by simp;omega)).own.alloc _) ⟨w6.heap.size,0,none⟩ 1 1 [.string t,.int .i64 (a:Int)] rfl rfl (by simpa using World.news_of_block (heap_alloc_new w6 (Obj.cells #[.string t,.int .i64 (a:Int)] 73))) (by intro u hu;simp at hu;rcases hu with rfl|rfl<;>rfl) (by omega) (by unfold maxLen;omega) (by omega) (Nat.zero_le _) _ rfl ?_;intro g1 k1 w7 hown hgrow hat hlt1;have HNX:=hid (HC.out.next hlt hE1 HV1.out HV2.out HO6.out HS6.out hgrow hat hlt1 hown);clear hown hgrow hat hlt1))
      exact⟨⟨_,_,q2,_,_,by rw[List.length_append];rfl,rfl,by simp,HNX.out⟩,by simp[intOf];omega⟩
   ·have HTE:Hid (T=.ok (got,p)):=by
     show _=_;rw[HC.out.rd,show n-got.length=0 by omega];rfl
    go_wp2;go_ret2
    exact ReadSt.good (HT.out.trans HTE.out) (HC.out.row.low (by omega)) HC.out.rs hpp HEW.out HB.out
structure RGlob (E:Nat) (s:ByteArray) (imps:List LImp) (n:Nat) (T:Rd (List LGlob)) (W2 wr:World) (got:GlobL) (last:ByteArray) (p:Nat) (vp:Option Addr) (vc:Nat):Prop where
 le:got.length<=n
 rs:RS wr E s p
 hp:p<=s.size
 row:GlobsO wr W2.heap.size (.slice vp got.length vc) got
 rd:T=rdGlobs s imps (n-got.length) (got.map (·.1)) last p
 small:got.length<=p
 off:Off [E] W2 wr
theorem RGlob.next{E:Nat}{s:ByteArray}{imps:List LImp}{n:Nat}{T:Rd (List LGlob)}{W2 wr w3 w5 X0 w6:World}{got:GlobL}{last t:ByteArray}{p q q2:Nat}{vp:Option Addr}{vc:Nat}{ob:Obj}{x:LGlob}{cp:Option Addr}{cn cc:Nat}{C:InsL}(hc:RGlob E s imps n T W2 wr got last p vp vc)(hlt:got.length<n)(hE:E<W2.heap.size)(h1:rdNameB s last imps p=.ok (t,q))(h2:rdGlob s t q=.ok (x,q2))
 (hE3:EF E wr w3) (hE5:EF E w3 w5) (hX:Below w5.heap.size w5 X0) (hS:RS w5 E s q2) (hC:CodeO w5 w3.heap.size (.slice cp cn cc) C) (hCm:C.map (·.1)=x.code) (hg:(X0.alloc ob).grownBy w6 (Value.slice vp got.length vc).ownBlock) {g c:Nat} (hat:(Value.slice vp got.length vc).ownBlock=some g∨g=(X0.alloc ob).heap.size) (hlg:g<w6.heap.size)
 (hown:w6.ownsRow 0 76 4 (.slice (some ⟨g,0,none⟩) (got.length+1) c) (got.length+1) (got.flatMap globC++[.string x.name,.int .i64 x.arity,.bool x.exp,.slice cp cn cc])):
 RGlob E s imps n T W2 w6 (got++[(x,.slice cp cn cc,C)]) t q2 (some ⟨g,0,none⟩) c:=by
 have hl:(got++[((x,.slice cp cn cc,C):LGlob×Value×InsL)]).length=got.length+1:=by simp
 have hO:Off [E] wr X0:=(Off.of_ef (hE3.trans hE5) (by simp)).trans (Off.of_below hX);have hrow:=hc.row.off okGlob hO (by simp;omega);have hb:Below X0.heap.size X0 (X0.alloc ob):=(Below.refl _ _).alloc (Nat.le_refl _) _;have hbX:Below w5.heap.size w5 (X0.alloc ob):=hX.trans (by have:=hX.size;exact(Below.refl _ _).alloc this _);have k1:=rdName_ok (rdNameB_ok h1).1;have k2:=rdGlob_ok h2 k1.2.2.2.1;have hsm:=hc.small;have hs3:=hE3.size;refine⟨by omega,(hS.keep hX).of_block (stays_alloc_app hg (hS.keep hX).lt hrow hE),k2.2.1,?_,?_,by omega,?_⟩
 ·rw[hl];refine hc.row.push okGlob hc.off.size (w1:=X0.alloc ob) (x:=(x,.slice cp cn cc,C)) (λb hb'=>?_) (Nat.le_trans hO.size hb.size) ⟨(hC.keep okIns hbX).low (Nat.zero_le _),hCm⟩ (λb hb'=>?_) hC.nd hg rfl hat hlg hown
  ·have h1:=hc.row.rg b hb';have h2:=hO.size;rw[hb.block b (by omega)];exact hO.block b h1.2 (by simp;omega)
  ·have h1:=hC.rg b hb';have h2:=hX.size;have h3:=hb.size;omega
 ·rw[hc.rd,show n-got.length=(n-(got++[((x,.slice cp cn cc,C):LGlob×Value×InsL)]).length)+1 by omega,rdGlobs,bd_ok h1,bd_ok h2,List.map_append];rfl
 ·refine((hc.off.trans hO).alloc ob).grown hg λb e=>Or.inr ?_;exact(hrow.rg b (List.mem_append_left _ (mem_vB.2 e))).1
def rdGlobsN(s:ByteArray)(imps:List LImp)(p:Nat):Rd (List LGlob):=bd (rdV s p) λn q=>rdGlobs s imps n [] ⟨#[]⟩ q
def globsV(lo:Nat):World->List LGlob->Value->Prop:=λw l v=>∃G:GlobL,GlobsO w lo v G∧G.map (·.1)=l
theorem rdGlobsN_any{W w:World}{E:Nat}{adr:Nat->Addr}{s:ByteArray}{imps:List LImp}{iv:Value}{p:Nat}(hs:s.size<=100000)(hB:Ba W w E adr)(h:RS w E s p)(hp:p<=s.size)(hI:ImpsAt w iv imps)(hA:Away E iv)(hRi:Rising imps):
 Calls Tryz.prog 99 #[.pointer (some ⟨E,0,none⟩),iv] w λe w'=>ReadSt W E adr s (rdGlobsN s imps p) (globsV w.heap.size) zSl w e w':=by
 have hEw:E<w.heap.size:=h.lt;have HN:=hid (rdNumber_any hs hB h hp);have HB:=hid hB;have HI:Hid (∀w',EF E w w'->ImpsAt w' iv imps):=λw' hE=>hI.ef hE hA;have HA:=hid hA;have HRI:=hid hRi;obtain⟨ip,ic,rfl,hilen,-⟩:=hI.open;obtain⟨gi,hgi,hgg⟩:=Option.map_eq_some_iff.1 Tryz.globI;simp only[Prod.mk.injEq]at hgg;obtain⟨hh0,hh1,hh2⟩:=hgg;clear h hB hI hA hRi;match hv:rdV s p with
 |.error (c,a)=>
  have HR:Hid (rdGlobsN s imps p=.error (c,a)):=bd_err hv;have HRV:=hid hv;clear hv;go_enter Tryz.func99,Tryz.ntmps99;go_wp2_with (first
   |(go_at_call 145;refine HN.out.mono ?_;rintro e w1 hr;obtain⟨v,rfl,rfl,hE1,hB1⟩:=hr.isErr HRV.out;have HE1:=hid hE1;clear hr hE1 hB1))
  go_ret2
  exact ReadSt.bad HR.out rfl HE1.out HB.out
 |.ok (n,q)=>
  have hn:=(rdV_ok hv).1;have HRV:=hid hv;have HT:Hid (rdGlobsN s imps p=rdGlobs s imps n [] ⟨#[]⟩ q):=bd_ok hv;clear hv;go_enter Tryz.func99,Tryz.ntmps99;go_wp2_with (first
   |(go_at_call 145;refine HN.out.mono ?_;rintro e w1 hr;obtain⟨v,rfl,rfl,hS1,hq1,hE1,hB1⟩:=hr.isOk HRV.out;have HE1:=hid hE1;have HS1:=hid hS1;clear hr hE1 hB1 hS1 HN))
  have hw1:w.heap.size<=w1.heap.size:=HE1.out.size;have hE1:E<w1.heap.size:=HS1.out.lt;have HR0:Hid (RGlob E s imps n (rdGlobs s imps n [] ⟨#[]⟩ q) w1 w1 [] ⟨#[]⟩ q none 0):=⟨Nat.zero_le _,HS1.out,hq1,RowS.nil _ _,rfl,Nat.zero_le _,Off.refl _ _⟩;generalize rdGlobs s imps n [] ⟨#[]⟩ q=T at*;clear HS1;go_loopw [8,9,22] (λlv tv kv wr=>∃(got:GlobL) (last:ByteArray) (p:Nat) (vp:Option Addr) (vc:Nat),lv=.slice vp got.length vc∧tv=.string last∧kv=.int .u64 ((got.length:Nat):Int)∧Hid (RGlob E s imps n T w1 wr got last p vp vc)) (λ_ _ kv _=>n-(intOf kv).toNat)
  case atStart=>exact⟨[],_,q,none,0,rfl,rfl,rfl,HR0.out⟩
  case round=>
   clear HR0;obtain⟨got,last,p,vp,vc,rfl,rfl,rfl,HC⟩:=hrel;rename World=>wr
   have hle:=HC.out.le;have hpp:=HC.out.hp;have hsm:=HC.out.small;have HEW:Hid (EF E w wr):=HE1.out.trans (HC.out.off.ef (by simp));have HBW:=hid (HB.out.ef HEW.out);have hEr:E<wr.heap.size:=HC.out.rs.lt;by_cases hlt:got.length<n
   ·have HRD:Hid (T=bd (rdNameB s last imps p) λt q=>bd (rdGlob s t q) λg r=>rdGlobs s imps (n-got.length-1) (got.map (·.1)++[g]) t r):=by
     show _=_;rw[HC.out.rd];conv=>lhs;rw[show n-got.length=(n-got.length-1)+1 by omega]
     rw[rdGlobs]
    have HN1:=hid (rdBehind_any (last:=last) hs HBW.out HC.out.rs hpp (HI.out _ HEW.out) HA.out HRI.out);match hv1:rdNameB s last imps p with
    |.error (c,a)=>
     have HTE:Hid (T=.error (c,a)):=by show _=_;rw[HRD.out,bd_err hv1]
     have HV1:=hid hv1;clear hv1;go_wp2_with (first
      |(go_at_call 147;refine HN1.out.mono ?_;rintro e w3 hr;obtain⟨v,rfl,rfl,hE3,hB3⟩:=hr.isErr HV1.out;have HE3:=hid hE3;clear hr hE3 hB3 HN1))
     go_ret2
     exact ReadSt.bad (HT.out.trans HTE.out) rfl (HEW.out.trans HE3.out) HB.out
    |.ok (t,q1)=>
     have hq1:=(rdName_ok (rdNameB_ok hv1).1).2.1;have ht16:=(rdName_ok (rdNameB_ok hv1).1).2.2.2.1;have HV1:=hid hv1;have HRD2:Hid (T=bd (rdGlob s t q1) λg r=>rdGlobs s imps (n-got.length-1) (got.map (·.1)++[g]) t r):=by show _=_;rw[HRD.out,bd_ok hv1]
     clear hv1 HRD;match hv2:rdGlob s t q1 with
     |.error (c,a)=>
      have HTE:Hid (T=.error (c,a)):=by show _=_;rw[HRD2.out,bd_err hv2]
      have HV2:=hid hv2;clear hv2;go_wp2_with (first
       |(go_at_call 147;refine HN1.out.mono ?_;rintro e w3 hr;obtain⟨v,rfl,rfl,hS3,hq3,hE3,hB3⟩:=hr.isOk HV1.out;have HE3:=hid hE3;have HN2:=hid (rdGlob_any (t:=t) hs hB3 hS3 hq1 ht16);clear hr hS3 hE3 hB3 HN1)
       |(go_at_call 149;refine HN2.out.mono ?_;rintro e w5 hr;obtain⟨v,rfl,rfl,hE5,hB5⟩:=hr.isErr HV2.out;have HE5:=hid hE5;clear hr hE5 hB5 HN2))
      go_ret2
      exact ReadSt.bad (HT.out.trans HTE.out) rfl (((HEW.out.trans HE3.out).trans HE5.out).trans (EF.of_below ((Below.refl _ _).alloc (Nat.le_refl _) _))) HB.out
     |.ok (x,q2)=>
      have HV2:=hid hv2;clear hv2;go_wp2_with (first
       |(go_at_call 147;refine HN1.out.mono ?_;rintro e w3 hr;obtain⟨v,rfl,rfl,hS3,hq3,hE3,hB3⟩:=hr.isOk HV1.out;have HE3:=hid hE3;have HN2:=hid (rdGlob_any (t:=t) hs hB3 hS3 hq1 ht16);clear hr hS3 hE3 hB3 HN1)
       |(go_at_call 149;refine HN2.out.mono ?_;rintro e w5 hr;obtain⟨v,rfl,⟨cp,cn,cc,C,rfl,hC5,hCm⟩,hS5,hq5,hE5,hB5⟩:=hr.isOk HV2.out;have HC5:=hid hC5;have HCM:=hid hCm;have HS5:=hid hS5;have HE5:=hid hE5;have HOX:=hid ((Off.of_ef (bs:=[E]) (HE3.out.trans hE5) (by simp)).alloc (Obj.cells #[.string x.name,.int .i64 x.arity,.bool x.exp,.slice cp cn cc] 76));clear hr hS5 hE5 hB5 hC5 hCm HN2)
       |(at_builtin;refine wpList_append_lies _ rfl (.tmp 43) (.tmp 45) 37 rfl 0 76 gi _ 4 56 Tryz.underlying37 hgi hh0 hh1 hh2 rfl (by omega) (.slice vp got.length vc) got.length (got.flatMap globC) rfl ((HC.out.row.off okGlob HOX.out (by simp;omega)).own.alloc _) ⟨w5.heap.size+1,0,none⟩ 1 1 [.string x.name,.int .i64 x.arity,.bool x.exp,.slice cp cn cc] rfl rfl (by simpa using World.news_of_block (heap_alloc_new (w5.alloc (Obj.cells #[.string x.name,.int .i64 x.arity,.bool x.exp,.slice cp cn cc] 76)) (Obj.cells #[.string x.name,.int .i64 x.arity,.bool x.exp,.slice cp cn cc] 76))) (by intro u hu;simp at hu;rcases hu with rfl|rfl|rfl|rfl<;>rfl) (by omega) (by unfold maxLen;omega) (by omega) (Nat.zero_le _) _ rfl ?_;intro g1 k1 w7 hown hgrow hat hlt1;have HNX:=hid (HC.out.next hlt hE1 HV1.out HV2.out HE3.out HE5.out ((Below.refl _ _).alloc (Nat.le_refl _) _) HS5.out HC5.out HCM.out hgrow hat hlt1 hown);clear hown hgrow hat hlt1))
      exact⟨⟨_,_,q2,_,_,by rw[List.length_append];rfl,rfl,by simp,HNX.out⟩,by simp[intOf];omega⟩
   ·have HTE:Hid (T=.ok (got.map (·.1),p)):=by
     show _=_;rw[HC.out.rd,show n-got.length=0 by omega];rfl
    go_wp2;go_ret2
    exact ReadSt.good (HT.out.trans HTE.out) ⟨got,HC.out.row.low (by omega),rfl⟩ HC.out.rs hpp HEW.out HB.out
end Go.Proofs.YtblobglfjhilmaaGreatDoor
