import Derived.Test.YtcpcplaeaimmpaaGreatDoorRd2J
set_option maxRecDepth 100000
set_option maxHeartbeats 8000000
namespace Go.Proofs.YtcpcplaeaimmpaaGreatDoor
open Go.RowKit Go.Sort
theorem unfold_any(n:Nat)(w:World)(hn:n<18446744073709551616):Calls Tryz.prog 234 #[.int .u64 (n:Int)] w λe w'=>e=.returned (.int .i64 (unf n))∧w'=w:=by
 have HU:Hid (∀x:Int,(n % 2=0->x=(n:Int) / 2)->(n % 2≠0->x=-((n:Int) / 2)-1)->x=unf n):=by
  intro x h1 h2;unfold unf;split
  ·rename_i h;rw[h1 h];omega
  ·rename_i h;rw[h2 h];omega
 go_enter Tryz.func234,Tryz.ntmps234;go_wp2;all_goals simp only[beq_iff_eq,beq_eq_false_iff_ne,ne_eq]at*
 all_goals go_ret
 all_goals exact⟨ret_num (HU.out _ (by omega) (by omega)),rfl⟩
abbrev isI:World->Int->Value->Prop:=λ_ n v=>v=.int .i64 n
def rdWh(s:ByteArray)(p:Nat):Rd Int:=bd (rdV s p) λn q=>.ok (unf n,q)
theorem rdWhole_any{W w:World}{E:Nat}{adr:Nat->Addr}{s:ByteArray}{p:Nat}(hs:s.size<=100000)(hB:Ba W w E adr)(h:RS w E s p)(hp:p<=s.size):
 Calls Tryz.prog 188 #[.pointer (some ⟨E,0,none⟩)] w λe w'=>ReadSt W E adr s (rdWh s p) isI zInt w e w':=by
 have HN:=hid (rdNumber_any hs hB h hp);have HB:=hid hB;clear h hB;match hv:rdV s p with
 |.error (c,a)=>
  have HR:Hid (rdWh s p=.error (c,a)):=bd_err hv;have HRV:=hid hv;clear hv;go_enter Tryz.func188,Tryz.ntmps188;go_wp2_with (first
   |(go_at_call 85;refine HN.out.mono ?_;rintro e w1 hr;obtain⟨v,rfl,rfl,hE1,hB1⟩:=hr.isErr HRV.out;have HE1:=hid hE1;clear hr hE1 hB1)
   |(go_at_call 234;refine(unfold_any 0 _ (by omega)).mono ?_;rintro e w2 ⟨rfl,rfl⟩))
  go_ret2
  exact ReadSt.bad HR.out rfl HE1.out HB.out
 |.ok (n,q)=>
  have HR:Hid (rdWh s p=.ok (unf n,q)):=bd_ok hv;have hn:=(rdV_ok hv).1;have hq:=(rdV_ok hv).2.2;have HRV:=hid hv;clear hv;go_enter Tryz.func188,Tryz.ntmps188;go_wp2_with (first
   |(go_at_call 85;refine HN.out.mono ?_;rintro e w1 hr;obtain⟨v,rfl,rfl,hS1,hq1,hE1,hB1⟩:=hr.isOk HRV.out;have HE1:=hid hE1;have HS1:=hid hS1;clear hr hE1 hB1 hS1)
   |(go_at_call 234;refine(unfold_any n _ hn).mono ?_;rintro e w2 ⟨rfl,rfl⟩))
  go_ret2
  exact ReadSt.good HR.out rfl HS1.out hq HE1.out HB.out
structure Seen (w:World) (B:Nat) (got:List LAlt):Prop where
 lt:B<w.heap.size
 f:∀t,t<256->w.frozen? ⟨B,t,none⟩=false
 c:∀t,t<256->w.cell? ⟨B,t,none⟩=some (.bool (got.any λx=>x.tag==(t:Int)))
theorem Seen.zero(w:World):Seen (w.alloc (.cells Tryz.zeroCells345 345)) w.heap.size []:=⟨by simp,λt _=>by simp,λt ht=>by rw[zeroCells];simp[ht]⟩
theorem Seen.of_block{w w':World}{B:Nat}{got:List LAlt}(h:Seen w B got)(e:w'.heap[B]?=w.heap[B]?):Seen w' B got:=by
 refine⟨?_,λt ht=>by rw[World.frozen?_of_block (a:=⟨B,t,none⟩) e];exact h.f t ht,λt ht=>by rw[World.cell?_of_block (a:=⟨B,t,none⟩) e];exact h.c t ht⟩;have h0:=h.c 0 (by omega);rw[<-World.cell?_of_block (a:=⟨B,0,none⟩) e]at h0;exact block_lt_of_cell h0
theorem Seen.next{w:World}{B:Nat}{got:List LAlt}(h:Seen w B got)(t u:Nat)(ht:t<256):Seen (w.setCell ⟨B,t,none⟩ (.bool true)) B (got++[⟨t,u⟩]):=by
 refine⟨by simpa using h.lt,λk hk=>by rw[World.frozen?_setCell];exact h.f k hk,λk hk=>?_⟩;by_cases e:k=t
 ·subst e;rw[World.cell?_setCell_same _ _ _ (h.c k hk)];simp
 ·rw[World.cell?_setCell_other _ _ _ _ (off_ne (by omega)),h.c k hk,List.any_append];have:((t:Int)==(k:Int))=false:=by rw[beq_eq_false_iff_ne];omega
  simp[this]
structure RAlt (E B:Nat) (s:ByteArray) (n:Nat) (T:Rd (List LAlt)) (W2 wr:World) (got:List LAlt) (p:Nat) (vp:Option Addr) (vc:Nat):Prop where
 le:got.length<=n
 rs:RS wr E s p
 hp:p<=s.size
 seen:Seen wr B got
 row:AltsO wr W2.heap.size (.slice vp got.length vc) got
 rd:T=rdAlts s (n-got.length) got p
 off:Off [E,B] W2 wr
theorem RAlt.next{E B:Nat}{s:ByteArray}{n:Nat}{T:Rd (List LAlt)}{W2 wr X0 w6:World}{got:List LAlt}{p q q2 t u:Nat}{vp:Option Addr}{vc:Nat}{ob:Obj}(hc:RAlt E B s n T W2 wr got p vp vc)(hlt:got.length<n)(hE:E<W2.heap.size)(hB:B<W2.heap.size)(h1:rdN s 0 255 p=.ok (t,q))(h2:got.any (λx=>x.tag==(t:Int))=false)(h3:rdN s 0 65535 q=.ok (u,q2))
 (hO:Off [E,B] wr X0) (hS:RS X0 E s q2) (hSe:Seen X0 B (got++[⟨t,u⟩])) (hg:(X0.alloc ob).grownBy w6 (Value.slice vp got.length vc).ownBlock) {g c:Nat} (hat:(Value.slice vp got.length vc).ownBlock=some g∨g=(X0.alloc ob).heap.size) (hlg:g<w6.heap.size) (hown:w6.ownsRow 0 91 2 (.slice (some ⟨g,0,none⟩) (got.length+1) c) (got.length+1) (got.flatMap altC++[.int .i64 (t:Int),.int .i64 (u:Int)])):
 RAlt E B s n T W2 w6 (got++[⟨t,u⟩]) q2 (some ⟨g,0,none⟩) c:=by
 have hl:(got++[(⟨t,u⟩:LAlt)]).length=got.length+1:=by simp
 have hrow:=hc.row.off okAlt hO (by simp;omega);have hb:Below X0.heap.size X0 (X0.alloc ob):=(Below.refl _ _).alloc (Nat.le_refl _) _;have hsz:W2.heap.size<=X0.heap.size:=Nat.le_trans hc.off.size hO.size;refine⟨by omega,hS.of_block (stays_alloc_app hg hS.lt hrow hE),(rdN_ok h3).2.2.2,hSe.of_block (stays_alloc_app hg hSe.lt hrow hB),?_,?_,?_⟩
 ·rw[hl];exact hrow.push okAlt hsz (λb hb'=>hb.block b (hrow.rg b hb').2) hb.size trivial (λb hb'=>by cases hb') List.nodup_nil hg rfl hat hlg hown
 ·rw[hc.rd,show n-got.length=(n-(got++[(⟨t,u⟩:LAlt)]).length)+1 by omega,rdAlts,bd_ok h1,if_neg (by rw[h2];decide),bd_ok h3]
 ·refine((hc.off.trans hO).alloc ob).grown hg λb e=>Or.inr ?_;exact(hrow.rg b (List.mem_append_left _ (mem_vB.2 e))).1
def rdAltsN(s:ByteArray)(q:Nat):Rd (List LAlt):=bd (rdN s 1 256 q) λn r=>rdAlts s n [] r
abbrev zSl:Value->Prop:=λv=>v=.slice none 0 0
theorem rdAltsN_any{W w:World}{E:Nat}{adr:Nat->Addr}{s:ByteArray}{p:Nat}(hs:s.size<=100000)(hB:Ba W w E adr)(h:RS w E s p)(hp:p<=s.size):
 Calls Tryz.prog 189 #[.pointer (some ⟨E,0,none⟩)] w λe w'=>ReadSt W E adr s (rdAltsN s p) (λw' l v=>AltsO w' w.heap.size v l) zSl w e w':=by
 have hEw:E<w.heap.size:=h.lt;have HN:=hid (rdWithin_any (lo:=1) (hi:=256) hs hB h hp (by omega) (by omega));have HB:=hid hB;obtain⟨ai,hai,haa⟩:=Option.map_eq_some_iff.1 Tryz.altI;simp only[Prod.mk.injEq]at haa;obtain⟨ha0,ha1,ha2⟩:=haa;clear h hB;match hv:rdN s 1 256 p with
 |.error (c,a)=>
  have HR:Hid (rdAltsN s p=.error (c,a)):=bd_err hv;have HRV:=hid hv;clear hv;go_enter Tryz.func189,Tryz.ntmps189;go_wp2_with (first
   |(go_at_call 88;refine HN.out.mono ?_;rintro e w1 hr;obtain⟨v,rfl,rfl,hE1,hB1⟩:=hr.isErr HRV.out;have HE1:=hid hE1;clear hr hE1 hB1))
  go_ret2
  exact ReadSt.bad HR.out rfl HE1.out HB.out
 |.ok (n,q)=>
  have hn:=(rdN_ok hv).2.1;have HRV:=hid hv;have HT:Hid (rdAltsN s p=rdAlts s n [] q):=bd_ok hv;clear hv;go_enter Tryz.func189,Tryz.ntmps189;go_wp2_with (first
   |(go_at_call 88;refine HN.out.mono ?_;rintro e w1 hr;obtain⟨v,rfl,rfl,hS1,hq1,hE1,hB1⟩:=hr.isOk HRV.out;have HE1:=hid hE1;have HS1:=hid hS1;have HB1:=hid hB1;clear hr hE1 hB1 hS1 HN))
  have HBL:Hid (Below w1.heap.size w1 (w1.alloc (Obj.cells Tryz.zeroCells345 345))):=(Below.refl _ _).alloc (Nat.le_refl _) _;have HSE:=hid (Seen.zero w1);have HRS:=hid (HS1.out.keep HBL.out);have HBA:=hid (HB1.out.keep HBL.out);have HEF:=hid (HE1.out.trans (EF.of_below HBL.out));have hw1:w.heap.size<=w1.heap.size:=HE1.out.size;generalize hW2:w1.alloc (Obj.cells Tryz.zeroCells345 345)=W2 at*;clear hW2 HBL HS1 HE1 HB1;have hE2:E<W2.heap.size:=HRS.out.lt;have hB2:w1.heap.size<W2.heap.size:=HSE.out.lt;have hEB:E<w1.heap.size:=by omega
  have HR0:Hid (RAlt E w1.heap.size s n (rdAlts s n [] q) W2 W2 [] q none 0):=⟨Nat.zero_le _,HRS.out,hq1,HSE.out,RowS.nil _ _,rfl,Off.refl _ _⟩;generalize rdAlts s n [] q=T at*;clear HRS HSE;go_loopw [6,21] (λlv kv wr=>∃(got:List LAlt) (p:Nat) (vp:Option Addr) (vc:Nat),lv=.slice vp got.length vc∧kv=.int .i64 ((got.length:Nat):Int)∧Hid (RAlt E w1.heap.size s n T W2 wr got p vp vc)) (λ_ kv _=>n-(intOf kv).toNat)
  case atStart=>exact⟨[],q,none,0,rfl,rfl,HR0.out⟩
  case round=>
   clear HR0;obtain⟨got,p,vp,vc,rfl,rfl,HC⟩:=hrel;rename World=>wr
   have hle:=HC.out.le;have hpp:=HC.out.hp;obtain⟨d0,d1,g1⟩:=id HC.out.rs;have HOW:Hid (Off [E] w wr):=((Off.of_ef (bs:=[E,w1.heap.size]) HEF.out (by simp)).trans HC.out.off).more (by simp;omega);have HEW:Hid (EF E w wr):=HOW.out.ef (by simp);have HBW:=hid (HB.out.ef HEW.out);have hwr:w1.heap.size<wr.heap.size:=HC.out.seen.lt;have hEr:E<wr.heap.size:=HC.out.rs.lt;by_cases hlt:got.length<n
   ·have HRD:Hid (T=bd (rdN s 0 255 p) λt q=>if got.any (λx=>x.tag==(t:Int))=true then .error (10,p) else bd (rdN s 0 65535 q) λu r=>rdAlts s (n-got.length-1) (got++[⟨t,u⟩]) r):=by
     show _=_;rw[HC.out.rd];conv=>lhs;rw[show n-got.length=(n-got.length-1)+1 by omega]
     rw[rdAlts]
    have HN1:=hid (rdWithin_any (lo:=0) (hi:=255) hs HBW.out HC.out.rs hpp (by omega) (by omega));match hv1:rdN s 0 255 p with
    |.error (c,a)=>
     have HTE:Hid (T=.error (c,a)):=by show _=_;rw[HRD.out,bd_err hv1]
     have HV1:=hid hv1;clear hv1;go_wp2_with (first
      |(go_at_call 88;refine HN1.out.mono ?_;rintro e w3 hr;obtain⟨v,rfl,rfl,hE3,hB3⟩:=hr.isErr HV1.out;have HE3:=hid hE3;clear hr hE3 hB3 HN1))
     go_ret2
     exact ReadSt.bad (HT.out.trans HTE.out) rfl (HEW.out.trans HE3.out) HB.out
    |.ok (t,q1)=>
     have ht:=(rdN_ok hv1).2.1;have hq1:=(rdN_ok hv1).2.2.2;have HV1:=hid hv1;have HRD2:Hid (T=if got.any (λx=>x.tag==(t:Int))=true then .error (10,p) else bd (rdN s 0 65535 q1) λu r=>rdAlts s (n-got.length-1) (got++[⟨t,u⟩]) r):=by show _=_;rw[HRD.out,bd_ok hv1]
     have ht0:(0:Int)<=(t:Int):=by omega
     have ht1:(t:Int)<256:=by omega
     have hsc:=HC.out.seen.c t (by omega);clear hv1 HRD;cases hany:got.any (λx=>x.tag==(t:Int)) with
     |true=>
      have HTE:Hid (T=.error (10,p)):=by show _=_;rw[HRD2.out,if_pos hany]
      rw[hany]at hsc;have HAY:=hid hany;clear hany HRD2;go_wp2_with (first
       |(go_at_call 88;refine HN1.out.mono ?_;rintro e w3 hr;obtain⟨v,rfl,rfl,hS3,hq3,hE3,hB3⟩:=hr.isOk HV1.out;have hse3:=(HC.out.seen.of_block (hE3.block _ hwr (by omega))).c t (by omega);rw[HAY.out]at hse3;have HE3:=hid hE3;have x10:=hB3.order;clear hr hS3 hE3 hB3 HN1)
       |(go_at_call 24;refine(fAt_any _ _ _ _).mono ?_;rintro e w4 ⟨rfl,rfl⟩))
      go_ret2
      exact ReadSt.bad (c:=10) (a:=p) (HT.out.trans HTE.out) rfl (HEW.out.trans HE3.out) HB.out
     |false=>
      rw[hany]at hsc;have HAY:=hid hany;have hWB:W.heap.size<=w1.heap.size:=by have:=HB.out.e;omega
      have HRD3:Hid (T=bd (rdN s 0 65535 q1) λu r=>rdAlts s (n-got.length-1) (got++[⟨t,u⟩]) r):=by show _=_;rw[HRD2.out,if_neg (by rw[hany];decide)]
      clear hany HRD2;match hv2:rdN s 0 65535 q1 with
      |.error (c,a)=>
       have HTE:Hid (T=.error (c,a)):=by show _=_;rw[HRD3.out,bd_err hv2]
       have HV2:=hid hv2;clear hv2;go_wp2_with (first
        |(go_at_call 88;refine HN1.out.mono ?_;rintro e w3 hr;obtain⟨v,rfl,rfl,hS3,hq3,hE3,hB3⟩:=hr.isOk HV1.out;have hsn3:=HC.out.seen.of_block (hE3.block _ hwr (by omega));have hse3:=hsn3.c t (by omega);have hsf3:=hsn3.f t (by omega);rw[HAY.out]at hse3;have hw3:w1.heap.size<w3.heap.size:=hsn3.lt;have HS3:=hid (hS3.off (bs:=[w1.heap.size]) ((Off.refl _ _).set (b:=w1.heap.size) (o:=t) (Or.inl (by simp)) (.bool true)) (by simp;omega));have HB3:=hid (hB3.set (b:=w1.heap.size) (o:=t) (by omega) (.bool true));have HO3:=hid ((Off.of_ef (bs:=[E,w1.heap.size]) hE3 (by simp)).set (b:=w1.heap.size) (o:=t) (Or.inl (by simp)) (.bool true));have HSN:=hid (λu=>hsn3.next t u (by omega));have HN2:=hid (rdWithin_any (lo:=0) (hi:=65535) hs HB3.out HS3.out hq1 (by omega) (by omega));clear hr hS3 hE3 hB3 hsn3 HN1)
        |(go_at_call 88;refine HN2.out.mono ?_;rintro e w5 hr;obtain⟨v,rfl,rfl,hE5,hB5⟩:=hr.isErr HV2.out;have HE5:=hid hE5;clear hr hE5 hB5 HN2))
       go_ret2
       exact ReadSt.bad (HT.out.trans HTE.out) rfl ((((Off.of_ef (bs:=[E,w1.heap.size]) HEW.out (by simp)).trans HO3.out).trans (Off.of_ef HE5.out (by simp))).ef (by simp;omega)) HB.out
      |.ok (u,q2)=>
       have hq2:=(rdN_ok hv2).2.2.2;have HV2:=hid hv2;clear hv2;go_wp2_with (first
        |(go_at_call 88;refine HN1.out.mono ?_;rintro e w3 hr;obtain⟨v,rfl,rfl,hS3,hq3,hE3,hB3⟩:=hr.isOk HV1.out;have hsn3:=HC.out.seen.of_block (hE3.block _ hwr (by omega));have hse3:=hsn3.c t (by omega);have hsf3:=hsn3.f t (by omega);rw[HAY.out]at hse3;have hw3:w1.heap.size<w3.heap.size:=hsn3.lt;have HS3:=hid (hS3.off (bs:=[w1.heap.size]) ((Off.refl _ _).set (b:=w1.heap.size) (o:=t) (Or.inl (by simp)) (.bool true)) (by simp;omega));have HB3:=hid (hB3.set (b:=w1.heap.size) (o:=t) (by omega) (.bool true));have HO3:=hid ((Off.of_ef (bs:=[E,w1.heap.size]) hE3 (by simp)).set (b:=w1.heap.size) (o:=t) (Or.inl (by simp)) (.bool true));have HSN:=hid (λu=>hsn3.next t u (by omega));have HN2:=hid (rdWithin_any (lo:=0) (hi:=65535) hs HB3.out HS3.out hq1 (by omega) (by omega));clear hr hS3 hE3 hB3 hsn3 HN1)
        |(go_at_call 88;refine HN2.out.mono ?_;rintro e w5 hr;obtain⟨v,rfl,rfl,hS5,hq5,hE5,hB5⟩:=hr.isOk HV2.out;have HS5:=hid hS5;have HO5:=hid (HO3.out.trans (Off.of_ef (bs:=[E,w1.heap.size]) hE5 (by simp)));have HSN5:=hid ((HSN.out u).of_block (hE5.block _ (by simpa using hw3) (by omega)));have hw5:w1.heap.size<w5.heap.size:=HSN5.out.lt;clear hr hS5 hE5 hB5 HN2)
        |(at_builtin;refine wpList_append_lies _ rfl (.tmp 51) (.tmp 55) 87 rfl 0 91 ai _ 2 16 Tryz.underlying87 hai ha0 ha1 ha2 rfl (by omega) (.slice vp got.length vc) got.length (got.flatMap altC) rfl ((HC.out.row.off okAlt HO5.out (by simp;omega)).own.alloc _) ⟨w5.heap.size,0,none⟩ 1 1 [.int .i64 (t:Int),.int .i64 (u:Int)] rfl rfl (by simpa using World.news_of_block (heap_alloc_new w5 (Obj.cells #[.int .i64 (t:Int),.int .i64 (u:Int)] 91))) (by intro u hu;simp at hu;rcases hu with rfl|rfl<;>rfl) (by omega) (by unfold maxLen;omega) (by omega) (Nat.zero_le _) _ rfl ?_;intro g1 k1 w6 hown hgrow hat hlt1;have HNX:=hid (HC.out.next hlt hE2 hB2 HV1.out HAY.out HV2.out HO5.out HS5.out HSN5.out hgrow hat hlt1 hown);clear hown hgrow hat hlt1))
       exact⟨⟨_,q2,_,_,by rw[List.length_append];rfl,by simp,HNX.out⟩,by simp[intOf];omega⟩
   ·have HTE:Hid (T=.ok (got,p)):=by
     show _=_;rw[HC.out.rd,show n-got.length=0 by omega];rfl
    go_wp2;go_ret2
    exact ReadSt.good (HT.out.trans HTE.out) (HC.out.row.low (by omega)) HC.out.rs hpp HEW.out HB.out
end Go.Proofs.YtcpcplaeaimmpaaGreatDoor
