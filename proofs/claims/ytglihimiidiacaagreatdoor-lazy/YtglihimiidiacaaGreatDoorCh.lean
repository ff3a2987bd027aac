import Derived.Test.YtglihimiidiacaaGreatDoorCg
import Derived.Shelf.Pu.Clone
namespace Go.Proofs.YtglihimiidiacaaGreatDoor
open Go.RowKit Go.Sort
set_option maxRecDepth 100000 in
theorem unfold_any(n:Nat)(w:World)(hn:n<18446744073709551616):Calls Tryz.prog 283 #[.int .u64 (n:Int)] w fun e w'=>e=.returned (.int .i64 (unf n))∧w'=w:=by
 have HU:Hid (∀x:Int,(n % 2=0→x=(n:Int) / 2)→(n % 2≠0→x=-((n:Int) / 2)-1)→x=unf n):=by
  intro x h1 h2;unfold unf;split
  ·rename_i h;rw[h1 h];omega
  ·rename_i h;rw[h2 h];omega
 go_enter Tryz.func283,Tryz.ntmps283;go_wp2;all_goals simp only[beq_iff_eq,beq_eq_false_iff_ne,ne_eq]at*
 all_goals go_ret
 all_goals exact⟨ret_num (HU.out _ (by omega) (by omega)),rfl⟩
abbrev isI:World→Int→Value→Prop:=fun _ n v=>v=.int .i64 n
def rdWh(s:ByteArray)(p:Nat):Rd Int:=bd (rdV s p) fun n q=>.ok (unf n,q)
set_option maxRecDepth 100000 in
set_option maxHeartbeats 8000000 in
theorem rdWhole_any{W w:World}{E:Nat}{adr:Nat→Addr}{s:ByteArray}{p:Nat}(hs:s.size≤100000)(hB:Ba W w E adr)(h:RS w E s p)(hp:p≤s.size):
 Calls Tryz.prog 266 #[.pointer (some ⟨E,0,none⟩)] w fun e w'=>ReadSt W E adr s (rdWh s p) isI zInt w e w':=by
 have HN:=hid (rdNumber_any hs hB h hp);have HB:=hid hB;clear h hB;match hv:rdV s p with
 |.error (c,a)=>
  have HR:Hid (rdWh s p=.error (c,a)):=bd_err hv;have HRV:=hid hv;clear hv;go_enter Tryz.func266,Tryz.ntmps266;go_wp2_with (first
   |(go_at_call 146;refine HN.out.mono ?_;rintro e w1 hr;obtain⟨v,rfl,rfl,hE1,hB1⟩:=hr.isErr HRV.out;have HE1:=hid hE1;clear hr hE1 hB1)
   |(go_at_call 283;refine(unfold_any 0 _ (by omega)).mono ?_;rintro e w2 ⟨rfl,rfl⟩))
  go_ret2
  exact ReadSt.bad HR.out rfl HE1.out HB.out
 |.ok (n,q)=>
  have HR:Hid (rdWh s p=.ok (unf n,q)):=bd_ok hv;have hn:=(rdV_ok hv).1;have hq:=(rdV_ok hv).2.2;have HRV:=hid hv;clear hv;go_enter Tryz.func266,Tryz.ntmps266;go_wp2_with (first
   |(go_at_call 146;refine HN.out.mono ?_;rintro e w1 hr;obtain⟨v,rfl,rfl,hS1,hq1,hE1,hB1⟩:=hr.isOk HRV.out;have HE1:=hid hE1;have HS1:=hid hS1;clear hr hE1 hB1 hS1)
   |(go_at_call 283;refine(unfold_any n _ hn).mono ?_;rintro e w2 ⟨rfl,rfl⟩))
  go_ret2
  exact ReadSt.good HR.out rfl HS1.out hq HE1.out HB.out
structure Seen (w:World) (B:Nat) (got:List LAlt):Prop where
 lt:B<w.heap.size
 f:∀t,t<256→w.frozen? ⟨B,t,none⟩=false
 c:∀t,t<256→w.cell? ⟨B,t,none⟩=some (.bool (got.any fun x=>x.tag==(t:Int)))
theorem Seen.zero(w:World):Seen (w.alloc (.cells Tryz.zeroCells413 413)) w.heap.size []:=⟨by simp,fun t _=>by simp,fun t ht=>by rw[zeroCells];simp[ht]⟩
theorem Seen.of_block{w w':World}{B:Nat}{got:List LAlt}(h:Seen w B got)(e:w'.heap[B]?=w.heap[B]?):Seen w' B got:=by
 refine⟨?_,fun t ht=>by rw[World.frozen?_of_block (a:=⟨B,t,none⟩) e];exact h.f t ht,fun t ht=>by rw[World.cell?_of_block (a:=⟨B,t,none⟩) e];exact h.c t ht⟩;have h0:=h.c 0 (by omega);rw[←World.cell?_of_block (a:=⟨B,0,none⟩) e]at h0;exact block_lt_of_cell h0
theorem Seen.next{w:World}{B:Nat}{got:List LAlt}(h:Seen w B got)(t u:Nat)(ht:t<256):Seen (w.setCell ⟨B,t,none⟩ (.bool true)) B (got++[⟨t,u⟩]):=by
 refine⟨by simpa using h.lt,fun k hk=>by rw[World.frozen?_setCell];exact h.f k hk,fun k hk=>?_⟩;by_cases e:k=t
 ·subst e;rw[World.cell?_setCell_same _ _ _ (h.c k hk)];simp
 ·rw[World.cell?_setCell_other _ _ _ _ (off_ne (by omega)),h.c k hk,List.any_append];have:((t:Int)==(k:Int))=false:=by rw[beq_eq_false_iff_ne];omega
  simp[this]
structure RAlt (E B:Nat) (s:ByteArray) (n:Nat) (T:Rd (List LAlt)) (W2 wr:World) (got:List LAlt) (p:Nat) (vp:Option Addr) (vc:Nat):Prop where
 le:got.length≤n
 rs:RS wr E s p
 hp:p≤s.size
 seen:Seen wr B got
 row:AltsO wr W2.heap.size (.slice vp got.length vc) got
 rd:T=rdAlts s (n-got.length) got p
 off:Off [E,B] W2 wr
theorem RAlt.next{E B:Nat}{s:ByteArray}{n:Nat}{T:Rd (List LAlt)}{W2 wr X0 w6:World}{got:List LAlt}{p q q2 t u:Nat}{vp:Option Addr}{vc:Nat}{ob:Obj}(hc:RAlt E B s n T W2 wr got p vp vc)(hlt:got.length<n)(hE:E<W2.heap.size)(hB:B<W2.heap.size)(h1:rdN s 0 255 p=.ok (t,q))(h2:got.any (fun x=>x.tag==(t:Int))=false)(h3:rdN s 0 65535 q=.ok (u,q2))
 (hO:Off [E,B] wr X0) (hS:RS X0 E s q2) (hSe:Seen X0 B (got++[⟨t,u⟩])) (hg:(X0.alloc ob).grownBy w6 (Value.slice vp got.length vc).ownBlock) {g c:Nat} (hat:(Value.slice vp got.length vc).ownBlock=some g∨g=(X0.alloc ob).heap.size) (hlg:g<w6.heap.size) (hown:w6.ownsRow 0 154 2 (.slice (some ⟨g,0,none⟩) (got.length+1) c) (got.length+1) (got.flatMap altC++[.int .i64 (t:Int),.int .i64 (u:Int)])):
 RAlt E B s n T W2 w6 (got++[⟨t,u⟩]) q2 (some ⟨g,0,none⟩) c:=by
 have hl:(got++[(⟨t,u⟩:LAlt)]).length=got.length+1:=by simp
 have hrow:=hc.row.off okAlt hO (by simp;omega);have hb:Below X0.heap.size X0 (X0.alloc ob):=(Below.refl _ _).alloc (Nat.le_refl _) _;have hsz:W2.heap.size≤X0.heap.size:=Nat.le_trans hc.off.size hO.size;refine⟨by omega,hS.of_block (stays_alloc_app hg hS.lt hrow hE),(rdN_ok h3).2.2.2,hSe.of_block (stays_alloc_app hg hSe.lt hrow hB),?_,?_,?_⟩
 ·rw[hl];exact hrow.push okAlt hsz (fun b hb'=>hb.block b (hrow.rg b hb').2) hb.size trivial (fun b hb'=>by cases hb') List.nodup_nil hg rfl hat hlg hown
 ·rw[hc.rd,show n-got.length=(n-(got++[(⟨t,u⟩:LAlt)]).length)+1 by omega,rdAlts,bd_ok h1,if_neg (by rw[h2];decide),bd_ok h3]
 ·refine((hc.off.trans hO).alloc ob).grown hg fun b e=>Or.inr ?_;exact(hrow.rg b (List.mem_append_left _ (mem_vB.2 e))).1
def rdAltsN(s:ByteArray)(q:Nat):Rd (List LAlt):=bd (rdN s 1 256 q) fun n r=>rdAlts s n [] r
abbrev zSl:Value→Prop:=fun v=>v=.slice none 0 0
set_option maxRecDepth 100000 in
set_option maxHeartbeats 8000000 in
theorem rdAltsN_any{W w:World}{E:Nat}{adr:Nat→Addr}{s:ByteArray}{p:Nat}(hs:s.size≤100000)(hB:Ba W w E adr)(h:RS w E s p)(hp:p≤s.size):
 Calls Tryz.prog 267 #[.pointer (some ⟨E,0,none⟩)] w fun e w'=>ReadSt W E adr s (rdAltsN s p) (fun w' l v=>AltsO w' w.heap.size v l) zSl w e w':=by
 have hEw:E<w.heap.size:=h.lt;have HN:=hid (rdWithin_any (lo:=1) (hi:=256) hs hB h hp (by omega) (by omega));have HB:=hid hB;obtain⟨ai,hai,haa⟩:=Option.map_eq_some_iff.1 Tryz.altI;simp only[Prod.mk.injEq]at haa;obtain⟨ha0,ha1,ha2⟩:=haa;clear h hB;match hv:rdN s 1 256 p with
 |.error (c,a)=>
  have HR:Hid (rdAltsN s p=.error (c,a)):=bd_err hv;have HRV:=hid hv;clear hv;go_enter Tryz.func267,Tryz.ntmps267;go_wp2_with (first
   |(go_at_call 149;refine HN.out.mono ?_;rintro e w1 hr;obtain⟨v,rfl,rfl,hE1,hB1⟩:=hr.isErr HRV.out;have HE1:=hid hE1;clear hr hE1 hB1))
  go_ret2
  exact ReadSt.bad HR.out rfl HE1.out HB.out
 |.ok (n,q)=>
  have hn:=(rdN_ok hv).2.1;have HRV:=hid hv;have HT:Hid (rdAltsN s p=rdAlts s n [] q):=bd_ok hv;clear hv;go_enter Tryz.func267,Tryz.ntmps267;go_wp2_with (first
   |(go_at_call 149;refine HN.out.mono ?_;rintro e w1 hr;obtain⟨v,rfl,rfl,hS1,hq1,hE1,hB1⟩:=hr.isOk HRV.out;have HE1:=hid hE1;have HS1:=hid hS1;have HB1:=hid hB1;clear hr hE1 hB1 hS1 HN))
  have HBL:Hid (Below w1.heap.size w1 (w1.alloc (Obj.cells Tryz.zeroCells413 413))):=(Below.refl _ _).alloc (Nat.le_refl _) _;have HSE:=hid (Seen.zero w1);have HRS:=hid (HS1.out.keep HBL.out);have HBA:=hid (HB1.out.keep HBL.out);have HEF:=hid (HE1.out.trans (EF.of_below HBL.out));have hw1:w.heap.size≤w1.heap.size:=HE1.out.size;generalize hW2:w1.alloc (Obj.cells Tryz.zeroCells413 413)=W2 at*;clear hW2 HBL HS1 HE1 HB1;have hE2:E<W2.heap.size:=HRS.out.lt;have hB2:w1.heap.size<W2.heap.size:=HSE.out.lt;have hEB:E<w1.heap.size:=by omega
  have HR0:Hid (RAlt E w1.heap.size s n (rdAlts s n [] q) W2 W2 [] q none 0):=⟨Nat.zero_le _,HRS.out,hq1,HSE.out,RowS.nil _ _,rfl,Off.refl _ _⟩;generalize rdAlts s n [] q=T at*;clear HRS HSE;go_loopw [6,21] (fun lv kv wr=>∃(got:List LAlt) (p:Nat) (vp:Option Addr) (vc:Nat),lv=.slice vp got.length vc∧kv=.int .i64 ((got.length:Nat):Int)∧Hid (RAlt E w1.heap.size s n T W2 wr got p vp vc)) (fun _ kv _=>n-(intOf kv).toNat)
  case atStart=>exact⟨[],q,none,0,rfl,rfl,HR0.out⟩
  case round=>
   clear HR0;obtain⟨got,p,vp,vc,rfl,rfl,HC⟩:=hrel;rename World=>wr
   have hle:=HC.out.le;have hpp:=HC.out.hp;obtain⟨d0,d1,g1⟩:=id HC.out.rs;have HOW:Hid (Off [E] w wr):=((Off.of_ef (bs:=[E,w1.heap.size]) HEF.out (by simp)).trans HC.out.off).more (by simp;omega);have HEW:Hid (EF E w wr):=HOW.out.ef (by simp);have HBW:=hid (HB.out.ef HEW.out);have hwr:w1.heap.size<wr.heap.size:=HC.out.seen.lt;have hEr:E<wr.heap.size:=HC.out.rs.lt;by_cases hlt:got.length<n
   ·have HRD:Hid (T=bd (rdN s 0 255 p) fun t q=>if got.any (fun x=>x.tag==(t:Int))=true then .error (10,p) else bd (rdN s 0 65535 q) fun u r=>rdAlts s (n-got.length-1) (got++[⟨t,u⟩]) r):=by
     show _=_;rw[HC.out.rd];conv=>lhs;rw[show n-got.length=(n-got.length-1)+1 by omega]
     rw[rdAlts]
    have HN1:=hid (rdWithin_any (lo:=0) (hi:=255) hs HBW.out HC.out.rs hpp (by omega) (by omega));match hv1:rdN s 0 255 p with
    |.error (c,a)=>
     have HTE:Hid (T=.error (c,a)):=by show _=_;rw[HRD.out,bd_err hv1]
     have HV1:=hid hv1;clear hv1;go_wp2_with (first
      |(go_at_call 149;refine HN1.out.mono ?_;rintro e w3 hr;obtain⟨v,rfl,rfl,hE3,hB3⟩:=hr.isErr HV1.out;have HE3:=hid hE3;clear hr hE3 hB3 HN1))
     go_ret2
     exact ReadSt.bad (HT.out.trans HTE.out) rfl (HEW.out.trans HE3.out) HB.out
    |.ok (t,q1)=>
     have ht:=(rdN_ok hv1).2.1;have hq1:=(rdN_ok hv1).2.2.2;have HV1:=hid hv1;have HRD2:Hid (T=if got.any (fun x=>x.tag==(t:Int))=true then .error (10,p) else bd (rdN s 0 65535 q1) fun u r=>rdAlts s (n-got.length-1) (got++[⟨t,u⟩]) r):=by show _=_;rw[HRD.out,bd_ok hv1]
     have ht0:(0:Int)≤(t:Int):=by omega
     have ht1:(t:Int)<256:=by omega
     have hsc:=HC.out.seen.c t (by omega);clear hv1 HRD;cases hany:got.any (fun x=>x.tag==(t:Int)) with
     |true=>
      have HTE:Hid (T=.error (10,p)):=by show _=_;rw[HRD2.out,if_pos hany]
      rw[hany]at hsc;have HAY:=hid hany;clear hany HRD2;go_wp2_with (first
       |(go_at_call 149;refine HN1.out.mono ?_;rintro e w3 hr;obtain⟨v,rfl,rfl,hS3,hq3,hE3,hB3⟩:=hr.isOk HV1.out;have hse3:=(HC.out.seen.of_block (hE3.block _ hwr (by omega))).c t (by omega);rw[HAY.out]at hse3;have HE3:=hid hE3;have x10:=hB3.order;clear hr hS3 hE3 hB3 HN1)
       |(go_at_call 38;refine(fAt_any _ _ _ _).mono ?_;rintro e w4 ⟨rfl,rfl⟩))
      go_ret2
      exact ReadSt.bad (c:=10) (a:=p) (HT.out.trans HTE.out) rfl (HEW.out.trans HE3.out) HB.out
     |false=>
      rw[hany]at hsc;have HAY:=hid hany;have hWB:W.heap.size≤w1.heap.size:=by have:=HB.out.e;omega
      have HRD3:Hid (T=bd (rdN s 0 65535 q1) fun u r=>rdAlts s (n-got.length-1) (got++[⟨t,u⟩]) r):=by show _=_;rw[HRD2.out,if_neg (by rw[hany];decide)]
      clear hany HRD2;match hv2:rdN s 0 65535 q1 with
      |.error (c,a)=>
       have HTE:Hid (T=.error (c,a)):=by show _=_;rw[HRD3.out,bd_err hv2]
       have HV2:=hid hv2;clear hv2;go_wp2_with (first
        |(go_at_call 149;refine HN1.out.mono ?_;rintro e w3 hr;obtain⟨v,rfl,rfl,hS3,hq3,hE3,hB3⟩:=hr.isOk HV1.out;have hsn3:=HC.out.seen.of_block (hE3.block _ hwr (by omega));have hse3:=hsn3.c t (by omega);have hsf3:=hsn3.f t (by omega);rw[HAY.out]at hse3;have hw3:w1.heap.size<w3.heap.size:=hsn3.lt;have HS3:=hid (hS3.off (bs:=[w1.heap.size]) ((Off.refl _ _).set (b:=w1.heap.size) (o:=t) (Or.inl (by simp)) (.bool true)) (by simp;omega));have HB3:=hid (hB3.set (b:=w1.heap.size) (o:=t) (by omega) (.bool true));have HO3:=hid ((Off.of_ef (bs:=[E,w1.heap.size]) hE3 (by simp)).set (b:=w1.heap.size) (o:=t) (Or.inl (by simp)) (.bool true));have HSN:=hid (fun u=>hsn3.next t u (by omega));have HN2:=hid (rdWithin_any (lo:=0) (hi:=65535) hs HB3.out HS3.out hq1 (by omega) (by omega));clear hr hS3 hE3 hB3 hsn3 HN1)
        |(go_at_call 149;refine HN2.out.mono ?_;rintro e w5 hr;obtain⟨v,rfl,rfl,hE5,hB5⟩:=hr.isErr HV2.out;have HE5:=hid hE5;clear hr hE5 hB5 HN2))
       go_ret2
       exact ReadSt.bad (HT.out.trans HTE.out) rfl ((((Off.of_ef (bs:=[E,w1.heap.size]) HEW.out (by simp)).trans HO3.out).trans (Off.of_ef HE5.out (by simp))).ef (by simp;omega)) HB.out
      |.ok (u,q2)=>
       have hq2:=(rdN_ok hv2).2.2.2;have HV2:=hid hv2;clear hv2;go_wp2_with (first
        |(go_at_call 149;refine HN1.out.mono ?_;rintro e w3 hr;obtain⟨v,rfl,rfl,hS3,hq3,hE3,hB3⟩:=hr.isOk HV1.out;have hsn3:=HC.out.seen.of_block (hE3.block _ hwr (by omega));have hse3:=hsn3.c t (by omega);have hsf3:=hsn3.f t (by omega);rw[HAY.out]at hse3;have hw3:w1.heap.size<w3.heap.size:=hsn3.lt;have HS3:=hid (hS3.off (bs:=[w1.heap.size]) ((Off.refl _ _).set (b:=w1.heap.size) (o:=t) (Or.inl (by simp)) (.bool true)) (by simp;omega));have HB3:=hid (hB3.set (b:=w1.heap.size) (o:=t) (by omega) (.bool true));have HO3:=hid ((Off.of_ef (bs:=[E,w1.heap.size]) hE3 (by simp)).set (b:=w1.heap.size) (o:=t) (Or.inl (by simp)) (.bool true));have HSN:=hid (fun u=>hsn3.next t u (by omega));have HN2:=hid (rdWithin_any (lo:=0) (hi:=65535) hs HB3.out HS3.out hq1 (by omega) (by omega));clear hr hS3 hE3 hB3 hsn3 HN1)
        |(go_at_call 149;refine HN2.out.mono ?_;rintro e w5 hr;obtain⟨v,rfl,rfl,hS5,hq5,hE5,hB5⟩:=hr.isOk HV2.out;have HS5:=hid hS5;have HO5:=hid (HO3.out.trans (Off.of_ef (bs:=[E,w1.heap.size]) hE5 (by simp)));have HSN5:=hid ((HSN.out u).of_block (hE5.block _ (by simpa using hw3) (by omega)));have hw5:w1.heap.size<w5.heap.size:=HSN5.out.lt;clear hr hS5 hE5 hB5 HN2)
        |(at_builtin;refine wpList_append_lies _ rfl (.tmp 51) (.tmp 55) 150 rfl 0 154 ai _ 2 16 Tryz.underlying150 hai ha0 ha1 ha2 rfl (by omega) (.slice vp got.length vc) got.length (got.flatMap altC) rfl ((HC.out.row.off okAlt HO5.out (by simp;omega)).own.alloc _) ⟨w5.heap.size,0,none⟩ 1 1 [.int .i64 (t:Int),.int .i64 (u:Int)] rfl rfl (by simpa using World.news_of_block (heap_alloc_new w5 (Obj.cells #[.int .i64 (t:Int),.int .i64 (u:Int)] 154))) (by intro u hu;simp at hu;rcases hu with rfl|rfl<;>rfl) (by omega) (by unfold maxLen;omega) (by omega) (Nat.zero_le _) _ rfl ?_;intro g1 k1 w6 hown hgrow hat hlt1;have HNX:=hid (HC.out.next hlt hE2 hB2 HV1.out HAY.out HV2.out HO5.out HS5.out HSN5.out hgrow hat hlt1 hown);clear hown hgrow hat hlt1))
       exact⟨⟨_,q2,_,_,by rw[List.length_append];rfl,by simp,HNX.out⟩,by simp[intOf];omega⟩
   ·have HTE:Hid (T=.ok (got,p)):=by
     show _=_;rw[HC.out.rd,show n-got.length=0 by omega];rfl
    go_wp2;go_ret2
    exact ReadSt.good (HT.out.trans HTE.out) (HC.out.row.low (by omega)) HC.out.rs hpp HEW.out HB.out
end Go.Proofs.YtglihimiidiacaaGreatDoor
namespace Go.Proofs.YtglihimiidiacaaGreatDoor
open Go.RowKit Go.Sort
def insV(lo:Nat):World→LIns→Value→Prop:=fun w x v=>∃(ap:Option Addr) (an ac:Nat),v=.agg #[.int .i64 x.op,.int .i64 x.a,.slice ap an ac]∧AltsO w lo (.slice ap an ac) x.alts
def insZ:Value→Prop:=fun v=>∃(a b:Int) (ap:Option Addr) (an ac:Nat),v=.agg #[.int .i64 a,.int .i64 b,.slice ap an ac]
theorem puts3(w:World)(R:Nat)(x y z:Value):Off [R] w (((w.setCell ⟨R,0,none⟩ x).setCell ⟨R,1,none⟩ y).setCell ⟨R,2,none⟩ z):=(((Off.refl _ _).set (Or.inl (by simp)) _).set (Or.inl (by simp)) _).set (Or.inl (by simp)) _
theorem rInsGood{W w wX wF:World}{E:Nat}{adr:Nat→Addr}{s:ByteArray}{p q:Nat}{op a:Int}{l:List LAlt}{ap:Option Addr}{an ac:Nat}(hE:E<w.heap.size)(hB:Ba W w E adr)(hr:rdIns s p=.ok (⟨op,a,l⟩,q))(hS:RS wX E s q)(hq:q≤s.size)(hO:Off [E] w wX)(hA:AltsO wX (w.heap.size+1) (.slice ap an ac) l)(hF:Below (((wX.setCell ⟨w.heap.size,0,none⟩ (.int .i64 op)).setCell ⟨w.heap.size,1,none⟩ (.int .i64 a)).setCell ⟨w.heap.size,2,none⟩ (.slice ap an ac)).heap.size (((wX.setCell ⟨w.heap.size,0,none⟩ (.int .i64 op)).setCell ⟨w.heap.size,1,none⟩ (.int .i64 a)).setCell ⟨w.heap.size,2,none⟩ (.slice ap an ac)) wF):
 ReadSt W E adr s (rdIns s p) (insV w.heap.size) insZ w (.returned (.tuple #[.agg #[.int .i64 op,.int .i64 a,.slice ap an ac],.nilIface])) wF:=by
 have ho:=puts3 wX w.heap.size (.int .i64 op) (.int .i64 a) (.slice ap an ac);refine ReadSt.good hr ⟨ap,an,ac,rfl,((hA.off okAlt ho (by simp)).keep okAlt hF).low (Nat.le_succ _)⟩ ((hS.off ho (by simp;omega)).keep hF) hq ?_ hB;exact((((hO.set (Or.inr (Nat.le_refl _)) _).set (Or.inr (Nat.le_refl _)) _).set (Or.inr (Nat.le_refl _)) _).trans (Off.of_below hF)).ef (by simp)
theorem rInsBad{W w wX wF:World}{E:Nat}{adr:Nat→Addr}{s:ByteArray}{p:Nat}{c x:Nat}{op a:Int}{ap:Option Addr}{an ac:Nat}(hB:Ba W w E adr)(hr:rdIns s p=.error (c,x))(hO:Off [E] w wX)(hF:Below (((wX.setCell ⟨w.heap.size,0,none⟩ (.int .i64 op)).setCell ⟨w.heap.size,1,none⟩ (.int .i64 a)).setCell ⟨w.heap.size,2,none⟩ (.slice ap an ac)).heap.size (((wX.setCell ⟨w.heap.size,0,none⟩ (.int .i64 op)).setCell ⟨w.heap.size,1,none⟩ (.int .i64 a)).setCell ⟨w.heap.size,2,none⟩ (.slice ap an ac)) wF):
 ReadSt W E adr s (rdIns s p) (insV w.heap.size) insZ w (.returned (.tuple #[.agg #[.int .i64 op,.int .i64 a,.slice ap an ac],.iface 123 (.agg #[.iface 443 (.pointer (some (adr (eIx c)))),.int .i64 0,.int .i64 (x:Int)])])) wF:=by
 refine ReadSt.bad hr ⟨op,a,ap,an,ac,rfl⟩ ?_ hB;exact((((hO.set (Or.inr (Nat.le_refl _)) _).set (Or.inr (Nat.le_refl _)) _).set (Or.inr (Nat.le_refl _)) _).trans (Off.of_below hF)).ef (by simp)
theorem rdIns_wh{s:ByteArray}{p q op:Nat}(h:rdN s 0 20 p=.ok (op,q))(hk:rowN op 0=1):rdIns s p=bd (rdWh s q) fun a r=>.ok (⟨op,a,[]⟩,r):=by
 rw[rdIns,bd_ok h,rdArg,if_pos hk,rdWh];match rdV s q with
 |.error e=>rfl
 |.ok (n,r)=>rfl
theorem rdIns_bd{s:ByteArray}{p q op:Nat}(h:rdN s 0 20 p=.ok (op,q))(hk:rowN op 0=2):rdIns s p=bd (rdN s (rowN op 1).toNat (rowN op 2).toNat q) fun n r=>.ok (⟨op,n,[]⟩,r):=by
 rw[rdIns,bd_ok h,rdArg,if_neg (by rw[hk];decide),if_pos hk]
theorem rdIns_al{s:ByteArray}{p q op:Nat}(h:rdN s 0 20 p=.ok (op,q))(hk:rowN op 0=3):rdIns s p=bd (rdAltsN s q) fun l r=>.ok (⟨op,0,l⟩,r):=by
 rw[rdIns,bd_ok h,rdArg,if_neg (by rw[hk];decide),if_neg (by rw[hk];decide),if_pos hk,rdAltsN];match rdN s 1 256 q with
 |.error e=>rfl
 |.ok (n,r)=>rfl
theorem rdIns_no{s:ByteArray}{p q op:Nat}(h:rdN s 0 20 p=.ok (op,q))(hk:rowN op 0=0):rdIns s p=.ok (⟨op,0,[]⟩,q):=by
 rw[rdIns,bd_ok h,rdArg,hk];rfl
set_option maxRecDepth 100000 in
set_option maxHeartbeats 8000000 in
theorem rdIns_any{W w:World}{E:Nat}{adr:Nat→Addr}{s:ByteArray}{p:Nat}(hs:s.size≤100000)(hB:Ba W w E adr)(h:RS w E s p)(hp:p≤s.size):
 Calls Tryz.prog 251 #[.pointer (some ⟨E,0,none⟩)] w fun e w'=>ReadSt W E adr s (rdIns s p) (insV w.heap.size) insZ w e w':=by
 have hE:E<w.heap.size:=h.lt;have HN:Hid (∀ob,Calls Tryz.prog 149 #[.pointer (some ⟨E,0,none⟩),.int .i64 0,.int .i64 20] (w.alloc ob) fun e w'=>ReadSt W E adr s (rdN s 0 20 p) isInt zInt (w.alloc ob) e w'):=fun ob=>rdWithin_any (lo:=0) (hi:=20) hs (hB.keep ((Below.refl _ _).alloc (Nat.le_refl _) _)) (h.keep ((Below.refl _ _).alloc (Nat.le_refl _) _)) hp (by omega) (by omega);have HB:=hid hB;clear h hB;match hv:rdN s 0 20 p with
 |.error (c,a)=>
  have HR:Hid (rdIns s p=.error (c,a)):=bd_err hv;have HRV:=hid hv;clear hv;go_enter Tryz.func251,Tryz.ntmps251;go_wp2_with (first
   |(go_at_call 149;refine(HN.out _).mono ?_;rintro e w1 hr;obtain⟨v,rfl,rfl,hE1,hB1⟩:=hr.isErr HRV.out;have HO1:=hid (((Off.refl [E] w).alloc _).trans (Off.of_ef hE1 (by simp)));have HR1:=hid ((Bx3.new w _ _ _ _).ef hE1 (by omega));obtain⟨r0,r1,r2,k0,k1,k2⟩:=id HR1.out;have hw1:w.heap.size<w1.heap.size:=HR1.out.lt;clear hr hE1 hB1 HN))
  obtain⟨s0,s1,s2,-,-,-⟩:=HR1.out.put (.int .i64 0) (.int .i64 0) (.slice none 0 0);refine bodyPost_ret (v:=.tuple #[.agg #[.int .i64 0,.int .i64 0,.slice none 0 0],.iface 123 (.agg #[.iface 443 (.pointer (some (adr (eIx c)))),.int .i64 0,.int .i64 (a:Int)])]) (by simp[results,Tryz.results251,go_sem,s0,s1,s2]) rfl ?_;exact rInsBad HB.out HR.out HO1.out (Below.refl _ _)
 |.ok (op,q)=>
  have hop:op<21:=by have:=rdN_ok hv;omega
  have hq:=(rdN_ok hv).2.2.2;obtain⟨f1,f2,f3,f4,f5,f6,f7,f8⟩:=row_facts op hop;have HRV:=hid hv;by_cases kk0:rowN op 0=0
  ·have HR:=hid (rdIns_no hv kk0);clear hv;go_enter Tryz.func251,Tryz.ntmps251;go_wp2_with (first
    |(go_at_call 149;refine(HN.out _).mono ?_;rintro e w1 hr;obtain⟨v,rfl,rfl,hS1,hq1,hE1,hB1⟩:=hr.isOk HRV.out;have HS1:=hid hS1;have HB1:=hid hB1;have HO1:=hid (((Off.refl [E] w).alloc _).trans (Off.of_ef hE1 (by simp)));have HR1:=hid ((Bx3.new w _ _ _ _).ef hE1 (by omega));obtain⟨r0,r1,r2,k0,k1,k2⟩:=id HR1.out;have hw1:w.heap.size<w1.heap.size:=HR1.out.lt;clear hr hS1 hE1 hB1 HN)
    |(go_at_call 216;refine(kindOf_any op 0 _ hop (by have h:=(HB1.out.keep ((Below.refl _ _).alloc (Nat.le_refl _) (Obj.cells #[.int .i64 (op:Int),.int .i64 0,.slice none 0 0] 152))).tab.row op 0 hop (by omega);rw[kk0]at h;exact h)).mono ?_;rintro e w2 ⟨rfl,rfl⟩))
   obtain⟨s0,s1,s2,-,-,-⟩:=(HR1.out.put (.int .i64 (op:Int)) (.int .i64 0) (.slice none 0 0)).keep ((Below.refl _ _).alloc (Nat.le_refl _) (Obj.cells #[.int .i64 (op:Int),.int .i64 0,.slice none 0 0] 152));refine bodyPost_ret (v:=.tuple #[.agg #[.int .i64 (op:Int),.int .i64 0,.slice none 0 0],.nilIface]) (by simp[results,Tryz.results251,go_sem,s0,s1,s2]) rfl ?_;exact rInsGood hE HB.out HR.out HS1.out hq HO1.out (RowS.nil _ _) ((Below.refl _ _).alloc (Nat.le_refl _) _)
  ·have kne0:((0:Int)==rowN op 0)=false:=by rw[beq_eq_false_iff_ne];omega
   by_cases kk1:rowN op 0=1
   ·have HC:=hid (rdIns_wh hv kk1);clear hv;have HW:Hid (∀w',RS w' E s q→Ba W w' E adr→Calls Tryz.prog 266 #[.pointer (some ⟨E,0,none⟩)] w' fun e w''=>ReadSt W E adr s (rdWh s q) isI zInt w' e w''):=fun w' hS hB=>rdWhole_any hs hB hS hq;match hv2:rdWh s q with
    |.error (c,a)=>
     have HR:Hid (rdIns s p=.error (c,a)):=by show _=_;rw[HC.out,bd_err hv2]
     have HV2:=hid hv2;clear hv2;go_enter Tryz.func251,Tryz.ntmps251;go_wp2_with (first
      |(go_at_call 149;refine(HN.out _).mono ?_;rintro e w1 hr;obtain⟨v,rfl,rfl,hS1,hq1,hE1,hB1⟩:=hr.isOk HRV.out;have HS1:=hid hS1;have HB1:=hid hB1;have HO1:=hid (((Off.refl [E] w).alloc _).trans (Off.of_ef hE1 (by simp)));have HR1:=hid ((Bx3.new w _ _ _ _).ef hE1 (by omega));obtain⟨r0,r1,r2,k0,k1,k2⟩:=id HR1.out;have hw1:w.heap.size<w1.heap.size:=HR1.out.lt;have hEw1:E<w1.heap.size:=(by omega);have HBI:=hid ((Below.refl w1.heap.size w1).alloc (Nat.le_refl _) (Obj.cells #[.int .i64 (op:Int),.int .i64 0,.slice none 0 0] 152));clear hr hS1 hE1 hB1 HN)
      |(go_at_call 216;refine(kindOf_any op 1 _ hop (by have h:=(HB1.out.keep HBI.out).tab.row op 0 hop (by omega);rw[kk1]at h;exact h)).mono ?_;rintro e w2 ⟨rfl,rfl⟩)
      |(go_at_call 266;refine(HW.out _ (HS1.out.keep HBI.out) (HB1.out.keep HBI.out)).mono ?_;rintro e w3 hr;obtain⟨v,rfl,rfl,hE2,hB2⟩:=hr.isErr HV2.out;have HO2:=hid ((HO1.out.trans (Off.of_below HBI.out)).trans (Off.of_ef hE2 (by simp)));have HR2:=hid ((HR1.out.keep HBI.out).ef hE2 (by omega));have HI2:=hid ((Bx3.new w1 (.int .i64 (op:Int)) (.int .i64 0) (.slice none 0 0) 152).ef hE2 (by omega));obtain⟨R0,R1,R2,K0,K1,K2⟩:=id HR2.out;obtain⟨I0,I1,I2,J0,J1,J2⟩:=id HI2.out;have hI':w1.heap.size<w3.heap.size:=HI2.out.lt;have hR2':w.heap.size<w3.heap.size:=(by omega);clear hr hE2 hB2))
     have HBX:=hid (HR2.out.off (bs:=[w1.heap.size]) ((Off.refl _ _).set (b:=w1.heap.size) (o:=1) (Or.inl (by simp)) (.int .i64 0)) (by simp;omega));obtain⟨s0,s1,s2,-,-,-⟩:=HBX.out.put (.int .i64 (op:Int)) (.int .i64 (0)) (.slice none 0 0);refine bodyPost_ret (v:=.tuple #[.agg #[.int .i64 (op:Int),.int .i64 (0),.slice none 0 0],.iface 123 (.agg #[.iface 443 (.pointer (some (adr (eIx c)))),.int .i64 0,.int .i64 (a:Int)])]) (by simp[results,Tryz.results251,go_sem,s0,s1,s2]) rfl ?_;exact rInsBad HB.out HR.out (HO2.out.set (Or.inr (by omega)) _) (Below.refl _ _)
    |.ok (x,q2)=>
     have HR:Hid (rdIns s p=.ok (⟨op,x,[]⟩,q2)):=by show _=_;rw[HC.out,bd_ok hv2]
     have HV2:=hid hv2;clear hv2;go_enter Tryz.func251,Tryz.ntmps251;go_wp2_with (first
      |(go_at_call 149;refine(HN.out _).mono ?_;rintro e w1 hr;obtain⟨v,rfl,rfl,hS1,hq1,hE1,hB1⟩:=hr.isOk HRV.out;have HS1:=hid hS1;have HB1:=hid hB1;have HO1:=hid (((Off.refl [E] w).alloc _).trans (Off.of_ef hE1 (by simp)));have HR1:=hid ((Bx3.new w _ _ _ _).ef hE1 (by omega));obtain⟨r0,r1,r2,k0,k1,k2⟩:=id HR1.out;have hw1:w.heap.size<w1.heap.size:=HR1.out.lt;have hEw1:E<w1.heap.size:=(by omega);have HBI:=hid ((Below.refl w1.heap.size w1).alloc (Nat.le_refl _) (Obj.cells #[.int .i64 (op:Int),.int .i64 0,.slice none 0 0] 152));clear hr hS1 hE1 hB1 HN)
      |(go_at_call 216;refine(kindOf_any op 1 _ hop (by have h:=(HB1.out.keep HBI.out).tab.row op 0 hop (by omega);rw[kk1]at h;exact h)).mono ?_;rintro e w2 ⟨rfl,rfl⟩)
      |(go_at_call 266;refine(HW.out _ (HS1.out.keep HBI.out) (HB1.out.keep HBI.out)).mono ?_;rintro e w3 hr;obtain⟨v,rfl,rfl,hS3,hq3,hE2,hB2⟩:=hr.isOk HV2.out;have HS3:=hid hS3;have HO2:=hid ((HO1.out.trans (Off.of_below HBI.out)).trans (Off.of_ef hE2 (by simp)));have HR2:=hid ((HR1.out.keep HBI.out).ef hE2 (by omega));have HI2:=hid ((Bx3.new w1 (.int .i64 (op:Int)) (.int .i64 0) (.slice none 0 0) 152).ef hE2 (by omega));obtain⟨R0,R1,R2,K0,K1,K2⟩:=id HR2.out;obtain⟨I0,I1,I2,J0,J1,J2⟩:=id HI2.out;have hI':w1.heap.size<w3.heap.size:=HI2.out.lt;have hR2':w.heap.size<w3.heap.size:=(by omega);clear hr hE2 hB2 hS3))
     have HBX:=hid (HR2.out.off (bs:=[w1.heap.size]) ((Off.refl _ _).set (b:=w1.heap.size) (o:=1) (Or.inl (by simp)) (.int .i64 x)) (by simp;omega));obtain⟨s0,s1,s2,-,-,-⟩:=HBX.out.put (.int .i64 (op:Int)) (.int .i64 (x)) (.slice none 0 0);refine bodyPost_ret (v:=.tuple #[.agg #[.int .i64 (op:Int),.int .i64 (x),.slice none 0 0],.nilIface]) (by simp[results,Tryz.results251,go_sem,s0,s1,s2]) rfl ?_;exact rInsGood hE HB.out HR.out (HS3.out.off (bs:=[w1.heap.size]) ((Off.refl _ _).set (b:=w1.heap.size) (Or.inl (by simp)) _) (by simp;omega)) hq3 (HO2.out.set (Or.inr (by omega)) _) (RowS.nil _ _) (Below.refl _ _)
   ·by_cases kk2:rowN op 0=2
    ·have HC:=hid (rdIns_bd hv kk2);clear hv;obtain⟨l,hl⟩:∃l:Nat,rowN op 1=(l:Int):=⟨_,(Int.toNat_of_nonneg f1).symm⟩;obtain⟨h2,hh⟩:∃l:Nat,rowN op 2=(l:Int):=⟨_,(Int.toNat_of_nonneg f3).symm⟩;rw[hl,hh,Int.toNat_natCast,Int.toNat_natCast]at HC;have HW:Hid (∀w',RS w' E s q→Ba W w' E adr→Calls Tryz.prog 149 #[.pointer (some ⟨E,0,none⟩),.int .i64 (l:Int),.int .i64 (h2:Int)] w' fun e w''=>ReadSt W E adr s (rdN s l h2 q) isInt zInt w' e w''):=fun w' hS hB=>rdWithin_any hs hB hS hq (by omega) (by omega);have HL:=hid hl;have HH:=hid hh;clear hl hh;match hv2:rdN s l h2 q with
     |.error (c,a)=>
      have HR:Hid (rdIns s p=.error (c,a)):=by show _=_;rw[HC.out,bd_err hv2]
      have HV2:=hid hv2;clear hv2;go_enter Tryz.func251,Tryz.ntmps251;go_wp2_with (first
       |(go_at_call 149;refine(HN.out _).mono ?_;rintro e w1 hr;obtain⟨v,rfl,rfl,hS1,hq1,hE1,hB1⟩:=hr.isOk HRV.out;have HS1:=hid hS1;have HB1:=hid hB1;have HO1:=hid (((Off.refl [E] w).alloc _).trans (Off.of_ef hE1 (by simp)));have HR1:=hid ((Bx3.new w _ _ _ _).ef hE1 (by omega));obtain⟨r0,r1,r2,k0,k1,k2⟩:=id HR1.out;have hw1:w.heap.size<w1.heap.size:=HR1.out.lt;have hEw1:E<w1.heap.size:=(by omega);have HBI:=hid ((Below.refl w1.heap.size w1).alloc (Nat.le_refl _) (Obj.cells #[.int .i64 (op:Int),.int .i64 0,.slice none 0 0] 152));clear hr hS1 hE1 hB1 HN)
       |(go_at_call 216;refine(kindOf_any op 2 _ hop (by have h:=(HB1.out.keep HBI.out).tab.row op 0 hop (by omega);rw[kk2]at h;exact h)).mono ?_;rintro e w2 ⟨rfl,rfl⟩)
       |(go_at_call 249;refine(bounds_any op (l:Int) (h2:Int) _ hop (by have h:=(HB1.out.keep HBI.out).tab.row op 1 hop (by omega);rw[HL.out]at h;exact h) (by have h:=(HB1.out.keep HBI.out).tab.row op 2 hop (by omega);rw[HH.out]at h;exact h)).mono ?_;rintro e w2 ⟨rfl,m2,rfl⟩)
       |(go_at_call 149;refine(HW.out _ (HS1.out.keep (below_drewN HBI.out m2)) (HB1.out.keep (below_drewN HBI.out m2))).mono ?_;rintro e w3 hr;obtain⟨v,rfl,rfl,hE2,hB2⟩:=hr.isErr HV2.out;have HO2:=hid ((HO1.out.trans (Off.of_below (below_drewN HBI.out m2))).trans (Off.of_ef hE2 (by simp)));have HR2:=hid ((HR1.out.keep (below_drewN HBI.out m2)).ef hE2 (by omega));have HI2:=hid (((Bx3.new w1 (.int .i64 (op:Int)) (.int .i64 0) (.slice none 0 0) 152).keep (below_drewN (Below.refl _ _) m2)).ef hE2 (by omega));obtain⟨R0,R1,R2,K0,K1,K2⟩:=id HR2.out;obtain⟨I0,I1,I2,J0,J1,J2⟩:=id HI2.out;have hI':w1.heap.size<w3.heap.size:=HI2.out.lt;have hR2':w.heap.size<w3.heap.size:=(by omega);clear hr hE2 hB2))
      have HBX:=hid (HR2.out.off (bs:=[w1.heap.size]) ((Off.refl _ _).set (b:=w1.heap.size) (o:=1) (Or.inl (by simp)) (.int .i64 0)) (by simp;omega));obtain⟨s0,s1,s2,-,-,-⟩:=HBX.out.put (.int .i64 (op:Int)) (.int .i64 (0)) (.slice none 0 0);refine bodyPost_ret (v:=.tuple #[.agg #[.int .i64 (op:Int),.int .i64 (0),.slice none 0 0],.iface 123 (.agg #[.iface 443 (.pointer (some (adr (eIx c)))),.int .i64 0,.int .i64 (a:Int)])]) (by simp[results,Tryz.results251,go_sem,s0,s1,s2]) rfl ?_;exact rInsBad HB.out HR.out (HO2.out.set (Or.inr (by omega)) _) (Below.refl _ _)
     |.ok (x,q2)=>
      have HR:Hid (rdIns s p=.ok (⟨op,x,[]⟩,q2)):=by show _=_;rw[HC.out,bd_ok hv2]
      have HV2:=hid hv2;clear hv2;go_enter Tryz.func251,Tryz.ntmps251;go_wp2_with (first
       |(go_at_call 149;refine(HN.out _).mono ?_;rintro e w1 hr;obtain⟨v,rfl,rfl,hS1,hq1,hE1,hB1⟩:=hr.isOk HRV.out;have HS1:=hid hS1;have HB1:=hid hB1;have HO1:=hid (((Off.refl [E] w).alloc _).trans (Off.of_ef hE1 (by simp)));have HR1:=hid ((Bx3.new w _ _ _ _).ef hE1 (by omega));obtain⟨r0,r1,r2,k0,k1,k2⟩:=id HR1.out;have hw1:w.heap.size<w1.heap.size:=HR1.out.lt;have hEw1:E<w1.heap.size:=(by omega);have HBI:=hid ((Below.refl w1.heap.size w1).alloc (Nat.le_refl _) (Obj.cells #[.int .i64 (op:Int),.int .i64 0,.slice none 0 0] 152));clear hr hS1 hE1 hB1 HN)
       |(go_at_call 216;refine(kindOf_any op 2 _ hop (by have h:=(HB1.out.keep HBI.out).tab.row op 0 hop (by omega);rw[kk2]at h;exact h)).mono ?_;rintro e w2 ⟨rfl,rfl⟩)
       |(go_at_call 249;refine(bounds_any op (l:Int) (h2:Int) _ hop (by have h:=(HB1.out.keep HBI.out).tab.row op 1 hop (by omega);rw[HL.out]at h;exact h) (by have h:=(HB1.out.keep HBI.out).tab.row op 2 hop (by omega);rw[HH.out]at h;exact h)).mono ?_;rintro e w2 ⟨rfl,m2,rfl⟩)
       |(go_at_call 149;refine(HW.out _ (HS1.out.keep (below_drewN HBI.out m2)) (HB1.out.keep (below_drewN HBI.out m2))).mono ?_;rintro e w3 hr;obtain⟨v,rfl,rfl,hS3,hq3,hE2,hB2⟩:=hr.isOk HV2.out;have HS3:=hid hS3;have HO2:=hid ((HO1.out.trans (Off.of_below (below_drewN HBI.out m2))).trans (Off.of_ef hE2 (by simp)));have HR2:=hid ((HR1.out.keep (below_drewN HBI.out m2)).ef hE2 (by omega));have HI2:=hid (((Bx3.new w1 (.int .i64 (op:Int)) (.int .i64 0) (.slice none 0 0) 152).keep (below_drewN (Below.refl _ _) m2)).ef hE2 (by omega));obtain⟨R0,R1,R2,K0,K1,K2⟩:=id HR2.out;obtain⟨I0,I1,I2,J0,J1,J2⟩:=id HI2.out;have hI':w1.heap.size<w3.heap.size:=HI2.out.lt;have hR2':w.heap.size<w3.heap.size:=(by omega);clear hr hE2 hB2 hS3))
      have HBX:=hid (HR2.out.off (bs:=[w1.heap.size]) ((Off.refl _ _).set (b:=w1.heap.size) (o:=1) (Or.inl (by simp)) (.int .i64 (x:Int))) (by simp;omega));obtain⟨s0,s1,s2,-,-,-⟩:=HBX.out.put (.int .i64 (op:Int)) (.int .i64 ((x:Int))) (.slice none 0 0);refine bodyPost_ret (v:=.tuple #[.agg #[.int .i64 (op:Int),.int .i64 ((x:Int)),.slice none 0 0],.nilIface]) (by simp[results,Tryz.results251,go_sem,s0,s1,s2]) rfl ?_;exact rInsGood hE HB.out HR.out (HS3.out.off (bs:=[w1.heap.size]) ((Off.refl _ _).set (b:=w1.heap.size) (Or.inl (by simp)) _) (by simp;omega)) hq3 (HO2.out.set (Or.inr (by omega)) _) (RowS.nil _ _) (Below.refl _ _)
    ·have kk3:rowN op 0=3:=by omega
     have HC:=hid (rdIns_al hv kk3);clear hv;have HW:Hid (∀w',RS w' E s q→Ba W w' E adr→Calls Tryz.prog 267 #[.pointer (some ⟨E,0,none⟩)] w' fun e w''=>ReadSt W E adr s (rdAltsN s q) (fun w'' l v=>AltsO w'' w'.heap.size v l) zSl w' e w''):=fun w' hS hB=>rdAltsN_any hs hB hS hq;match hv2:rdAltsN s q with
     |.error (c,a)=>
      have HR:Hid (rdIns s p=.error (c,a)):=by show _=_;rw[HC.out,bd_err hv2]
      have HV2:=hid hv2;clear hv2;go_enter Tryz.func251,Tryz.ntmps251;go_wp2_with (first
       |(go_at_call 149;refine(HN.out _).mono ?_;rintro e w1 hr;obtain⟨v,rfl,rfl,hS1,hq1,hE1,hB1⟩:=hr.isOk HRV.out;have HS1:=hid hS1;have HB1:=hid hB1;have HO1:=hid (((Off.refl [E] w).alloc _).trans (Off.of_ef hE1 (by simp)));have HR1:=hid ((Bx3.new w _ _ _ _).ef hE1 (by omega));obtain⟨r0,r1,r2,k0,k1,k2⟩:=id HR1.out;have hw1:w.heap.size<w1.heap.size:=HR1.out.lt;have hEw1:E<w1.heap.size:=(by omega);have HBI:=hid ((Below.refl w1.heap.size w1).alloc (Nat.le_refl _) (Obj.cells #[.int .i64 (op:Int),.int .i64 0,.slice none 0 0] 152));clear hr hS1 hE1 hB1 HN)
       |(go_at_call 216;refine(kindOf_any op 3 _ hop (by have h:=(HB1.out.keep HBI.out).tab.row op 0 hop (by omega);rw[kk3]at h;exact h)).mono ?_;rintro e w2 ⟨rfl,rfl⟩)
       |(go_at_call 267;refine(HW.out _ (HS1.out.keep HBI.out) (HB1.out.keep HBI.out)).mono ?_;rintro e w3 hr;obtain⟨v,rfl,rfl,hE2,hB2⟩:=hr.isErr HV2.out;have HO2:=hid ((HO1.out.trans (Off.of_below HBI.out)).trans (Off.of_ef hE2 (by simp)));have HR2:=hid ((HR1.out.keep HBI.out).ef hE2 (by omega));have HI2:=hid ((Bx3.new w1 (.int .i64 (op:Int)) (.int .i64 0) (.slice none 0 0) 152).ef hE2 (by omega));obtain⟨R0,R1,R2,K0,K1,K2⟩:=id HR2.out;obtain⟨I0,I1,I2,J0,J1,J2⟩:=id HI2.out;have hI':w1.heap.size<w3.heap.size:=HI2.out.lt;have hR2':w.heap.size<w3.heap.size:=(by omega);clear hr hE2 hB2))
      have HBX:=hid (HR2.out.off (bs:=[w1.heap.size]) ((Off.refl _ _).set (b:=w1.heap.size) (o:=2) (Or.inl (by simp)) (.slice none 0 0)) (by simp;omega));obtain⟨s0,s1,s2,-,-,-⟩:=HBX.out.put (.int .i64 (op:Int)) (.int .i64 (0)) (.slice none 0 0);refine bodyPost_ret (v:=.tuple #[.agg #[.int .i64 (op:Int),.int .i64 (0),.slice none 0 0],.iface 123 (.agg #[.iface 443 (.pointer (some (adr (eIx c)))),.int .i64 0,.int .i64 (a:Int)])]) (by simp[results,Tryz.results251,go_sem,s0,s1,s2]) rfl ?_;exact rInsBad HB.out HR.out (HO2.out.set (Or.inr (by omega)) _) (Below.refl _ _)
     |.ok (x,q2)=>
      have HR:Hid (rdIns s p=.ok (⟨op,0,x⟩,q2)):=by show _=_;rw[HC.out,bd_ok hv2]
      have HV2:=hid hv2;clear hv2;go_enter Tryz.func251,Tryz.ntmps251;go_wp2_with (first
       |(go_at_call 149;refine(HN.out _).mono ?_;rintro e w1 hr;obtain⟨v,rfl,rfl,hS1,hq1,hE1,hB1⟩:=hr.isOk HRV.out;have HS1:=hid hS1;have HB1:=hid hB1;have HO1:=hid (((Off.refl [E] w).alloc _).trans (Off.of_ef hE1 (by simp)));have HR1:=hid ((Bx3.new w _ _ _ _).ef hE1 (by omega));obtain⟨r0,r1,r2,k0,k1,k2⟩:=id HR1.out;have hw1:w.heap.size<w1.heap.size:=HR1.out.lt;have hEw1:E<w1.heap.size:=(by omega);have HBI:=hid ((Below.refl w1.heap.size w1).alloc (Nat.le_refl _) (Obj.cells #[.int .i64 (op:Int),.int .i64 0,.slice none 0 0] 152));clear hr hS1 hE1 hB1 HN)
       |(go_at_call 216;refine(kindOf_any op 3 _ hop (by have h:=(HB1.out.keep HBI.out).tab.row op 0 hop (by omega);rw[kk3]at h;exact h)).mono ?_;rintro e w2 ⟨rfl,rfl⟩)
       |(go_at_call 267;refine(HW.out _ (HS1.out.keep HBI.out) (HB1.out.keep HBI.out)).mono ?_;rintro e w3 hr;obtain⟨v,rfl,hA3,hS3,hq3,hE2,hB2⟩:=hr.isOk HV2.out;obtain⟨ap,ac,rfl⟩:=hA3.slice;have HA3:=hid hA3;have HS3:=hid hS3;have HO2:=hid ((HO1.out.trans (Off.of_below HBI.out)).trans (Off.of_ef hE2 (by simp)));have HR2:=hid ((HR1.out.keep HBI.out).ef hE2 (by omega));have HI2:=hid ((Bx3.new w1 (.int .i64 (op:Int)) (.int .i64 0) (.slice none 0 0) 152).ef hE2 (by omega));obtain⟨R0,R1,R2,K0,K1,K2⟩:=id HR2.out;obtain⟨I0,I1,I2,J0,J1,J2⟩:=id HI2.out;have hI':w1.heap.size<w3.heap.size:=HI2.out.lt;have hR2':w.heap.size<w3.heap.size:=(by omega);clear hr hE2 hB2 hS3 hA3))
      have HBX:=hid (HR2.out.off (bs:=[w1.heap.size]) ((Off.refl _ _).set (b:=w1.heap.size) (o:=2) (Or.inl (by simp)) (.slice ap x.length ac)) (by simp;omega));obtain⟨s0,s1,s2,-,-,-⟩:=HBX.out.put (.int .i64 (op:Int)) (.int .i64 (0)) (.slice ap x.length ac);refine bodyPost_ret (v:=.tuple #[.agg #[.int .i64 (op:Int),.int .i64 (0),.slice ap x.length ac],.nilIface]) (by simp[results,Tryz.results251,go_sem,s0,s1,s2]) rfl ?_;exact rInsGood hE HB.out HR.out (HS3.out.off (bs:=[w1.heap.size]) ((Off.refl _ _).set (b:=w1.heap.size) (Or.inl (by simp)) _) (by simp;omega)) hq3 (HO2.out.set (Or.inr (by omega)) _) ((HA3.out.off okAlt ((Off.refl _ _).set (bs:=[w1.heap.size]) (b:=w1.heap.size) (Or.inl (by simp)) _) (by simp)).low (by simp;omega)) (Below.refl _ _)
end Go.Proofs.YtglihimiidiacaaGreatDoor
namespace Go.Proofs.YtglihimiidiacaaGreatDoor
open Go.RowKit Go.Shelf
def cRen:Ren:=⟨fun _=>82,fun k=>if k=37 then 62 else if k=47 then 270 else if k=3 then 3 else if k=4 then 4 else if k=5 then 5 else if k=9 then 9 else 0,fun k=>k⟩
set_option maxRecDepth 100000 in
set_option maxHeartbeats 4000000 in
theorem cLays:LaysPu.n25 Tryz.prog cRen:=by
 constructor;all_goals first
  |kernel_rfl
  |(intro w;rfl)
set_option maxRecDepth 100000 in
theorem Clone_any(s:ByteArray)(w:World)(hs:s.size≤100000):Calls Tryz.prog 46 #[.string s] w fun e w'=>e=.returned (.string s)∧Below w.heap.size w w':=by
 have HC:=hid (fun w=>AnyPu.stringslite_Clone cLays s w (by omega));go_enter Tryz.func46,Tryz.ntmps46;go_wp2_with (first
  |(go_at_call 82;refine(HC.out _).mono ?_;rintro e w1 ⟨rfl,hb1⟩))
 go_ret;exact⟨rfl,hb1⟩
end Go.Proofs.YtglihimiidiacaaGreatDoor
