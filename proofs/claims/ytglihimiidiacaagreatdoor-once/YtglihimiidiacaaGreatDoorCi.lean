import Derived.Test.YtglihimiidiacaaGreatDoorCh
namespace Go.Proofs.YtglihimiidiacaaGreatDoor
open Go.RowKit Go.Sort
structure RCode (E:Nat) (s:ByteArray) (n:Nat) (T:Rd (List LIns)) (W2 wr:World) (got:InsL) (p:Nat) (vp:Option Addr) (vc:Nat):Prop where
 le:got.length≤n
 rs:RS wr E s p
 hp:p≤s.size
 row:CodeO wr W2.heap.size (.slice vp got.length vc) got
 rd:T=rdCode s (n-got.length) (got.map (·.1)) p
 small:got.length≤p
 off:Off [E] W2 wr
theorem RCode.next{E:Nat}{s:ByteArray}{n:Nat}{T:Rd (List LIns)}{W2 wr w3 X0 w6:World}{got:InsL}{p q:Nat}{vp:Option Addr}{vc:Nat}{ob:Obj}{x:LIns}{ap:Option Addr}{an ac:Nat}(hc:RCode E s n T W2 wr got p vp vc)(hlt:got.length<n)(hE:E<W2.heap.size)(h1:rdIns s p=.ok (x,q))
 (hA:AltsO w3 wr.heap.size (.slice ap an ac) x.alts) (hE3:EF E wr w3) (hX:Below w3.heap.size w3 X0) (hS:RS w3 E s q) (hg:(X0.alloc ob).grownBy w6 (Value.slice vp got.length vc).ownBlock) {g c:Nat} (hat:(Value.slice vp got.length vc).ownBlock=some g∨g=(X0.alloc ob).heap.size) (hlg:g<w6.heap.size) (hown:w6.ownsRow 0 152 3 (.slice (some ⟨g,0,none⟩) (got.length+1) c) (got.length+1) (got.flatMap insC++[.int .i64 x.op,.int .i64 x.a,.slice ap an ac])):
 RCode E s n T W2 w6 (got++[(x,.slice ap an ac)]) q (some ⟨g,0,none⟩) c:=by
 have hl:(got++[((x,.slice ap an ac):LIns×Value)]).length=got.length+1:=by simp
 have hO:Off [E] wr X0:=(Off.of_ef hE3 (by simp)).trans (Off.of_below hX);have hrow:=hc.row.off okIns hO (by simp;omega);have hb:Below X0.heap.size X0 (X0.alloc ob):=(Below.refl _ _).alloc (Nat.le_refl _) _;have hbX:Below w3.heap.size w3 (X0.alloc ob):=hX.trans (by have:=hX.size;exact(Below.refl _ _).alloc this _);have hk:=rdIns_ok h1;have hsm:=hc.small;refine⟨by omega,(hS.keep hX).of_block (stays_alloc_app hg (hS.keep hX).lt hrow hE),hk.2.1,?_,?_,by omega,?_⟩
 ·rw[hl];refine hc.row.push okIns hc.off.size (w1:=X0.alloc ob) (x:=(x,.slice ap an ac)) (fun b hb'=>?_) (Nat.le_trans hO.size hb.size) ((hA.keep okAlt hbX).low (Nat.zero_le _)) (fun b hb'=>?_) hA.nd hg rfl hat hlg hown
  ·have h1:=hc.row.rg b hb';have h2:=hO.size;rw[hb.block b (by omega)];exact hO.block b h1.2 (by simp;omega)
  ·have h1:=hA.rg b hb';have h2:=hX.size;have h3:=hb.size;omega
 ·rw[hc.rd,show n-got.length=(n-(got++[((x,.slice ap an ac):LIns×Value)]).length)+1 by omega,rdCode,bd_ok h1,List.map_append];rfl
 ·refine((hc.off.trans hO).alloc ob).grown hg fun b e=>Or.inr ?_;exact(hrow.rg b (List.mem_append_left _ (mem_vB.2 e))).1
def rdCodeN(s:ByteArray)(p:Nat):Rd (List LIns):=bd (rdN s 0 65535 p) fun c q=>rdCode s c [] q
def codeV(lo:Nat):World→List LIns→Value→Prop:=fun w l v=>∃G:InsL,CodeO w lo v G∧G.map (·.1)=l
set_option maxRecDepth 100000 in
set_option maxHeartbeats 8000000 in
theorem rdCodeN_any{W w:World}{E:Nat}{adr:Nat→Addr}{s:ByteArray}{p:Nat}(hs:s.size≤100000)(hB:Ba W w E adr)(h:RS w E s p)(hp:p≤s.size):
 Calls Tryz.prog 218 #[.pointer (some ⟨E,0,none⟩)] w fun e w'=>ReadSt W E adr s (rdCodeN s p) (codeV w.heap.size) zSl w e w':=by
 have hEw:E<w.heap.size:=h.lt;have HN:=hid (rdWithin_any (lo:=0) (hi:=65535) hs hB h hp (by omega) (by omega));have HB:=hid hB;obtain⟨ji,hji,hjj⟩:=Option.map_eq_some_iff.1 Tryz.insI;simp only[Prod.mk.injEq]at hjj;obtain⟨hj0,hj1,hj2⟩:=hjj;clear h hB;match hv:rdN s 0 65535 p with
 |.error (c,a)=>
  have HR:Hid (rdCodeN s p=.error (c,a)):=bd_err hv;have HRV:=hid hv;clear hv;go_enter Tryz.func218,Tryz.ntmps218;go_wp2_with (first
   |(go_at_call 149;refine HN.out.mono ?_;rintro e w1 hr;obtain⟨v,rfl,rfl,hE1,hB1⟩:=hr.isErr HRV.out;have HE1:=hid hE1;clear hr hE1 hB1))
  go_ret2
  exact ReadSt.bad HR.out rfl HE1.out HB.out
 |.ok (n,q)=>
  have hn:=(rdN_ok hv).2.1;have HRV:=hid hv;have HT:Hid (rdCodeN s p=rdCode s n [] q):=bd_ok hv;clear hv;go_enter Tryz.func218,Tryz.ntmps218;go_wp2_with (first
   |(go_at_call 149;refine HN.out.mono ?_;rintro e w1 hr;obtain⟨v,rfl,rfl,hS1,hq1,hE1,hB1⟩:=hr.isOk HRV.out;have HE1:=hid hE1;have HS1:=hid hS1;clear hr hE1 hB1 hS1 HN))
  have hw1:w.heap.size≤w1.heap.size:=HE1.out.size;have hE1:E<w1.heap.size:=HS1.out.lt;have HR0:Hid (RCode E s n (rdCode s n [] q) w1 w1 [] q none 0):=⟨Nat.zero_le _,HS1.out,hq1,RowS.nil _ _,rfl,Nat.zero_le _,Off.refl _ _⟩;generalize rdCode s n [] q=T at*;clear HS1;go_loopw [6,18] (fun lv kv wr=>∃(got:InsL) (p:Nat) (vp:Option Addr) (vc:Nat),lv=.slice vp got.length vc∧kv=.int .i64 ((got.length:Nat):Int)∧Hid (RCode E s n T w1 wr got p vp vc)) (fun _ kv _=>n-(intOf kv).toNat)
  case atStart=>exact⟨[],q,none,0,rfl,rfl,HR0.out⟩
  case round=>
   clear HR0;obtain⟨got,p,vp,vc,rfl,rfl,HC⟩:=hrel;rename World=>wr
   have hle:=HC.out.le;have hpp:=HC.out.hp;have hsm:=HC.out.small;have HEW:Hid (EF E w wr):=HE1.out.trans (HC.out.off.ef (by simp));have HBW:=hid (HB.out.ef HEW.out);have hEr:E<wr.heap.size:=HC.out.rs.lt;by_cases hlt:got.length<n
   ·have HRD:Hid (T=bd (rdIns s p) fun x q=>rdCode s (n-got.length-1) (got.map (·.1)++[x]) q):=by
     show _=_;rw[HC.out.rd];conv=>lhs;rw[show n-got.length=(n-got.length-1)+1 by omega]
     rw[rdCode]
    have HN1:=hid (rdIns_any hs HBW.out HC.out.rs hpp);match hv1:rdIns s p with
    |.error (c,a)=>
     have HTE:Hid (T=.error (c,a)):=by show _=_;rw[HRD.out,bd_err hv1]
     have HV1:=hid hv1;clear hv1;go_wp2_with (first
      |(go_at_call 251;refine HN1.out.mono ?_;rintro e w3 hr;obtain⟨v,rfl,⟨za,zb,zp,zn,zc,rfl⟩,hE3,hB3⟩:=hr.isErr HV1.out;have HE3:=hid hE3;clear hr hE3 hB3 HN1))
     go_ret2
     exact ReadSt.bad (HT.out.trans HTE.out) rfl ((HEW.out.trans HE3.out).trans (EF.of_below ((Below.refl _ _).alloc (Nat.le_refl _) _))) HB.out
    |.ok (x,q1)=>
     have HV1:=hid hv1;clear hv1;go_wp2_with (first
      |(go_at_call 251;refine HN1.out.mono ?_;rintro e w3 hr;obtain⟨v,rfl,⟨ap,an,ac,rfl,hA3⟩,hS3,hq3,hE3,hB3⟩:=hr.isOk HV1.out;have HE3:=hid hE3;have HS3:=hid hS3;have HA3:=hid hA3;have HOX:=hid ((Off.of_ef (bs:=[E]) hE3 (by simp)).alloc (Obj.cells #[.int .i64 x.op,.int .i64 x.a,.slice ap an ac] 152));clear hr hE3 hB3 hS3 hA3 HN1)
      |(at_builtin;refine wpList_append_lies _ rfl (.tmp 28) (.tmp 30) 82 rfl 0 152 ji _ 3 40 Tryz.underlying82 hji hj0 hj1 hj2 rfl (by omega) (.slice vp got.length vc) got.length (got.flatMap insC) rfl ((HC.out.row.off okIns HOX.out (by simp;omega)).own.alloc _) ⟨w3.heap.size+1,0,none⟩ 1 1 [.int .i64 x.op,.int .i64 x.a,.slice ap an ac] rfl rfl (by simpa using World.news_of_block (heap_alloc_new (w3.alloc (Obj.cells #[.int .i64 x.op,.int .i64 x.a,.slice ap an ac] 152)) (Obj.cells #[.int .i64 x.op,.int .i64 x.a,.slice ap an ac] 152))) (by intro u hu;simp at hu;rcases hu with rfl|rfl|rfl<;>rfl) (by omega) (by unfold maxLen;omega) (by omega) (Nat.zero_le _) _ rfl ?_;intro g1 k1 w6 hown hgrow hat hlt1;have HNX:=hid (HC.out.next hlt hE1 HV1.out HA3.out HE3.out ((Below.refl _ _).alloc (Nat.le_refl _) _) HS3.out hgrow hat hlt1 hown);clear hown hgrow hat hlt1))
     exact⟨⟨_,q1,_,_,by rw[List.length_append];rfl,by simp,HNX.out⟩,by simp[intOf];omega⟩
   ·have HTE:Hid (T=.ok (got.map (·.1),p)):=by
     show _=_;rw[HC.out.rd,show n-got.length=0 by omega];rfl
    go_wp2;go_ret2
    exact ReadSt.good (HT.out.trans HTE.out) ⟨got,HC.out.row.low (by omega),rfl⟩ HC.out.rs hpp HEW.out HB.out
end Go.Proofs.YtglihimiidiacaaGreatDoor
namespace Go.Proofs.YtglihimiidiacaaGreatDoor
open Go.RowKit Go.Sort
def globV(lo:Nat):World→LGlob→Value→Prop:=fun w g v=>∃(cp:Option Addr) (cn cc:Nat) (C:InsL),v=.agg #[.string g.name,.int .i64 g.arity,.bool g.exp,.slice cp cn cc]∧CodeO w lo (.slice cp cn cc) C∧C.map (·.1)=g.code
def globZ:Value→Prop:=fun v=>v=.agg #[.string ⟨#[]⟩,.int .i64 0,.bool false,.slice none 0 0]
theorem rdGlob_n(s t:ByteArray)(p:Nat):rdGlob s t p=bd (rdN s 0 20 p) fun a p=>bd (rdN s 0 1 p) fun x p=>bd (rdCodeN s p) fun l p=>.ok (⟨t,a,(x:Int)==1,l⟩,p):=by
 rw[rdGlob];match rdN s 0 20 p with
 |.error e=>rfl
 |.ok (a,p1)=>
  show bd (rdN s 0 1 p1) _=bd (rdN s 0 1 p1) _;match rdN s 0 1 p1 with
  |.error e=>rfl
  |.ok (x,p2)=>
   show bd (rdN s 0 65535 p2) _=bd (rdCodeN s p2) _;rw[rdCodeN];match rdN s 0 65535 p2 with
   |.error e=>rfl
   |.ok (c,p3)=>rfl
theorem Bx4.put{w:World}{b:Nat}{x y z u:Value}(h:Bx4 w b x y z u)(x' y' z' u':Value):Bx4 ((((w.setCell ⟨b,0,none⟩ x').setCell ⟨b,1,none⟩ y').setCell ⟨b,2,none⟩ z').setCell ⟨b,3,none⟩ u') b x' y' z' u':=by
 have h0:Bx4 (w.setCell ⟨b,0,none⟩ x') b x' y z u:=⟨World.cell?_setCell_same _ _ _ h.c0,by rw[World.cell?_setCell_other _ _ _ _ (off_ne (by omega))];exact h.c1,by rw[World.cell?_setCell_other _ _ _ _ (off_ne (by omega))];exact h.c2,by rw[World.cell?_setCell_other _ _ _ _ (off_ne (by omega))];exact h.c3,by rw[World.frozen?_setCell];exact h.f0,by rw[World.frozen?_setCell];exact h.f1,by rw[World.frozen?_setCell];exact h.f2,by rw[World.frozen?_setCell];exact h.f3⟩;exact((h0.set1 y').set2 z').set3 u'
theorem puts4(w:World)(R:Nat)(x y z u:Value):Off [R] w ((((w.setCell ⟨R,0,none⟩ x).setCell ⟨R,1,none⟩ y).setCell ⟨R,2,none⟩ z).setCell ⟨R,3,none⟩ u):=((((Off.refl _ _).set (Or.inl (by simp)) _).set (Or.inl (by simp)) _).set (Or.inl (by simp)) _).set (Or.inl (by simp)) _
theorem rGlobGood{W w wX:World}{E:Nat}{adr:Nat→Addr}{s t:ByteArray}{p q:Nat}{a:Int}{x:Bool}{l:List LIns}{C:InsL}{ap:Option Addr}{an ac:Nat}(hE:E<w.heap.size)(hB:Ba W w E adr)(hr:rdGlob s t p=.ok (⟨t,a,x,l⟩,q))(hS:RS wX E s q)(hq:q≤s.size)(hO:Off [E] w wX)(hA:CodeO wX (w.heap.size+1) (.slice ap an ac) C)(hC:C.map (·.1)=l):
 ReadSt W E adr s (rdGlob s t p) (globV w.heap.size) globZ w (.returned (.tuple #[.agg #[.string t,.int .i64 a,.bool x,.slice ap an ac],.nilIface])) ((((wX.setCell ⟨w.heap.size,0,none⟩ (.string t)).setCell ⟨w.heap.size,1,none⟩ (.int .i64 a)).setCell ⟨w.heap.size,2,none⟩ (.bool x)).setCell ⟨w.heap.size,3,none⟩ (.slice ap an ac)):=by
 have ho:=puts4 wX w.heap.size (.string t) (.int .i64 a) (.bool x) (.slice ap an ac);refine ReadSt.good hr ⟨ap,an,ac,C,rfl,(hA.off okIns ho (by simp)).low (Nat.le_succ _),hC⟩ (hS.off ho (by simp;omega)) hq ?_ hB;exact((((hO.set (Or.inr (Nat.le_refl _)) _).set (Or.inr (Nat.le_refl _)) _).set (Or.inr (Nat.le_refl _)) _).set (Or.inr (Nat.le_refl _)) _).ef (by simp)
theorem rGlobBad{W w wX:World}{E:Nat}{adr:Nat→Addr}{s t:ByteArray}{p:Nat}{c a:Nat}(hB:Ba W w E adr)(hr:rdGlob s t p=.error (c,a))(hO:Off [E] w wX):
 ReadSt W E adr s (rdGlob s t p) (globV w.heap.size) globZ w (.returned (.tuple #[.agg #[.string ⟨#[]⟩,.int .i64 0,.bool false,.slice none 0 0],.iface 123 (.agg #[.iface 443 (.pointer (some (adr (eIx c)))),.int .i64 0,.int .i64 (a:Int)])])) ((((wX.setCell ⟨w.heap.size,0,none⟩ (.string ⟨#[]⟩)).setCell ⟨w.heap.size,1,none⟩ (.int .i64 0)).setCell ⟨w.heap.size,2,none⟩ (.bool false)).setCell ⟨w.heap.size,3,none⟩ (.slice none 0 0)):=by
 refine ReadSt.bad hr rfl ?_ hB;exact((((hO.set (Or.inr (Nat.le_refl _)) _).set (Or.inr (Nat.le_refl _)) _).set (Or.inr (Nat.le_refl _)) _).set (Or.inr (Nat.le_refl _)) _).ef (by simp)
set_option maxRecDepth 100000 in
set_option maxHeartbeats 8000000 in
theorem rdGlob_any{W w:World}{E:Nat}{adr:Nat→Addr}{s t:ByteArray}{p:Nat}(hs:s.size≤100000)(hB:Ba W w E adr)(h:RS w E s p)(hp:p≤s.size)(ht:t.size≤16):
 Calls Tryz.prog 150 #[.pointer (some ⟨E,0,none⟩),.string t] w fun e w'=>ReadSt W E adr s (rdGlob s t p) (globV w.heap.size) globZ w e w':=by
 have hE:E<w.heap.size:=h.lt;have HN:Hid (∀ob,Calls Tryz.prog 149 #[.pointer (some ⟨E,0,none⟩),.int .i64 0,.int .i64 20] (w.alloc ob) fun e w'=>ReadSt W E adr s (rdN s 0 20 p) isInt zInt (w.alloc ob) e w'):=fun ob=>rdWithin_any (lo:=0) (hi:=20) hs (hB.keep ((Below.refl _ _).alloc (Nat.le_refl _) _)) (h.keep ((Below.refl _ _).alloc (Nat.le_refl _) _)) hp (by omega) (by omega);have HB:=hid hB;have HG:=hid (rdGlob_n s t p);clear h hB;match hv:rdN s 0 20 p with
 |.error (c,a)=>
  have HR:Hid (rdGlob s t p=.error (c,a)):=by show _=_;rw[HG.out,bd_err hv]
  have HRV:=hid hv;clear hv;go_enter Tryz.func150,Tryz.ntmps150;go_wp2_with (first
   |(go_at_call 149;refine(HN.out _).mono ?_;rintro e w1 hr;obtain⟨v,rfl,rfl,hE1,hB1⟩:=hr.isErr HRV.out;have HO1:=hid (((Off.refl [E] w).alloc _).trans (Off.of_ef hE1 (by simp)));have HR1:=hid ((Bx4.new w _ _ _ _ _).ef hE1 (by omega));obtain⟨r0,r1,r2,r3,k0,k1,k2,k3⟩:=id HR1.out;have hw1:w.heap.size<w1.heap.size:=HR1.out.lt;clear hr hE1 hB1 HN))
  obtain⟨s0,s1,s2,s3,-,-,-,-⟩:=HR1.out.put (.string ⟨#[]⟩) (.int .i64 0) (.bool false) (.slice none 0 0);refine bodyPost_ret (v:=.tuple #[.agg #[.string ⟨#[]⟩,.int .i64 0,.bool false,.slice none 0 0],.iface 123 (.agg #[.iface 443 (.pointer (some (adr (eIx c)))),.int .i64 0,.int .i64 (a:Int)])]) (by simp[results,Tryz.results150,go_sem,s0,s1,s2,s3]) rfl ?_;exact rGlobBad HB.out HR.out HO1.out
 |.ok (ar,q1)=>
  have hq1:=(rdN_ok hv).2.2.2;have HRV:=hid hv;have HG1:Hid (rdGlob s t p=bd (rdN s 0 1 q1) fun x p=>bd (rdCodeN s p) fun l p=>.ok (⟨t,ar,(x:Int)==1,l⟩,p)):=by show _=_;rw[HG.out,bd_ok hv]
  have HW1:Hid (∀w',RS w' E s q1→Ba W w' E adr→Calls Tryz.prog 149 #[.pointer (some ⟨E,0,none⟩),.int .i64 0,.int .i64 1] w' fun e w''=>ReadSt W E adr s (rdN s 0 1 q1) isInt zInt w' e w''):=fun w' hS hB=>rdWithin_any (lo:=0) (hi:=1) hs hB hS hq1 (by omega) (by omega);clear hv HG;match hv2:rdN s 0 1 q1 with
  |.error (c,a)=>
   have HR:Hid (rdGlob s t p=.error (c,a)):=by show _=_;rw[HG1.out,bd_err hv2]
   have HV2:=hid hv2;clear hv2;go_enter Tryz.func150,Tryz.ntmps150;go_wp2_with (first
    |(go_at_call 149;refine(HN.out _).mono ?_;rintro e w1 hr;obtain⟨v,rfl,rfl,hS1,hqx,hE1,hB1⟩:=hr.isOk HRV.out;have HO1:=hid (((Off.refl [E] w).alloc _).trans (Off.of_ef hE1 (by simp)));have HR1:=hid ((Bx4.new w _ _ _ _ _).ef hE1 (by omega));have HX:=hid (HW1.out _ hS1 hB1);clear hr hE1 hB1 hS1 HN)
    |(go_at_call 149;refine HX.out.mono ?_;rintro e w2 hr;obtain⟨v,rfl,rfl,hE2,hB2⟩:=hr.isErr HV2.out;have HO2:=hid (HO1.out.trans (Off.of_ef hE2 (by simp)));have HR2:=hid (HR1.out.ef hE2 (by omega));obtain⟨r0,r1,r2,r3,k0,k1,k2,k3⟩:=id HR2.out;have hw2:w.heap.size<w2.heap.size:=HR2.out.lt;clear hr hE2 hB2 HX))
   obtain⟨s0,s1,s2,s3,-,-,-,-⟩:=HR2.out.put (.string ⟨#[]⟩) (.int .i64 0) (.bool false) (.slice none 0 0);refine bodyPost_ret (v:=.tuple #[.agg #[.string ⟨#[]⟩,.int .i64 0,.bool false,.slice none 0 0],.iface 123 (.agg #[.iface 443 (.pointer (some (adr (eIx c)))),.int .i64 0,.int .i64 (a:Int)])]) (by simp[results,Tryz.results150,go_sem,s0,s1,s2,s3]) rfl ?_;exact rGlobBad HB.out HR.out HO2.out
  |.ok (ex,q2)=>
   have hq2:=(rdN_ok hv2).2.2.2;have HV2:=hid hv2;have HG2:Hid (rdGlob s t p=bd (rdCodeN s q2) fun l p=>.ok (⟨t,ar,(ex:Int)==1,l⟩,p)):=by show _=_;rw[HG1.out,bd_ok hv2]
   have HW2:Hid (∀w',RS w' E s q2→Ba W w' E adr→Calls Tryz.prog 218 #[.pointer (some ⟨E,0,none⟩)] w' fun e w''=>ReadSt W E adr s (rdCodeN s q2) (codeV w'.heap.size) zSl w' e w''):=fun w' hS hB=>rdCodeN_any hs hB hS hq2;clear hv2 HG1;match hv3:rdCodeN s q2 with
   |.error (c,a)=>
    have HR:Hid (rdGlob s t p=.error (c,a)):=by show _=_;rw[HG2.out,bd_err hv3]
    have HV3:=hid hv3;clear hv3;go_enter Tryz.func150,Tryz.ntmps150;go_wp2_with (first
     |(go_at_call 149;refine(HN.out _).mono ?_;rintro e w1 hr;obtain⟨v,rfl,rfl,hS1,hqx,hE1,hB1⟩:=hr.isOk HRV.out;have HO1:=hid (((Off.refl [E] w).alloc _).trans (Off.of_ef hE1 (by simp)));have HR1:=hid ((Bx4.new w _ _ _ _ _).ef hE1 (by omega));have HX:=hid (HW1.out _ hS1 hB1);clear hr hE1 hB1 hS1 HN)
     |(go_at_call 149;refine HX.out.mono ?_;rintro e w2 hr;obtain⟨v,rfl,rfl,hS2,hqy,hE2,hB2⟩:=hr.isOk HV2.out;have HO2:=hid (HO1.out.trans (Off.of_ef hE2 (by simp)));have HR2:=hid (HR1.out.ef hE2 (by omega));have HY:=hid (HW2.out _ hS2 hB2);clear hr hE2 hB2 hS2 HX)
     |(go_at_call 218;refine HY.out.mono ?_;rintro e w3 hr;obtain⟨v,rfl,rfl,hE3,hB3⟩:=hr.isErr HV3.out;have HO3:=hid (HO2.out.trans (Off.of_ef hE3 (by simp)));have HR3:=hid (HR2.out.ef hE3 (by omega));obtain⟨r0,r1,r2,r3,k0,k1,k2,k3⟩:=id HR3.out;have hw3:w.heap.size<w3.heap.size:=HR3.out.lt;clear hr hE3 hB3 HY))
    obtain⟨s0,s1,s2,s3,-,-,-,-⟩:=HR3.out.put (.string ⟨#[]⟩) (.int .i64 0) (.bool false) (.slice none 0 0);refine bodyPost_ret (v:=.tuple #[.agg #[.string ⟨#[]⟩,.int .i64 0,.bool false,.slice none 0 0],.iface 123 (.agg #[.iface 443 (.pointer (some (adr (eIx c)))),.int .i64 0,.int .i64 (a:Int)])]) (by simp[results,Tryz.results150,go_sem,s0,s1,s2,s3]) rfl ?_;exact rGlobBad HB.out HR.out HO3.out
   |.ok (l,q3)=>
    have HR:Hid (rdGlob s t p=.ok (⟨t,ar,(ex:Int)==1,l⟩,q3)):=by show _=_;rw[HG2.out,bd_ok hv3]
    have HV3:=hid hv3;have HCL:=hid (fun w=>Clone_any t w (by omega));clear hv3;go_enter Tryz.func150,Tryz.ntmps150;go_wp2_with (first
     |(go_at_call 149;refine(HN.out _).mono ?_;rintro e w1 hr;obtain⟨v,rfl,rfl,hS1,hqx,hE1,hB1⟩:=hr.isOk HRV.out;have HO1:=hid (((Off.refl [E] w).alloc _).trans (Off.of_ef hE1 (by simp)));have HR1:=hid ((Bx4.new w _ _ _ _ _).ef hE1 (by omega));have HX:=hid (HW1.out _ hS1 hB1);clear hr hE1 hB1 hS1 HN)
     |(go_at_call 149;refine HX.out.mono ?_;rintro e w2 hr;obtain⟨v,rfl,rfl,hS2,hqy,hE2,hB2⟩:=hr.isOk HV2.out;have HO2:=hid (HO1.out.trans (Off.of_ef hE2 (by simp)));have HR2:=hid (HR1.out.ef hE2 (by omega));have hw2:w.heap.size<w2.heap.size:=HR2.out.lt;have HY:=hid (HW2.out _ hS2 hB2);clear hr hE2 hB2 hS2 HX)
     |(go_at_call 218;refine HY.out.mono ?_;rintro e w3 hr;obtain⟨v,rfl,⟨C,hC3,hCm⟩,hS3,hqz,hE3,hB3⟩:=hr.isOk HV3.out;obtain⟨cp,cc,rfl⟩:=hC3.slice;have HC3:=hid hC3;have HCM:=hid hCm;have HS3:=hid hS3;have HO3:=hid (HO2.out.trans (Off.of_ef hE3 (by simp)));have HR3:=hid (HR2.out.ef hE3 (by omega));clear hr hE3 hB3 hS3 hC3 hCm HY)
     |(go_at_call 46;refine(HCL.out _).mono ?_;rintro e w4 ⟨rfl,hb4⟩;have HR4:=hid (HR3.out.keep hb4);have HB4:=hid hb4;obtain⟨r0,r1,r2,r3,k0,k1,k2,k3⟩:=id HR4.out;have hw4:w.heap.size<w4.heap.size:=HR4.out.lt;clear hb4))
    obtain⟨s0,s1,s2,s3,-,-,-,-⟩:=HR4.out.put (.string t) (.int .i64 (ar:Int)) (.bool ((ex:Int)==1)) (.slice cp (List.length C) cc);refine bodyPost_ret (v:=.tuple #[.agg #[.string t,.int .i64 (ar:Int),.bool ((ex:Int)==1),.slice cp (List.length C) cc],.nilIface]) (by simp[results,Tryz.results150,go_sem,s0,s1,s2,s3]) rfl ?_;exact rGlobGood hE HB.out HR.out (HS3.out.keep HB4.out) hqz (HO3.out.trans (Off.of_below HB4.out)) ((HC3.out.keep okIns HB4.out).low (by omega)) HCM.out
end Go.Proofs.YtglihimiidiacaaGreatDoor
namespace Go.Proofs.YtglihimiidiacaaGreatDoor
open Go.RowKit Go.Sort
structure RImp (E:Nat) (s:ByteArray) (n:Nat) (T:Rd (List LImp)) (W2 wr:World) (got:List LImp) (last:ByteArray) (p:Nat) (vp:Option Addr) (vc:Nat):Prop where
 le:got.length≤n
 rs:RS wr E s p
 hp:p≤s.size
 row:ImpsO wr W2.heap.size (.slice vp got.length vc) got
 rd:T=rdImps s (n-got.length) got last p
 small:got.length≤p
 off:Off [E] W2 wr
theorem RImp.next{E:Nat}{s:ByteArray}{n:Nat}{T:Rd (List LImp)}{W2 wr X0 w6:World}{got:List LImp}{last t:ByteArray}{p q q2 a:Nat}{vp:Option Addr}{vc:Nat}{ob:Obj}(hc:RImp E s n T W2 wr got last p vp vc)(hlt:got.length<n)(hE:E<W2.heap.size)(h1:rdNameB s last [] p=.ok (t,q))(h2:rdN s 0 20 q=.ok (a,q2))
 (hO:Off [E] wr X0) (hS:RS X0 E s q2) (hg:(X0.alloc ob).grownBy w6 (Value.slice vp got.length vc).ownBlock) {g c:Nat} (hat:(Value.slice vp got.length vc).ownBlock=some g∨g=(X0.alloc ob).heap.size) (hlg:g<w6.heap.size) (hown:w6.ownsRow 0 81 2 (.slice (some ⟨g,0,none⟩) (got.length+1) c) (got.length+1) (got.flatMap impC++[.string t,.int .i64 (a:Int)])):
 RImp E s n T W2 w6 (got++[⟨t,a⟩]) t q2 (some ⟨g,0,none⟩) c:=by
 have hl:(got++[(⟨t,a⟩:LImp)]).length=got.length+1:=by simp
 have hrow:=hc.row.off okImp hO (by simp;omega);have hb:Below X0.heap.size X0 (X0.alloc ob):=(Below.refl _ _).alloc (Nat.le_refl _) _;have hsz:W2.heap.size≤X0.heap.size:=Nat.le_trans hc.off.size hO.size;have k1:=rdName_ok (rdNameB_ok h1).1;have k2:=rdN_ok h2;have hsm:=hc.small;refine⟨by omega,hS.of_block (stays_alloc_app hg hS.lt hrow hE),k2.2.2.2,?_,?_,by omega,?_⟩
 ·rw[hl];exact hrow.push okImp hsz (fun b hb'=>hb.block b (hrow.rg b hb').2) hb.size trivial (fun b hb'=>by cases hb') List.nodup_nil hg rfl hat hlg hown
 ·rw[hc.rd,show n-got.length=(n-(got++[(⟨t,a⟩:LImp)]).length)+1 by omega,rdImps,bd_ok h1,bd_ok h2]
 ·refine((hc.off.trans hO).alloc ob).grown hg fun b e=>Or.inr ?_;exact(hrow.rg b (List.mem_append_left _ (mem_vB.2 e))).1
def rdImpsN(s:ByteArray)(p:Nat):Rd (List LImp):=bd (rdV s p) fun n q=>rdImps s n [] ⟨#[]⟩ q
theorem noImps(w:World):ImpsAt w (.slice none 0 0) []:=⟨none,0,rfl,(show(0:Nat)<_ by omega),fun i hi=>absurd hi (by simp)⟩
theorem noAway(E:Nat):Away E (.slice none 0 0):=by intro p n c e a ha;cases e;cases ha
set_option maxRecDepth 100000 in
set_option maxHeartbeats 8000000 in
theorem rdImpsN_any{W w:World}{E:Nat}{adr:Nat→Addr}{s:ByteArray}{p:Nat}(hs:s.size≤100000)(hB:Ba W w E adr)(h:RS w E s p)(hp:p≤s.size):
 Calls Tryz.prog 101 #[.pointer (some ⟨E,0,none⟩)] w fun e w'=>ReadSt W E adr s (rdImpsN s p) (fun w' l v=>ImpsO w' w.heap.size v l) zSl w e w':=by
 have hEw:E<w.heap.size:=h.lt;have HN:=hid (rdNumber_any hs hB h hp);have HB:=hid hB;obtain⟨ii,hii,hij⟩:=Option.map_eq_some_iff.1 Tryz.impI;simp only[Prod.mk.injEq]at hij;obtain⟨hi0,hi1,hi2⟩:=hij;clear h hB;match hv:rdV s p with
 |.error (c,a)=>
  have HR:Hid (rdImpsN s p=.error (c,a)):=bd_err hv;have HRV:=hid hv;clear hv;go_enter Tryz.func101,Tryz.ntmps101;go_wp2_with (first
   |(go_at_call 146;refine HN.out.mono ?_;rintro e w1 hr;obtain⟨v,rfl,rfl,hE1,hB1⟩:=hr.isErr HRV.out;have HE1:=hid hE1;clear hr hE1 hB1))
  go_ret2
  exact ReadSt.bad HR.out rfl HE1.out HB.out
 |.ok (n,q)=>
  have hn:=(rdV_ok hv).1;have HRV:=hid hv;have HT:Hid (rdImpsN s p=rdImps s n [] ⟨#[]⟩ q):=bd_ok hv;clear hv;go_enter Tryz.func101,Tryz.ntmps101;go_wp2_with (first
   |(go_at_call 146;refine HN.out.mono ?_;rintro e w1 hr;obtain⟨v,rfl,rfl,hS1,hq1,hE1,hB1⟩:=hr.isOk HRV.out;have HE1:=hid hE1;have HS1:=hid hS1;clear hr hE1 hB1 hS1 HN))
  have hw1:w.heap.size≤w1.heap.size:=HE1.out.size;have hE1:E<w1.heap.size:=HS1.out.lt;have HR0:Hid (RImp E s n (rdImps s n [] ⟨#[]⟩ q) w1 w1 [] ⟨#[]⟩ q none 0):=⟨Nat.zero_le _,HS1.out,hq1,RowS.nil _ _,rfl,Nat.zero_le _,Off.refl _ _⟩;generalize rdImps s n [] ⟨#[]⟩ q=T at*;clear HS1;go_loopw [6,7,20] (fun lv tv kv wr=>∃(got:List LImp) (last:ByteArray) (p:Nat) (vp:Option Addr) (vc:Nat),lv=.slice vp got.length vc∧tv=.string last∧kv=.int .u64 ((got.length:Nat):Int)∧Hid (RImp E s n T w1 wr got last p vp vc)) (fun _ _ kv _=>n-(intOf kv).toNat)
  case atStart=>exact⟨[],_,q,none,0,rfl,rfl,rfl,HR0.out⟩
  case round=>
   clear HR0;obtain⟨got,last,p,vp,vc,rfl,rfl,rfl,HC⟩:=hrel;rename World=>wr
   have hle:=HC.out.le;have hpp:=HC.out.hp;have hsm:=HC.out.small;have HEW:Hid (EF E w wr):=HE1.out.trans (HC.out.off.ef (by simp));have HBW:=hid (HB.out.ef HEW.out);have hEr:E<wr.heap.size:=HC.out.rs.lt;by_cases hlt:got.length<n
   ·have HRD:Hid (T=bd (rdNameB s last [] p) fun t q=>bd (rdN s 0 20 q) fun a r=>rdImps s (n-got.length-1) (got++[⟨t,a⟩]) t r):=by
     show _=_;rw[HC.out.rd];conv=>lhs;rw[show n-got.length=(n-got.length-1)+1 by omega]
     rw[rdImps]
    have HN1:=hid (rdBehind_any (last:=last) hs HBW.out HC.out.rs hpp (noImps wr) (noAway E) (RI.nil last).1);match hv1:rdNameB s last [] p with
    |.error (c,a)=>
     have HTE:Hid (T=.error (c,a)):=by show _=_;rw[HRD.out,bd_err hv1]
     have HV1:=hid hv1;clear hv1;go_wp2_with (first
      |(go_at_call 148;refine HN1.out.mono ?_;rintro e w3 hr;obtain⟨v,rfl,rfl,hE3,hB3⟩:=hr.isErr HV1.out;have HE3:=hid hE3;clear hr hE3 hB3 HN1))
     go_ret2
     exact ReadSt.bad (HT.out.trans HTE.out) rfl (HEW.out.trans HE3.out) HB.out
    |.ok (t,q1)=>
     have hq1:=(rdName_ok (rdNameB_ok hv1).1).2.1;have ht16:=(rdName_ok (rdNameB_ok hv1).1).2.2.2.1;have HV1:=hid hv1;have HRD2:Hid (T=bd (rdN s 0 20 q1) fun a r=>rdImps s (n-got.length-1) (got++[⟨t,a⟩]) t r):=by show _=_;rw[HRD.out,bd_ok hv1]
     have HCL:=hid (fun w=>Clone_any t w (by omega));clear hv1 HRD;match hv2:rdN s 0 20 q1 with
     |.error (c,a)=>
      have HTE:Hid (T=.error (c,a)):=by show _=_;rw[HRD2.out,bd_err hv2]
      have HV2:=hid hv2;clear hv2;go_wp2_with (first
       |(go_at_call 148;refine HN1.out.mono ?_;rintro e w3 hr;obtain⟨v,rfl,rfl,hS3,hq3,hE3,hB3⟩:=hr.isOk HV1.out;have HE3:=hid hE3;have HN2:=hid (rdWithin_any (lo:=0) (hi:=20) hs hB3 hS3 hq1 (by omega) (by omega));clear hr hS3 hE3 hB3 HN1)
       |(go_at_call 149;refine HN2.out.mono ?_;rintro e w5 hr;obtain⟨v,rfl,rfl,hE5,hB5⟩:=hr.isErr HV2.out;have HE5:=hid hE5;clear hr hE5 hB5 HN2))
      go_ret2
      exact ReadSt.bad (HT.out.trans HTE.out) rfl ((HEW.out.trans HE3.out).trans HE5.out) HB.out
     |.ok (a,q2)=>
      have hq2:=(rdN_ok hv2).2.2.2;have HV2:=hid hv2;clear hv2;go_wp2_with (first
       |(go_at_call 148;refine HN1.out.mono ?_;rintro e w3 hr;obtain⟨v,rfl,rfl,hS3,hq3,hE3,hB3⟩:=hr.isOk HV1.out;have HE3:=hid hE3;have HN2:=hid (rdWithin_any (lo:=0) (hi:=20) hs hB3 hS3 hq1 (by omega) (by omega));clear hr hS3 hE3 hB3 HN1)
       |(go_at_call 149;refine HN2.out.mono ?_;rintro e w5 hr;obtain⟨v,rfl,rfl,hS5,hq5,hE5,hB5⟩:=hr.isOk HV2.out;have HS5:=hid hS5;have HO5:=hid ((Off.of_ef (bs:=[E]) HE3.out (by simp)).trans (Off.of_ef hE5 (by simp)));clear hr hS5 hE5 hB5 HN2)
       |(go_at_call 46;refine(HCL.out _).mono ?_;rintro e w6 ⟨rfl,hb6⟩;have HS6:=hid (HS5.out.keep hb6);have HO6:=hid (HO5.out.trans (Off.of_below hb6));clear hb6)
       |(at_builtin;refine wpList_append_lies _ rfl (.tmp 39) (.tmp 44) 38 rfl 0 81 ii _ 2 24 Tryz.underlying38 hii hi0 hi1 hi2 rfl (by omega) (.slice vp got.length vc) got.length (got.flatMap impC) rfl ((HC.out.row.off okImp HO6.out (by simp;omega)).own.alloc _) ⟨w6.heap.size,0,none⟩ 1 1 [.string t,.int .i64 (a:Int)] rfl rfl (by simpa using World.news_of_block (heap_alloc_new w6 (Obj.cells #[.string t,.int .i64 (a:Int)] 81))) (by intro u hu;simp at hu;rcases hu with rfl|rfl<;>rfl) (by omega) (by unfold maxLen;omega) (by omega) (Nat.zero_le _) _ rfl ?_;intro g1 k1 w7 hown hgrow hat hlt1;have HNX:=hid (HC.out.next hlt hE1 HV1.out HV2.out HO6.out HS6.out hgrow hat hlt1 hown);clear hown hgrow hat hlt1))
      exact⟨⟨_,_,q2,_,_,by rw[List.length_append];rfl,rfl,by simp,HNX.out⟩,by simp[intOf];omega⟩
   ·have HTE:Hid (T=.ok (got,p)):=by
     show _=_;rw[HC.out.rd,show n-got.length=0 by omega];rfl
    go_wp2;go_ret2
    exact ReadSt.good (HT.out.trans HTE.out) (HC.out.row.low (by omega)) HC.out.rs hpp HEW.out HB.out
end Go.Proofs.YtglihimiidiacaaGreatDoor
namespace Go.Proofs.YtglihimiidiacaaGreatDoor
open Go.RowKit Go.Sort
structure RGlob (E:Nat) (s:ByteArray) (imps:List LImp) (n:Nat) (T:Rd (List LGlob)) (W2 wr:World) (got:GlobL) (last:ByteArray) (p:Nat) (vp:Option Addr) (vc:Nat):Prop where
 le:got.length≤n
 rs:RS wr E s p
 hp:p≤s.size
 row:GlobsO wr W2.heap.size (.slice vp got.length vc) got
 rd:T=rdGlobs s imps (n-got.length) (got.map (·.1)) last p
 small:got.length≤p
 off:Off [E] W2 wr
theorem RGlob.next{E:Nat}{s:ByteArray}{imps:List LImp}{n:Nat}{T:Rd (List LGlob)}{W2 wr w3 w5 X0 w6:World}{got:GlobL}{last t:ByteArray}{p q q2:Nat}{vp:Option Addr}{vc:Nat}{ob:Obj}{x:LGlob}{cp:Option Addr}{cn cc:Nat}{C:InsL}(hc:RGlob E s imps n T W2 wr got last p vp vc)(hlt:got.length<n)(hE:E<W2.heap.size)(h1:rdNameB s last imps p=.ok (t,q))(h2:rdGlob s t q=.ok (x,q2))
 (hE3:EF E wr w3) (hE5:EF E w3 w5) (hX:Below w5.heap.size w5 X0) (hS:RS w5 E s q2) (hC:CodeO w5 w3.heap.size (.slice cp cn cc) C) (hCm:C.map (·.1)=x.code) (hg:(X0.alloc ob).grownBy w6 (Value.slice vp got.length vc).ownBlock) {g c:Nat} (hat:(Value.slice vp got.length vc).ownBlock=some g∨g=(X0.alloc ob).heap.size) (hlg:g<w6.heap.size)
 (hown:w6.ownsRow 0 84 4 (.slice (some ⟨g,0,none⟩) (got.length+1) c) (got.length+1) (got.flatMap globC++[.string x.name,.int .i64 x.arity,.bool x.exp,.slice cp cn cc])):
 RGlob E s imps n T W2 w6 (got++[(x,.slice cp cn cc,C)]) t q2 (some ⟨g,0,none⟩) c:=by
 have hl:(got++[((x,.slice cp cn cc,C):LGlob×Value×InsL)]).length=got.length+1:=by simp
 have hO:Off [E] wr X0:=(Off.of_ef (hE3.trans hE5) (by simp)).trans (Off.of_below hX);have hrow:=hc.row.off okGlob hO (by simp;omega);have hb:Below X0.heap.size X0 (X0.alloc ob):=(Below.refl _ _).alloc (Nat.le_refl _) _;have hbX:Below w5.heap.size w5 (X0.alloc ob):=hX.trans (by have:=hX.size;exact(Below.refl _ _).alloc this _);have k1:=rdName_ok (rdNameB_ok h1).1;have k2:=rdGlob_ok h2 k1.2.2.2.1;have hsm:=hc.small;have hs3:=hE3.size;refine⟨by omega,(hS.keep hX).of_block (stays_alloc_app hg (hS.keep hX).lt hrow hE),k2.2.1,?_,?_,by omega,?_⟩
 ·rw[hl];refine hc.row.push okGlob hc.off.size (w1:=X0.alloc ob) (x:=(x,.slice cp cn cc,C)) (fun b hb'=>?_) (Nat.le_trans hO.size hb.size) ⟨(hC.keep okIns hbX).low (Nat.zero_le _),hCm⟩ (fun b hb'=>?_) hC.nd hg rfl hat hlg hown
  ·have h1:=hc.row.rg b hb';have h2:=hO.size;rw[hb.block b (by omega)];exact hO.block b h1.2 (by simp;omega)
  ·have h1:=hC.rg b hb';have h2:=hX.size;have h3:=hb.size;omega
 ·rw[hc.rd,show n-got.length=(n-(got++[((x,.slice cp cn cc,C):LGlob×Value×InsL)]).length)+1 by omega,rdGlobs,bd_ok h1,bd_ok h2,List.map_append];rfl
 ·refine((hc.off.trans hO).alloc ob).grown hg fun b e=>Or.inr ?_;exact(hrow.rg b (List.mem_append_left _ (mem_vB.2 e))).1
def rdGlobsN(s:ByteArray)(imps:List LImp)(p:Nat):Rd (List LGlob):=bd (rdV s p) fun n q=>rdGlobs s imps n [] ⟨#[]⟩ q
def globsV(lo:Nat):World→List LGlob→Value→Prop:=fun w l v=>∃G:GlobL,GlobsO w lo v G∧G.map (·.1)=l
set_option maxRecDepth 100000 in
set_option maxHeartbeats 8000000 in
theorem rdGlobsN_any{W w:World}{E:Nat}{adr:Nat→Addr}{s:ByteArray}{imps:List LImp}{iv:Value}{p:Nat}(hs:s.size≤100000)(hB:Ba W w E adr)(h:RS w E s p)(hp:p≤s.size)(hI:ImpsAt w iv imps)(hA:Away E iv)(hRi:Rising imps):
 Calls Tryz.prog 102 #[.pointer (some ⟨E,0,none⟩),iv] w fun e w'=>ReadSt W E adr s (rdGlobsN s imps p) (globsV w.heap.size) zSl w e w':=by
 have hEw:E<w.heap.size:=h.lt;have HN:=hid (rdNumber_any hs hB h hp);have HB:=hid hB;have HI:Hid (∀w',EF E w w'→ImpsAt w' iv imps):=fun w' hE=>hI.ef hE hA;have HA:=hid hA;have HRI:=hid hRi;obtain⟨ip,ic,rfl,hilen,-⟩:=hI.open;obtain⟨gi,hgi,hgg⟩:=Option.map_eq_some_iff.1 Tryz.globI;simp only[Prod.mk.injEq]at hgg;obtain⟨hh0,hh1,hh2⟩:=hgg;clear h hB hI hA hRi;match hv:rdV s p with
 |.error (c,a)=>
  have HR:Hid (rdGlobsN s imps p=.error (c,a)):=bd_err hv;have HRV:=hid hv;clear hv;go_enter Tryz.func102,Tryz.ntmps102;go_wp2_with (first
   |(go_at_call 146;refine HN.out.mono ?_;rintro e w1 hr;obtain⟨v,rfl,rfl,hE1,hB1⟩:=hr.isErr HRV.out;have HE1:=hid hE1;clear hr hE1 hB1))
  go_ret2
  exact ReadSt.bad HR.out rfl HE1.out HB.out
 |.ok (n,q)=>
  have hn:=(rdV_ok hv).1;have HRV:=hid hv;have HT:Hid (rdGlobsN s imps p=rdGlobs s imps n [] ⟨#[]⟩ q):=bd_ok hv;clear hv;go_enter Tryz.func102,Tryz.ntmps102;go_wp2_with (first
   |(go_at_call 146;refine HN.out.mono ?_;rintro e w1 hr;obtain⟨v,rfl,rfl,hS1,hq1,hE1,hB1⟩:=hr.isOk HRV.out;have HE1:=hid hE1;have HS1:=hid hS1;clear hr hE1 hB1 hS1 HN))
  have hw1:w.heap.size≤w1.heap.size:=HE1.out.size;have hE1:E<w1.heap.size:=HS1.out.lt;have HR0:Hid (RGlob E s imps n (rdGlobs s imps n [] ⟨#[]⟩ q) w1 w1 [] ⟨#[]⟩ q none 0):=⟨Nat.zero_le _,HS1.out,hq1,RowS.nil _ _,rfl,Nat.zero_le _,Off.refl _ _⟩;generalize rdGlobs s imps n [] ⟨#[]⟩ q=T at*;clear HS1;go_loopw [8,9,22] (fun lv tv kv wr=>∃(got:GlobL) (last:ByteArray) (p:Nat) (vp:Option Addr) (vc:Nat),lv=.slice vp got.length vc∧tv=.string last∧kv=.int .u64 ((got.length:Nat):Int)∧Hid (RGlob E s imps n T w1 wr got last p vp vc)) (fun _ _ kv _=>n-(intOf kv).toNat)
  case atStart=>exact⟨[],_,q,none,0,rfl,rfl,rfl,HR0.out⟩
  case round=>
   clear HR0;obtain⟨got,last,p,vp,vc,rfl,rfl,rfl,HC⟩:=hrel;rename World=>wr
   have hle:=HC.out.le;have hpp:=HC.out.hp;have hsm:=HC.out.small;have HEW:Hid (EF E w wr):=HE1.out.trans (HC.out.off.ef (by simp));have HBW:=hid (HB.out.ef HEW.out);have hEr:E<wr.heap.size:=HC.out.rs.lt;by_cases hlt:got.length<n
   ·have HRD:Hid (T=bd (rdNameB s last imps p) fun t q=>bd (rdGlob s t q) fun g r=>rdGlobs s imps (n-got.length-1) (got.map (·.1)++[g]) t r):=by
     show _=_;rw[HC.out.rd];conv=>lhs;rw[show n-got.length=(n-got.length-1)+1 by omega]
     rw[rdGlobs]
    have HN1:=hid (rdBehind_any (last:=last) hs HBW.out HC.out.rs hpp (HI.out _ HEW.out) HA.out HRI.out);match hv1:rdNameB s last imps p with
    |.error (c,a)=>
     have HTE:Hid (T=.error (c,a)):=by show _=_;rw[HRD.out,bd_err hv1]
     have HV1:=hid hv1;clear hv1;go_wp2_with (first
      |(go_at_call 148;refine HN1.out.mono ?_;rintro e w3 hr;obtain⟨v,rfl,rfl,hE3,hB3⟩:=hr.isErr HV1.out;have HE3:=hid hE3;clear hr hE3 hB3 HN1))
     go_ret2
     exact ReadSt.bad (HT.out.trans HTE.out) rfl (HEW.out.trans HE3.out) HB.out
    |.ok (t,q1)=>
     have hq1:=(rdName_ok (rdNameB_ok hv1).1).2.1;have ht16:=(rdName_ok (rdNameB_ok hv1).1).2.2.2.1;have HV1:=hid hv1;have HRD2:Hid (T=bd (rdGlob s t q1) fun g r=>rdGlobs s imps (n-got.length-1) (got.map (·.1)++[g]) t r):=by show _=_;rw[HRD.out,bd_ok hv1]
     clear hv1 HRD;match hv2:rdGlob s t q1 with
     |.error (c,a)=>
      have HTE:Hid (T=.error (c,a)):=by show _=_;rw[HRD2.out,bd_err hv2]
      have HV2:=hid hv2;clear hv2;go_wp2_with (first
       |(go_at_call 148;refine HN1.out.mono ?_;rintro e w3 hr;obtain⟨v,rfl,rfl,hS3,hq3,hE3,hB3⟩:=hr.isOk HV1.out;have HE3:=hid hE3;have HN2:=hid (rdGlob_any (t:=t) hs hB3 hS3 hq1 ht16);clear hr hS3 hE3 hB3 HN1)
       |(go_at_call 150;refine HN2.out.mono ?_;rintro e w5 hr;obtain⟨v,rfl,rfl,hE5,hB5⟩:=hr.isErr HV2.out;have HE5:=hid hE5;clear hr hE5 hB5 HN2))
      go_ret2
      exact ReadSt.bad (HT.out.trans HTE.out) rfl (((HEW.out.trans HE3.out).trans HE5.out).trans (EF.of_below ((Below.refl _ _).alloc (Nat.le_refl _) _))) HB.out
     |.ok (x,q2)=>
      have HV2:=hid hv2;clear hv2;go_wp2_with (first
       |(go_at_call 148;refine HN1.out.mono ?_;rintro e w3 hr;obtain⟨v,rfl,rfl,hS3,hq3,hE3,hB3⟩:=hr.isOk HV1.out;have HE3:=hid hE3;have HN2:=hid (rdGlob_any (t:=t) hs hB3 hS3 hq1 ht16);clear hr hS3 hE3 hB3 HN1)
       |(go_at_call 150;refine HN2.out.mono ?_;rintro e w5 hr;obtain⟨v,rfl,⟨cp,cn,cc,C,rfl,hC5,hCm⟩,hS5,hq5,hE5,hB5⟩:=hr.isOk HV2.out;have HC5:=hid hC5;have HCM:=hid hCm;have HS5:=hid hS5;have HE5:=hid hE5;have HOX:=hid ((Off.of_ef (bs:=[E]) (HE3.out.trans hE5) (by simp)).alloc (Obj.cells #[.string x.name,.int .i64 x.arity,.bool x.exp,.slice cp cn cc] 84));clear hr hS5 hE5 hB5 hC5 hCm HN2)
       |(at_builtin;refine wpList_append_lies _ rfl (.tmp 43) (.tmp 45) 39 rfl 0 84 gi _ 4 56 Tryz.underlying39 hgi hh0 hh1 hh2 rfl (by omega) (.slice vp got.length vc) got.length (got.flatMap globC) rfl ((HC.out.row.off okGlob HOX.out (by simp;omega)).own.alloc _) ⟨w5.heap.size+1,0,none⟩ 1 1 [.string x.name,.int .i64 x.arity,.bool x.exp,.slice cp cn cc] rfl rfl (by simpa using World.news_of_block (heap_alloc_new (w5.alloc (Obj.cells #[.string x.name,.int .i64 x.arity,.bool x.exp,.slice cp cn cc] 84)) (Obj.cells #[.string x.name,.int .i64 x.arity,.bool x.exp,.slice cp cn cc] 84))) (by intro u hu;simp at hu;rcases hu with rfl|rfl|rfl|rfl<;>rfl) (by omega) (by unfold maxLen;omega) (by omega) (Nat.zero_le _) _ rfl ?_;intro g1 k1 w7 hown hgrow hat hlt1;have HNX:=hid (HC.out.next hlt hE1 HV1.out HV2.out HE3.out HE5.out ((Below.refl _ _).alloc (Nat.le_refl _) _) HS5.out HC5.out HCM.out hgrow hat hlt1 hown);clear hown hgrow hat hlt1))
      exact⟨⟨_,_,q2,_,_,by rw[List.length_append];rfl,rfl,by simp,HNX.out⟩,by simp[intOf];omega⟩
   ·have HTE:Hid (T=.ok (got.map (·.1),p)):=by
     show _=_;rw[HC.out.rd,show n-got.length=0 by omega];rfl
    go_wp2;go_ret2
    exact ReadSt.good (HT.out.trans HTE.out) ⟨got,HC.out.row.low (by omega),rfl⟩ HC.out.rs hpp HEW.out HB.out
end Go.Proofs.YtglihimiidiacaaGreatDoor
