import Derived.Test.YtefpamchdheldaaGreatDoorEye3J
import Derived.Test.YtefpamchdheldaaGreatDoorParse2J
import Derived.Test.YtefpamchdheldaaGreatDoorMarksJ
set_option maxRecDepth 100000
set_option maxHeartbeats 8000000
namespace Go.Proofs.YtefpamchdheldaaGreatDoor
open Go.RowKit Go.Sort
structure Off (bs:List Nat) (w w':World):Prop where
 os:w'.os=w.os
 tape:w'.tape=w.tape
 output:w'.output=w.output
 size:w.heap.size<=w'.heap.size
 block:∀k,k<w.heap.size->k∉bs->w'.heap[k]?=w.heap[k]?
theorem Off.refl(bs:List Nat)(w:World):Off bs w w:=⟨rfl,rfl,rfl,Nat.le_refl _,λ_ _ _=>rfl⟩
theorem Off.trans{bs:List Nat}{w w1 w2:World}(h:Off bs w w1)(k:Off bs w1 w2):Off bs w w2:=
 ⟨k.os.trans h.os,k.tape.trans h.tape,k.output.trans h.output,Nat.le_trans h.size k.size,λb hb hE=>(k.block b (Nat.lt_of_lt_of_le hb h.size) hE).trans (h.block b hb hE)⟩
theorem Off.of_below{bs:List Nat}{w w':World}(h:Below w.heap.size w w'):Off bs w w':=⟨h.os,h.tape,h.output,h.size,λk hk _=>h.block k hk⟩
theorem Off.alloc{bs:List Nat}{w w':World}(h:Off bs w w')(o:Obj):Off bs w (w'.alloc o):=h.trans (Off.of_below ((Below.refl _ _).alloc (Nat.le_refl _) _))
theorem Off.drewN{bs:List Nat}{w w':World}(h:Off bs w w')(n:Nat):Off bs w (w'.drewN n):=h.trans (Off.of_below (below_drewN (Below.refl _ _) _))
theorem Off.set{bs:List Nat}{w w':World}(h:Off bs w w'){b o:Nat}(hb:b∈bs∨w.heap.size<=b)(u:Value):Off bs w (w'.setCell ⟨b,o,none⟩ u):=by
 refine⟨h.os,h.tape,h.output,by simpa using h.size,λk hk hn=>?_⟩;rw[heap_setCell_other w' ⟨b,o,none⟩ k u (by intro e;subst e;rcases hb with hb|hb;exact hn hb;omega)];exact h.block k hk hn
theorem Off.of_ef{E:Nat}{bs:List Nat}{w w':World}(h:EF E w w')(hE:E∈bs):Off bs w w':=⟨h.os,h.tape,h.output,h.size,λk hk hn=>h.block k hk (by intro e;subst e;exact hn hE)⟩
theorem Off.ef{E:Nat}{bs:List Nat}{w w':World}(h:Off bs w w')(hE:∀b∈bs,b=E∨w.heap.size<=b):EF E w w':=
 ⟨h.os,h.tape,h.output,h.size,λk hk hn=>h.block k hk (by intro hm;rcases hE k hm with e|e;exact hn e;omega)⟩
theorem Off.more{bs cs:List Nat}{w w':World}(h:Off bs w w')(hs:∀b∈bs,b∈cs∨w.heap.size<=b):Off cs w w':=
 ⟨h.os,h.tape,h.output,h.size,λk hk hn=>h.block k hk (by intro hm;rcases hs k hm with e|e;exact hn e;omega)⟩
theorem Off.grown{bs:List Nat}{w w1 w2:World}{r:Option Nat}(h:Off bs w w1)(hg:w1.grownBy w2 r)(hr:∀b,r=some b->b∈bs∨w.heap.size<=b):Off bs w w2:=by
 refine⟨hg.os.trans h.os,hg.tape.trans h.tape,hg.output.trans h.output,Nat.le_trans h.size hg.size,λk hk hn=>?_⟩;rw[hg.block k (Nat.lt_of_lt_of_le hk h.size) (by intro e;rcases hr k e.symm with h1|h1;exact hn h1;omega)];exact h.block k hk hn
theorem Off.below{w w':World}{bs:List Nat}(h:Off bs w w')(hb:∀b∈bs,w.heap.size<=b):Below w.heap.size w w':=
 (Below.refl _ w).grown (row:=none) ⟨h.os,h.tape,h.output,h.size,λk hk _=>h.block k hk (by intro hm;have:=hb k hm;omega)⟩ (Nat.le_refl _) (λ_ e=>by cases e)
theorem ES.of_block{w w':World}{E:Nat}{s:ByteArray}{p err pl:Nat}(h:ES w E s p err pl)(e:w'.heap[E]?=w.heap[E]?):ES w' E s p err pl:=
 ⟨by rw[World.cell?_of_block (a:=⟨E,0,none⟩) e];exact h.c0,by rw[World.cell?_of_block (a:=⟨E,1,none⟩) e];exact h.c1,by rw[World.cell?_of_block (a:=⟨E,2,none⟩) e];exact h.c2,by rw[World.cell?_of_block (a:=⟨E,3,none⟩) e];exact h.c3,λj hj=>by rw[World.frozen?_of_block (a:=⟨E,j,none⟩) e];exact h.f j hj⟩
theorem EyeSt.off{bs:List Nat}{w w':World}{E:Nat}{s:ByteArray}{st:Except (Nat×Nat) Nat}(h:EyeSt w E s st)(ho:Off bs w w')(hE:E∉bs):EyeSt w' E s st:=by
 match st,h with
 |.ok p,⟨h1,h2⟩=>exact⟨h1.of_block (ho.block E (block_lt_of_cell h1.c0) hE),h2⟩
 |.error (c,a),⟨h0,q,h1,h2⟩=>exact⟨h0,q,h1.of_block (ho.block E (block_lt_of_cell h1.c0) hE),h2⟩
theorem RowS.off{α:Type}{cells:α->List Value}{sub:α->List Nat}{ok:World->α->Prop}{e:TypeId}{size:Nat}(hok:OkFr sub ok){w w':World}{lo:Nat}{v:Value}{xs:List α}(h:RowS cells sub ok e size w lo v xs){bs:List Nat}(ho:Off bs w w')(hn:∀b∈bs,b<lo∨w.heap.size<=b∨b∉rowB sub v xs):RowS cells sub ok e size w' lo v xs:=
 h.fr hok ho.size λb hb=>ho.block b (h.rg b hb).2 (by intro hm;have:=h.rg b hb;rcases hn b hm with h1|h1|h1;omega;omega;exact h1 hb)
theorem EyeSt.of_ok{w:World}{E:Nat}{s:ByteArray}{α:Type}{r:Rd α}{x:α}{q:Nat}(h:EyeSt w E s (stOf r))(hr:r=.ok (x,q)):ES w E s q 0 0∧q<=s.size:=by rw[hr]at h;exact h
theorem EyeSt.of_err{w:World}{E:Nat}{s:ByteArray}{α:Type}{r:Rd α}{c a:Nat}(h:EyeSt w E s (stOf r))(hr:r=.error (c,a)):c≠0∧∃q,ES w E s q c a∧q<=s.size:=by rw[hr]at h;exact h
structure Bx3 (w:World) (b:Nat) (x y z:Value):Prop where
 c0:w.cell? ⟨b,0,none⟩=some x
 c1:w.cell? ⟨b,1,none⟩=some y
 c2:w.cell? ⟨b,2,none⟩=some z
 f0:w.frozen? ⟨b,0,none⟩=false
 f1:w.frozen? ⟨b,1,none⟩=false
 f2:w.frozen? ⟨b,2,none⟩=false
theorem Bx3.new(w:World)(x y z:Value)(t:TypeId):Bx3 (w.alloc (.cells #[x,y,z] t)) w.heap.size x y z:=⟨by simp,by simp,by simp,by simp,by simp,by simp⟩
theorem Bx3.lt{w:World}{b:Nat}{x y z:Value}(h:Bx3 w b x y z):b<w.heap.size:=block_lt_of_cell h.c0
theorem Bx3.of_block{w w':World}{b:Nat}{x y z:Value}(h:Bx3 w b x y z)(e:w'.heap[b]?=w.heap[b]?):Bx3 w' b x y z:=by
 refine⟨?_,?_,?_,?_,?_,?_⟩
 ·rw[World.cell?_of_block (a:=⟨b,0,none⟩) e];exact h.c0
 ·rw[World.cell?_of_block (a:=⟨b,1,none⟩) e];exact h.c1
 ·rw[World.cell?_of_block (a:=⟨b,2,none⟩) e];exact h.c2
 ·rw[World.frozen?_of_block (a:=⟨b,0,none⟩) e];exact h.f0
 ·rw[World.frozen?_of_block (a:=⟨b,1,none⟩) e];exact h.f1
 ·rw[World.frozen?_of_block (a:=⟨b,2,none⟩) e];exact h.f2
theorem Bx3.off{bs:List Nat}{w w':World}{b:Nat}{x y z:Value}(h:Bx3 w b x y z)(ho:Off bs w w')(hn:b∉bs):Bx3 w' b x y z:=h.of_block (ho.block b h.lt hn)
theorem Bx3.ef{E:Nat}{w w':World}{b:Nat}{x y z:Value}(h:Bx3 w b x y z)(hE:EF E w w')(hne:b≠E):Bx3 w' b x y z:=h.of_block (hE.block b h.lt hne)
theorem Bx3.keep{w w':World}{b:Nat}{x y z:Value}(h:Bx3 w b x y z)(hb:Below w.heap.size w w'):Bx3 w' b x y z:=h.of_block (hb.block b h.lt)
theorem Bx3.set0{w:World}{b:Nat}{x y z:Value}(h:Bx3 w b x y z)(u:Value):Bx3 (w.setCell ⟨b,0,none⟩ u) b u y z:=
 ⟨World.cell?_setCell_same _ _ _ h.c0,by rw[World.cell?_setCell_other _ _ _ _ (off_ne (by omega))];exact h.c1,by rw[World.cell?_setCell_other _ _ _ _ (off_ne (by omega))];exact h.c2,by rw[World.frozen?_setCell];exact h.f0,by rw[World.frozen?_setCell];exact h.f1,by rw[World.frozen?_setCell];exact h.f2⟩
theorem Bx3.set1{w:World}{b:Nat}{x y z:Value}(h:Bx3 w b x y z)(u:Value):Bx3 (w.setCell ⟨b,1,none⟩ u) b x u z:=
 ⟨by rw[World.cell?_setCell_other _ _ _ _ (off_ne (by omega))];exact h.c0,World.cell?_setCell_same _ _ _ h.c1,by rw[World.cell?_setCell_other _ _ _ _ (off_ne (by omega))];exact h.c2,by rw[World.frozen?_setCell];exact h.f0,by rw[World.frozen?_setCell];exact h.f1,by rw[World.frozen?_setCell];exact h.f2⟩
theorem Bx3.set2{w:World}{b:Nat}{x y z:Value}(h:Bx3 w b x y z)(u:Value):Bx3 (w.setCell ⟨b,2,none⟩ u) b x y u:=
 ⟨by rw[World.cell?_setCell_other _ _ _ _ (off_ne (by omega))];exact h.c0,by rw[World.cell?_setCell_other _ _ _ _ (off_ne (by omega))];exact h.c1,World.cell?_setCell_same _ _ _ h.c2,by rw[World.frozen?_setCell];exact h.f0,by rw[World.frozen?_setCell];exact h.f1,by rw[World.frozen?_setCell];exact h.f2⟩
theorem Bx3.put{w:World}{b:Nat}{x y z:Value}(h:Bx3 w b x y z)(x' y' z':Value):Bx3 (((w.setCell ⟨b,0,none⟩ x').setCell ⟨b,1,none⟩ y').setCell ⟨b,2,none⟩ z') b x' y' z':=((h.set0 x').set1 y').set2 z'
theorem NumSt.ok{E:Nat}{s:ByteArray}{lo:Nat}{r:Rd Nat}{w:World}{e:Ending}{w':World}(h:NumSt E s lo r w e w'){n q:Nat}(hr:r=.ok (n,q)):e=.returned (.int .i64 (n:Int))∧ES w' E s q 0 0∧EF E w w':=by
 obtain⟨⟨n',q',h1,h2⟩|⟨x,h1,h2⟩,h3,h4⟩:=h
 ·rw[hr]at h1;cases h1;exact⟨h2,(h3.of_ok hr).1,h4⟩
 ·rw[hr]at h1;cases h1
theorem NumSt.err{E:Nat}{s:ByteArray}{lo:Nat}{r:Rd Nat}{w:World}{e:Ending}{w':World}(h:NumSt E s lo r w e w'){c a:Nat}(hr:r=.error (c,a)):e=.returned (.int .i64 (lo:Int))∧(∃q,ES w' E s q c a∧q<=s.size)∧EF E w w':=by
 obtain⟨⟨n',q',h1,h2⟩|⟨x,h1,h2⟩,h3,h4⟩:=h
 ·rw[hr]at h1;cases h1
 ·exact⟨h2,(h3.of_err hr).2,h4⟩
theorem VarSt.ok{E:Nat}{s:ByteArray}{r:Rd Nat}{w:World}{e:Ending}{w':World}(h:VarSt E s r w e w'){n q:Nat}(hr:r=.ok (n,q)):e=.returned (.int .u64 (n:Int))∧ES w' E s q 0 0∧EF E w w':=by
 obtain⟨⟨n',q',h1,h0,h2⟩|⟨x,h1,h2⟩,h3,h4⟩:=h
 ·rw[hr]at h1;cases h1;exact⟨h2,(h3.of_ok hr).1,h4⟩
 ·rw[hr]at h1;cases h1
theorem VarSt.err{E:Nat}{s:ByteArray}{r:Rd Nat}{w:World}{e:Ending}{w':World}(h:VarSt E s r w e w'){c a:Nat}(hr:r=.error (c,a)):e=.returned (.int .u64 0)∧(∃q,ES w' E s q c a∧q<=s.size)∧EF E w w':=by
 obtain⟨⟨n',q',h1,h0,h2⟩|⟨x,h1,h2⟩,h3,h4⟩:=h
 ·rw[hr]at h1;cases h1
 ·exact⟨h2,(h3.of_err hr).2,h4⟩
structure InsSt (E:Nat) (s:ByteArray) (r:Rd LIns) (w:World) (e:Ending) (w':World):Prop where
 ret:∃(op a:Int) (ap:Option Addr) (an ac:Nat),e=.returned (.agg #[.int .i64 op,.int .i64 a,.slice ap an ac])∧∀x q,r=.ok (x,q)->op=x.op∧a=x.a∧AltsO w' w.heap.size (.slice ap an ac) x.alts
 st:EyeSt w' E s (stOf r)
 ef:EF E w w'
theorem insDone{E:Nat}{s:ByteArray}{r:Rd LIns}{w wX:World}(hE:E<w.heap.size)(hS:EyeSt wX E s (stOf r))(hO:Off [E] w wX)(op a:Int)(ap:Option Addr)(an ac:Nat)
 (hA:∀x q,r=.ok (x,q)->op=x.op∧a=x.a∧AltsO wX (w.heap.size+1) (.slice ap an ac) x.alts):
 InsSt E s r w (.returned (.agg #[.int .i64 op,.int .i64 a,.slice ap an ac])) (((wX.setCell ⟨w.heap.size,0,none⟩ (.int .i64 op)).setCell ⟨w.heap.size,1,none⟩ (.int .i64 a)).setCell ⟨w.heap.size,2,none⟩ (.slice ap an ac)):=by
 have ho:Off [w.heap.size] wX (((wX.setCell ⟨w.heap.size,0,none⟩ (.int .i64 op)).setCell ⟨w.heap.size,1,none⟩ (.int .i64 a)).setCell ⟨w.heap.size,2,none⟩ (.slice ap an ac)):=(((Off.refl _ _).set (Or.inl (by simp)) _).set (Or.inl (by simp)) _).set (Or.inl (by simp)) _;refine⟨⟨op,a,ap,an,ac,rfl,λx q h=>?_⟩,hS.off ho (by simp;omega),?_⟩
 ·obtain⟨h1,h2,h3⟩:=hA x q h;refine⟨h1,h2,(h3.off okAlt ho λb hb=>?_).low (Nat.le_succ _)⟩;obtain rfl:=List.mem_singleton.1 hb;exact Or.inl (Nat.lt_succ_self _)
 ·exact((hO.set (Or.inr (Nat.le_refl _)) _).set (Or.inr (Nat.le_refl _)) _).set (Or.inr (Nat.le_refl _)) _|>.ef (by simp)
theorem eyeIns_err(E:Nat)(s:ByteArray)(p:Nat)(w:World)(hs:s.size<=100000)(h:EyeSt w E s (.ok p))(c a:Nat)(hv:rdN s 0 20 p=.error (c,a)):
 Calls Tryz.prog 30 #[.pointer (some ⟨E,0,none⟩)] w λe w'=>InsSt E s (rdIns s p) w e w':=by
 obtain⟨c0,c1,c2,c3,-⟩:=id h.1;have hE:E<w.heap.size:=block_lt_of_cell c0;have HN:Hid (∀w',Below w.heap.size w w'->Calls Tryz.prog 29 #[.pointer (some ⟨E,0,none⟩),.int .i64 0,.int .i64 20] w' λe w''=>NumSt E s 0 (rdN s 0 20 p) w' e w''):=λw' hb=>eyeNumber_st E s (.ok p) 0 20 w' hs (h.keep hb) (by omega) (by omega);have hc:((c:Int)==0)=false:=by rw[beq_eq_false_iff_ne];have:=(rdN_err hv).ne;omega
 have HC:=hid (rdN_err hv).ne;have HR:Hid (rdIns s p=.error (c,a)):=bd_err hv;have HRV:=hid hv;clear hv h;go_enter Tryz.func30,Tryz.ntmps30;go_wp2_with (first
  |(go_at_call 29;refine(HN.out _ ((Below.refl _ _).alloc (Nat.le_refl _) _)).mono ?_;rintro e w1 hr;obtain⟨rfl,⟨q,hS1,hq⟩,hE1⟩:=hr.err HRV.out;obtain⟨d0,d1,d2,d3,-⟩:=id hS1;have HS1:=hid hS1;have HE1:=hid hE1;have HB:=hid ((Bx3.new w _ _ _ _).ef hE1 (by omega));obtain⟨r0,r1,r2,k0,k1,k2⟩:=id HB.out;have hR':w.heap.size<w1.heap.size:=HB.out.lt;have hE':E<w1.heap.size:=(by omega);clear hr hS1 hE1)
  |(go_at_call 50;refine(refBounds_any 0 (by omega) _).mono ?_;rintro e w2 ⟨rfl,rfl⟩))
 have HBF:=hid ((HB.out.put (.int .i64 0) (.int .i64 0) (.slice none 0 0)).keep ((Below.refl _ _).alloc (Nat.le_refl _) (Obj.cells #[Value.int IntKind.i64 0,Value.int IntKind.i64 0,Value.slice none 0 0] 75)));obtain⟨s0,s1,s2,-,-,-⟩:=HBF.out;refine bodyPost_ret (v:=.agg #[.int .i64 0,.int .i64 0,.slice none 0 0]) (by simp[results,Tryz.results30,go_sem,s0,s1,s2]) rfl ?_;refine⟨⟨0,0,none,0,0,rfl,λx q h=>by rw[HR.out]at h;cases h⟩,?_,?_⟩
 ·rw[HR.out];refine EyeSt.off (bs:=[w.heap.size]) (w:=w1) (show EyeSt w1 E s (.error (c,a)) from⟨HC.out,q,HS1.out,hq⟩) ?_ (by simp;omega);exact((((Off.refl _ _).set (Or.inl (by simp)) _).set (Or.inl (by simp)) _).set (Or.inl (by simp)) _).alloc _
 ·exact((((((Off.refl [E] w).alloc _).trans (Off.of_ef HE1.out (by simp))).set (Or.inr (Nat.le_refl _)) _).set (Or.inr (Nat.le_refl _)) _).set (Or.inr (Nat.le_refl _)) _).alloc _|>.ef (by simp)
theorem eyeIns_none(E:Nat)(s:ByteArray)(p:Nat)(w:World)(hs:s.size<=100000)(h:EyeSt w E s (.ok p))(op q:Nat)(hv:rdN s 0 20 p=.ok (op,q))(hk:rowN op 0=0):
 Calls Tryz.prog 30 #[.pointer (some ⟨E,0,none⟩)] w λe w'=>InsSt E s (rdIns s p) w e w':=by
 obtain⟨c0,c1,c2,c3,-⟩:=id h.1;have hE:E<w.heap.size:=block_lt_of_cell c0;have HN:Hid (∀w',Below w.heap.size w w'->Calls Tryz.prog 29 #[.pointer (some ⟨E,0,none⟩),.int .i64 0,.int .i64 20] w' λe w''=>NumSt E s 0 (rdN s 0 20 p) w' e w''):=λw' hb=>eyeNumber_st E s (.ok p) 0 20 w' hs (h.keep hb) (by omega) (by omega);have hop:op<21:=by have:=rdN_ok hv;omega
 have hq:q<=s.size:=(rdN_ok hv).2.2.2;have HI:Hid (rdIns s p=rdArg s op q):=bd_ok hv;have HRV:=hid hv;clear hv h;have hb3:=bd_facts op hop (by rintro rfl;revert hk;decide);have hop0:op≠0:=by rintro rfl;revert hk;decide
 have hop17:op≠17:=by rintro rfl;revert hk;decide
 have hl:(if op=7 then (1:Int) else if rowN op 0=2 then 0 else 1)=1∧(if rowN op 0=2 then rowN op 2 else 0)=0:=by
  rw[if_neg (show ¬rowN op 0=2 by rw[hk];decide),if_neg (show ¬rowN op 0=2 by rw[hk];decide)];simp
 have HBD:=hid (refBounds_any op hop);rw[hl.1,hl.2]at HBD;have HR:Hid (rdIns s p=.ok (⟨op,0,[]⟩,q)):=by
  show _=_;rw[HI.out,rdArg,hk];rfl
 clear hb3 hl hk;go_enter Tryz.func30,Tryz.ntmps30;go_wp2_with (first
  |(go_at_call 29;refine(HN.out _ ((Below.refl _ _).alloc (Nat.le_refl _) _)).mono ?_;rintro e w1 hr;obtain⟨rfl,hS1,hE1⟩:=hr.ok HRV.out;obtain⟨d0,d1,d2,d3,-⟩:=id hS1;have HS1:=hid (show EyeSt w1 E s (.ok q) from⟨hS1,hq⟩);have HO1:=hid (((Off.refl [E] w).alloc _).trans (Off.of_ef hE1 (by simp)));have HB:=hid ((Bx3.new w _ _ _ _).ef hE1 (by omega));obtain⟨r0,r1,r2,k0,k1,k2⟩:=id HB.out;have hR':w.heap.size<w1.heap.size:=HB.out.lt;have hE':E<w1.heap.size:=(by omega);clear hr hS1 hE1)
  |(go_at_call 50;refine(HBD.out _).mono ?_;rintro e w2 ⟨rfl,rfl⟩))
 have HBF:=hid ((HB.out.put (.int .i64 (op:Int)) (.int .i64 0) (.slice none 0 0)).keep ((Below.refl _ _).alloc (Nat.le_refl _) (Obj.cells #[Value.int IntKind.i64 (op:Int),Value.int IntKind.i64 0,Value.slice none 0 0] 75)));obtain⟨s0,s1,s2,-,-,-⟩:=HBF.out;refine bodyPost_ret (v:=.agg #[.int .i64 (op:Int),.int .i64 0,.slice none 0 0]) (by simp[results,Tryz.results30,go_sem,s0,s1,s2]) rfl ?_;refine⟨⟨op,0,none,0,0,rfl,λx q h=>?_⟩,?_,?_⟩
 ·rw[HR.out]at h;cases h;exact⟨rfl,rfl,RowS.nil _ _⟩
 ·rw[HR.out];refine EyeSt.off (bs:=[w.heap.size]) (w:=w1) HS1.out ?_ (by simp;omega);exact((((Off.refl _ _).set (Or.inl (by simp)) _).set (Or.inl (by simp)) _).set (Or.inl (by simp)) _).alloc _
 ·exact(((HO1.out.set (Or.inr (Nat.le_refl _)) _).set (Or.inr (Nat.le_refl _)) _).set (Or.inr (Nat.le_refl _)) _).alloc _|>.ef (by simp)
theorem eyeIns_int(E:Nat)(s:ByteArray)(p:Nat)(w:World)(hs:s.size<=100000)(h:EyeSt w E s (.ok p))(q:Nat)(hv:rdN s 0 20 p=.ok (0,q)):
 Calls Tryz.prog 30 #[.pointer (some ⟨E,0,none⟩)] w λe w'=>InsSt E s (rdIns s p) w e w':=by
 obtain⟨c0,c1,c2,c3,-⟩:=id h.1;have hE:E<w.heap.size:=block_lt_of_cell c0;have HN:Hid (∀w',Below w.heap.size w w'->Calls Tryz.prog 29 #[.pointer (some ⟨E,0,none⟩),.int .i64 0,.int .i64 20] w' λe w''=>NumSt E s 0 (rdN s 0 20 p) w' e w''):=λw' hb=>eyeNumber_st E s (.ok p) 0 20 w' hs (h.keep hb) (by omega) (by omega);have hq:q<=s.size:=(rdN_ok hv).2.2.2;have HI:Hid (rdIns s p=rdArg s 0 q):=bd_ok hv;have HRV:=hid hv;have HBD:=hid (refBounds_any 0 (by omega));have HV:Hid (∀w',EyeSt w' E s (.ok q)->Calls Tryz.prog 28 #[.pointer (some ⟨E,0,none⟩)] w' λe w''=>VarSt E s (rdV s q) w' e w''):=λw' h=>eyeVarint_st E s (.ok q) w' hs h;have HA:Hid (rdArg s 0 q=bd (rdV s q) λn r=>.ok (⟨0,unf n,[]⟩,r)):=rfl;clear hv h;match hr:rdV s q with
 |.error (c,a)=>
  have HC:Hid (CE c):=by have:=rdV_err hr;show _∨_;omega
  have hc:((c:Int)==0)=false:=by rw[beq_eq_false_iff_ne];have:=HC.out.ne;omega
  have HR:Hid (rdIns s p=.error (c,a)):=by
   show _=_;rw[HI.out,HA.out,bd_err hr]
  have HRR:=hid hr;clear hr;go_enter Tryz.func30,Tryz.ntmps30;go_wp2_with (first
   |(go_at_call 29;refine(HN.out _ ((Below.refl _ _).alloc (Nat.le_refl _) _)).mono ?_;rintro e w1 hr;obtain⟨rfl,hS1,hE1⟩:=hr.ok HRV.out;obtain⟨d0,d1,d2,d3,-⟩:=id hS1;have HS1:=hid (show EyeSt w1 E s (.ok q) from⟨hS1,hq⟩);have HO1:=hid (((Off.refl [E] w).alloc _).trans (Off.of_ef hE1 (by simp)));have HB:=hid ((Bx3.new w _ _ _ _).ef hE1 (by omega));obtain⟨r0,r1,r2,k0,k1,k2⟩:=id HB.out;have hR':w.heap.size<w1.heap.size:=HB.out.lt;have hE':E<w1.heap.size:=(by omega);clear hr hS1 hE1)
   |(go_at_call 50;refine(HBD.out _).mono ?_;rintro e w3 ⟨rfl,rfl⟩)
   |(go_at_call 28;refine(HV.out _ (HS1.out.keep ((Below.refl _ _).alloc (Nat.le_refl _) _))).mono ?_;rintro e w2 hr2;obtain⟨rfl,⟨q2,hS2,hq2⟩,hE2⟩:=hr2.err HRR.out;obtain⟨y0,y1,y2,y3,-⟩:=id hS2;have HS2:=hid hS2;have HO2:=hid (Off.of_ef (bs:=[E]) hE2 (by simp));have HB2:=hid ((HB.out.keep ((Below.refl _ _).alloc (Nat.le_refl _) _)).ef hE2 (by omega));obtain⟨R0,R1,R2,K0,K1,K2⟩:=id HB2.out;have HJ2:=hid ((Bx3.new w1 _ _ _ _).ef hE2 (by omega));obtain⟨I0,I1,I2,J0,J1,J2⟩:=id HJ2.out;have hI':w1.heap.size<w2.heap.size:=HJ2.out.lt;have hE2':E<w2.heap.size:=(by omega);have hR2':w.heap.size<w2.heap.size:=(by omega);clear hr2 hS2 hE2))
  have HBX:=hid (HB2.out.off (bs:=[w1.heap.size]) ((Off.refl _ _).set (b:=w1.heap.size) (o:=1) (Or.inl (by simp)) (.int .i64 0)) (by simp;omega));obtain⟨s0,s1,s2,-,-,-⟩:=HBX.out.put (.int .i64 0) (.int .i64 0) (.slice none 0 0);refine bodyPost_ret (v:=.agg #[.int .i64 0,.int .i64 0,.slice none 0 0]) (by simp[results,Tryz.results30,go_sem,s0,s1,s2]) rfl ?_;refine insDone hE ?_ (((HO1.out.alloc _).trans HO2.out).set (Or.inr (by omega)) _) 0 0 none 0 0 (λx q h=>by rw[HR.out]at h;cases h);rw[HR.out];exact EyeSt.off (bs:=[w1.heap.size]) (w:=w2) (show EyeSt w2 E s (.error (c,a)) from⟨HC.out.ne,q2,HS2.out,hq2⟩) ((Off.refl _ _).set (Or.inl (by simp)) _) (by simp;omega)
 |.ok (n,q2)=>
  have HR:Hid (rdIns s p=.ok (⟨0,unf n,[]⟩,q2)):=by
   show _=_;rw[HI.out,HA.out,bd_ok hr]
  have hn:=(rdV_ok hr).1;have hq2:=(rdV_ok hr).2.2;have HRR:=hid hr;clear hr;go_enter Tryz.func30,Tryz.ntmps30;go_wp2_with (first
   |(go_at_call 29;refine(HN.out _ ((Below.refl _ _).alloc (Nat.le_refl _) _)).mono ?_;rintro e w1 hr;obtain⟨rfl,hS1,hE1⟩:=hr.ok HRV.out;obtain⟨d0,d1,d2,d3,-⟩:=id hS1;have HS1:=hid (show EyeSt w1 E s (.ok q) from⟨hS1,hq⟩);have HO1:=hid (((Off.refl [E] w).alloc _).trans (Off.of_ef hE1 (by simp)));have HB:=hid ((Bx3.new w _ _ _ _).ef hE1 (by omega));obtain⟨r0,r1,r2,k0,k1,k2⟩:=id HB.out;have hR':w.heap.size<w1.heap.size:=HB.out.lt;have hE':E<w1.heap.size:=(by omega);clear hr hS1 hE1)
   |(go_at_call 50;refine(HBD.out _).mono ?_;rintro e w3 ⟨rfl,rfl⟩)
   |(go_at_call 28;refine(HV.out _ (HS1.out.keep ((Below.refl _ _).alloc (Nat.le_refl _) _))).mono ?_;rintro e w2 hr2;obtain⟨rfl,hS2,hE2⟩:=hr2.ok HRR.out;obtain⟨y0,y1,y2,y3,-⟩:=id hS2;have HS2:=hid hS2;have HO2:=hid (Off.of_ef (bs:=[E]) hE2 (by simp));have HB2:=hid ((HB.out.keep ((Below.refl _ _).alloc (Nat.le_refl _) _)).ef hE2 (by omega));obtain⟨R0,R1,R2,K0,K1,K2⟩:=id HB2.out;have HJ2:=hid ((Bx3.new w1 _ _ _ _).ef hE2 (by omega));obtain⟨I0,I1,I2,J0,J1,J2⟩:=id HJ2.out;have hI':w1.heap.size<w2.heap.size:=HJ2.out.lt;have hE2':E<w2.heap.size:=(by omega);have hR2':w.heap.size<w2.heap.size:=(by omega);clear hr2 hS2 hE2))
  all_goals simp only[beq_iff_eq,beq_eq_false_iff_ne,ne_eq]at*
  ·have HBX:=hid (HB2.out.off (bs:=[w1.heap.size]) (((Off.refl _ _).set (b:=w1.heap.size) (o:=1) (Or.inl (by simp)) (.int .i64 ((n:Int) / 2))).set (b:=w1.heap.size) (o:=1) (Or.inl (by simp)) (.int .i64 (-((n:Int) / 2)-1))) (by simp;omega));obtain⟨s0,s1,s2,-,-,-⟩:=HBX.out.put (.int .i64 0) (.int .i64 (-((n:Int) / 2)-1)) (.slice none 0 0);refine bodyPost_ret (v:=.agg #[.int .i64 0,.int .i64 (-((n:Int) / 2)-1),.slice none 0 0]) (by simp[results,Tryz.results30,go_sem,s0,s1,s2]) rfl ?_;refine insDone hE ?_ ((((HO1.out.alloc _).trans HO2.out).set (Or.inr (by omega)) _).set (Or.inr (by omega)) _) 0 (-((n:Int) / 2)-1) none 0 0 (λx q h=>?_)
   ·rw[HR.out];exact EyeSt.off (bs:=[w1.heap.size]) (w:=w2) (show EyeSt w2 E s (.ok q2) from⟨HS2.out,hq2⟩) (((Off.refl _ _).set (Or.inl (by simp)) _).set (Or.inl (by simp)) _) (by simp;omega)
   ·rw[HR.out]at h;cases h;refine⟨rfl,?_,RowS.nil _ _⟩;show -((n:Int) / 2)-1=unf n;unfold unf;rw[if_neg (by omega)];omega
  ·have HBX:=hid (HB2.out.off (bs:=[w1.heap.size]) ((Off.refl _ _).set (b:=w1.heap.size) (o:=1) (Or.inl (by simp)) (.int .i64 ((n:Int) / 2))) (by simp;omega));obtain⟨s0,s1,s2,-,-,-⟩:=HBX.out.put (.int .i64 0) (.int .i64 ((n:Int) / 2)) (.slice none 0 0);refine bodyPost_ret (v:=.agg #[.int .i64 0,.int .i64 ((n:Int) / 2),.slice none 0 0]) (by simp[results,Tryz.results30,go_sem,s0,s1,s2]) rfl ?_;refine insDone hE ?_ (((HO1.out.alloc _).trans HO2.out).set (Or.inr (by omega)) _) 0 ((n:Int) / 2) none 0 0 (λx q h=>?_)
   ·rw[HR.out];exact EyeSt.off (bs:=[w1.heap.size]) (w:=w2) (show EyeSt w2 E s (.ok q2) from⟨HS2.out,hq2⟩) ((Off.refl _ _).set (Or.inl (by simp)) _) (by simp;omega)
   ·rw[HR.out]at h;cases h;refine⟨rfl,?_,RowS.nil _ _⟩;show(n:Int) / 2=unf n;unfold unf;rw[if_pos (by omega)];omega
theorem eyeIns_bound(E:Nat)(s:ByteArray)(p:Nat)(w:World)(hs:s.size<=100000)(h:EyeSt w E s (.ok p))(op q l h2:Nat)(hv:rdN s 0 20 p=.ok (op,q))(hk:rowN op 0=2)(hl1:rowN op 1=(l:Int))(hl2:rowN op 2=(h2:Int))(hll:l<=h2)(hhh:h2<=65535):
 Calls Tryz.prog 30 #[.pointer (some ⟨E,0,none⟩)] w λe w'=>InsSt E s (rdIns s p) w e w':=by
 obtain⟨c0,c1,c2,c3,-⟩:=id h.1;have hE:E<w.heap.size:=block_lt_of_cell c0;have HN:Hid (∀w',Below w.heap.size w w'->Calls Tryz.prog 29 #[.pointer (some ⟨E,0,none⟩),.int .i64 0,.int .i64 20] w' λe w''=>NumSt E s 0 (rdN s 0 20 p) w' e w''):=λw' hb=>eyeNumber_st E s (.ok p) 0 20 w' hs (h.keep hb) (by omega) (by omega);have hq:q<=s.size:=(rdN_ok hv).2.2.2;have HI:Hid (rdIns s p=rdArg s op q):=bd_ok hv;have HRV:=hid hv;have hop:op<21:=by have:=rdN_ok hv;omega
 have hop0:((op:Int)==0)=false:=by
  rw[beq_eq_false_iff_ne];intro e;obtain rfl:op=0:=by omega
  revert hk;decide
 have hop17:((op:Int)==17)=false:=by
  rw[beq_eq_false_iff_ne];intro e;obtain rfl:op=17:=by omega
  revert hk;decide
 have hbf:=bd_facts op hop (by rintro rfl;revert hop17;decide);have hlo:(if op=7 then (1:Int) else if rowN op 0=2 then 0 else 1)=(l:Int):=by
  rcases hbf with⟨-,h1,-⟩|h1|⟨h1,-⟩
  ·rw[h1,hl1]
  ·subst h1;exact absurd hop0 (by decide)
  ·rw[hk]at h1;exact absurd h1 (by decide)
 have hhi:(if rowN op 0=2 then rowN op 2 else 0)=(h2:Int):=by rw[if_pos hk,hl2]
 have HBD:=hid (refBounds_any op hop);rw[hlo,hhi]at HBD;have HV:Hid (∀w',EyeSt w' E s (.ok q)->Calls Tryz.prog 29 #[.pointer (some ⟨E,0,none⟩),.int .i64 (l:Int),.int .i64 (h2:Int)] w' λe w''=>NumSt E s l (rdN s l h2 q) w' e w''):=λw' h=>eyeNumber_st E s (.ok q) l h2 w' hs h (by omega) (by omega);have HA:Hid (rdArg s op q=bd (rdN s l h2 q) λn r=>.ok (⟨op,n,[]⟩,r)):=by
  show _=_;rw[rdArg,if_neg (by rw[hk];decide),if_pos hk,hl1,hl2];rfl
 clear hv h hk hl1 hl2 hbf hlo hhi;have hll':(l:Int)<=(h2:Int):=by omega
 match hr:rdN s l h2 q with
 |.error (c,a)=>
  have HC:=hid (rdN_err hr);have hc:((c:Int)==0)=false:=by rw[beq_eq_false_iff_ne];have:=HC.out.ne;omega
  have HR:Hid (rdIns s p=.error (c,a)):=by
   show _=_;rw[HI.out,HA.out,bd_err hr]
  have HRR:=hid hr;clear hr;go_enter Tryz.func30,Tryz.ntmps30;go_wp2_with (first
   |(go_at_call 29;refine(HN.out _ ((Below.refl _ _).alloc (Nat.le_refl _) _)).mono ?_;rintro e w1 hr;obtain⟨rfl,hS1,hE1⟩:=hr.ok HRV.out;obtain⟨d0,d1,d2,d3,-⟩:=id hS1;have HS1:=hid (show EyeSt w1 E s (.ok q) from⟨hS1,hq⟩);have HO1:=hid (((Off.refl [E] w).alloc _).trans (Off.of_ef hE1 (by simp)));have HB:=hid ((Bx3.new w _ _ _ _).ef hE1 (by omega));obtain⟨r0,r1,r2,k0,k1,k2⟩:=id HB.out;have hR':w.heap.size<w1.heap.size:=HB.out.lt;have hE':E<w1.heap.size:=(by omega);clear hr hS1 hE1 HN)
   |(go_at_call 29;refine(HV.out _ (HS1.out.keep ((Below.refl _ _).alloc (Nat.le_refl _) _))).mono ?_;rintro e w2 hr2;obtain⟨rfl,⟨q2,hS2,hq2⟩,hE2⟩:=hr2.err HRR.out;obtain⟨y0,y1,y2,y3,-⟩:=id hS2;have HS2:=hid hS2;have HO2:=hid (Off.of_ef (bs:=[E]) hE2 (by simp));have HB2:=hid ((HB.out.keep ((Below.refl _ _).alloc (Nat.le_refl _) _)).ef hE2 (by omega));obtain⟨R0,R1,R2,K0,K1,K2⟩:=id HB2.out;have HJ2:=hid ((Bx3.new w1 _ _ _ _).ef hE2 (by omega));obtain⟨I0,I1,I2,J0,J1,J2⟩:=id HJ2.out;have hI':w1.heap.size<w2.heap.size:=HJ2.out.lt;have hE2':E<w2.heap.size:=(by omega);have hR2':w.heap.size<w2.heap.size:=(by omega);clear hr2 hS2 hE2)
   |(go_at_call 50;refine(HBD.out _).mono ?_;rintro e w3 ⟨rfl,rfl⟩))
  have HBX:=hid (HB2.out.off (bs:=[w1.heap.size]) ((Off.refl _ _).set (b:=w1.heap.size) (o:=1) (Or.inl (by simp)) (.int .i64 (l:Int))) (by simp;omega));obtain⟨s0,s1,s2,-,-,-⟩:=HBX.out.put (.int .i64 (op:Int)) (.int .i64 (l:Int)) (.slice none 0 0);refine bodyPost_ret (v:=.agg #[.int .i64 (op:Int),.int .i64 (l:Int),.slice none 0 0]) (by simp[results,Tryz.results30,go_sem,s0,s1,s2]) rfl ?_;refine insDone hE ?_ (((HO1.out.alloc _).trans HO2.out).set (Or.inr (by omega)) _) op l none 0 0 (λx q h=>by rw[HR.out]at h;cases h);rw[HR.out];exact EyeSt.off (bs:=[w1.heap.size]) (w:=w2) (show EyeSt w2 E s (.error (c,a)) from⟨HC.out.ne,q2,HS2.out,hq2⟩) ((Off.refl _ _).set (Or.inl (by simp)) _) (by simp;omega)
 |.ok (n,q2)=>
  have HR:Hid (rdIns s p=.ok (⟨op,n,[]⟩,q2)):=by
   show _=_;rw[HI.out,HA.out,bd_ok hr]
  have hn:=(rdN_ok hr).2.1;have hq2:=(rdN_ok hr).2.2.2;have HRR:=hid hr;clear hr;go_enter Tryz.func30,Tryz.ntmps30;go_wp2_with (first
   |(go_at_call 29;refine(HN.out _ ((Below.refl _ _).alloc (Nat.le_refl _) _)).mono ?_;rintro e w1 hr;obtain⟨rfl,hS1,hE1⟩:=hr.ok HRV.out;obtain⟨d0,d1,d2,d3,-⟩:=id hS1;have HS1:=hid (show EyeSt w1 E s (.ok q) from⟨hS1,hq⟩);have HO1:=hid (((Off.refl [E] w).alloc _).trans (Off.of_ef hE1 (by simp)));have HB:=hid ((Bx3.new w _ _ _ _).ef hE1 (by omega));obtain⟨r0,r1,r2,k0,k1,k2⟩:=id HB.out;have hR':w.heap.size<w1.heap.size:=HB.out.lt;have hE':E<w1.heap.size:=(by omega);clear hr hS1 hE1 HN)
   |(go_at_call 29;refine(HV.out _ (HS1.out.keep ((Below.refl _ _).alloc (Nat.le_refl _) _))).mono ?_;rintro e w2 hr2;obtain⟨rfl,hS2,hE2⟩:=hr2.ok HRR.out;obtain⟨y0,y1,y2,y3,-⟩:=id hS2;have HS2:=hid hS2;have HO2:=hid (Off.of_ef (bs:=[E]) hE2 (by simp));have HB2:=hid ((HB.out.keep ((Below.refl _ _).alloc (Nat.le_refl _) _)).ef hE2 (by omega));obtain⟨R0,R1,R2,K0,K1,K2⟩:=id HB2.out;have HJ2:=hid ((Bx3.new w1 _ _ _ _).ef hE2 (by omega));obtain⟨I0,I1,I2,J0,J1,J2⟩:=id HJ2.out;have hI':w1.heap.size<w2.heap.size:=HJ2.out.lt;have hE2':E<w2.heap.size:=(by omega);have hR2':w.heap.size<w2.heap.size:=(by omega);clear hr2 hS2 hE2)
   |(go_at_call 50;refine(HBD.out _).mono ?_;rintro e w3 ⟨rfl,rfl⟩))
  have HBX:=hid (HB2.out.off (bs:=[w1.heap.size]) ((Off.refl _ _).set (b:=w1.heap.size) (o:=1) (Or.inl (by simp)) (.int .i64 (n:Int))) (by simp;omega));obtain⟨s0,s1,s2,-,-,-⟩:=HBX.out.put (.int .i64 (op:Int)) (.int .i64 (n:Int)) (.slice none 0 0);refine bodyPost_ret (v:=.agg #[.int .i64 (op:Int),.int .i64 (n:Int),.slice none 0 0]) (by simp[results,Tryz.results30,go_sem,s0,s1,s2]) rfl ?_;refine insDone hE ?_ (((HO1.out.alloc _).trans HO2.out).set (Or.inr (by omega)) _) op n none 0 0 (λx q h=>?_)
  ·rw[HR.out];exact EyeSt.off (bs:=[w1.heap.size]) (w:=w2) (show EyeSt w2 E s (.ok q2) from⟨HS2.out,hq2⟩) ((Off.refl _ _).set (Or.inl (by simp)) _) (by simp;omega)
  ·rw[HR.out]at h;cases h;exact⟨rfl,rfl,RowS.nil _ _⟩
def failSt(st:Except (Nat×Nat) Nat)(x:Nat×Nat):Except (Nat×Nat) Nat:=
 match st with
 |.ok _=>.error x
 |.error e=>.error e
theorem eyeFail_st(E:Nat)(s:ByteArray)(st:Except (Nat×Nat) Nat)(c a:Nat)(w:World)(h:EyeSt w E s st)(hc:c≠0):
 Calls Tryz.prog 26 #[.pointer (some ⟨E,0,none⟩),.int .i64 (c:Int),.int .i64 (a:Int)] w λe w'=>e=.returned (.tuple #[])∧EyeSt w' E s (failSt st (c,a))∧EF E w w':=by
 match st,h with
 |.ok p,⟨h1,h2⟩=>
  refine(eyeFail_first E s p 0 c a w h1).mono ?_;rintro e w' ⟨rfl,hS,hE⟩;exact⟨rfl,⟨hc,p,hS,h2⟩,hE⟩
 |.error (c',a'),⟨h0,q,h1,h2⟩=>
  refine(eyeFail_later E s q c' a' c a w h1 h0).mono ?_;rintro e w' ⟨rfl,hS,hE⟩;exact⟨rfl,⟨h0,q,hS,h2⟩,hE⟩
def tagSt(p t:Nat)(l:List LAlt)(st:Except (Nat×Nat) Nat):Except (Nat×Nat) Nat:=if l.any (λx=>x.tag==(t:Int))=true then failSt st (10,p) else st
theorem failSt_twice(st:Except (Nat×Nat) Nat)(x:Nat×Nat):failSt (failSt st x) x=failSt st x:=by cases st<;>rfl
theorem tagSt_err(p t:Nat)(l:List LAlt)(e:Nat×Nat):tagSt p t l (.error e)=.error e:=by unfold tagSt;split<;>rfl
theorem tagSt_hit{p t:Nat}{l:List LAlt}{x:LAlt}{st:Except (Nat×Nat) Nat}(h:x.tag=(t:Int)):tagSt p t (l++[x]) st=failSt (tagSt p t l st) (10,p):=by
 unfold tagSt;rw[if_pos (by rw[List.any_append];simp[h])];split
 ·rw[failSt_twice]
 ·rfl
theorem tagSt_miss{p t:Nat}{l:List LAlt}{x:LAlt}{st:Except (Nat×Nat) Nat}(h:¬x.tag=(t:Int)):tagSt p t (l++[x]) st=tagSt p t l st:=by
 unfold tagSt;rw[List.any_append];simp[h]
theorem alt_step(s:ByteArray)(m:Nat)(got:List LAlt)(p t u:Nat)(h1:∀t' q,rdN s 0 255 p=.ok (t',q)->t=t')(h3:∀u' q,nx (tagSt p t got (stOf (rdN s 0 255 p))) (rdN s 0 65535)=.ok (u',q)->u=u'):
 rdAlts s (m+1) got p=nx (stOf (nx (tagSt p t got (stOf (rdN s 0 255 p))) (rdN s 0 65535))) (rdAlts s m (got++[⟨t,u⟩])):=by
 rw[rdAlts];match h4:rdN s 0 255 p with
 |.error e=>rw[show stOf (α:=Nat) (.error e)=.error e from rfl,tagSt_err];rfl
 |.ok (t',q)=>
  obtain rfl:=h1 _ _ h4;rw[h4]at h3;rw[show stOf (.ok (t,q))=.ok q from rfl]at*;show(if _ then _ else _)=_;unfold tagSt at*;split
  ·rfl
  ·rename_i hn
   rw[if_neg hn]at h3;show _=nx (stOf (rdN s 0 65535 q)) _;match h5:rdN s 0 65535 q with
   |.error e=>rfl
   |.ok (u',r)=>
    obtain rfl:=h3 _ _ h5;rfl
theorem NumSt.any{E:Nat}{s:ByteArray}{lo:Nat}{r:Rd Nat}{w:World}{e:Ending}{w':World}(h:NumSt E s lo r w e w'):∃n:Nat,e=.returned (.int .i64 (n:Int))∧(∀n' q,r=.ok (n',q)->n=n')∧((∃x,r=.error x)->n=lo)∧EyeSt w' E s (stOf r)∧EF E w w':=by
 obtain⟨⟨n',q',h1,h2⟩|⟨x,h1,h2⟩,h3,h4⟩:=h
 ·exact⟨n',h2,(λa b h=>by rw[h1]at h;cases h;rfl),(λ⟨x,h⟩=>by rw[h1]at h;cases h),h3,h4⟩
 ·exact⟨lo,h2,(λa b h=>by rw[h1]at h;cases h),λ_=>rfl,h3,h4⟩
theorem Tryz.altI:(Tryz.prog.info? 78).map (λi=>(i.zero,i.size,i.bytes))=some (some (.agg #[.int .i64 0,.int .i64 0]),2,16):=by kernel_rfl
theorem Tryz.impI:(Tryz.prog.info? 63).map (λi=>(i.zero,i.size,i.bytes))=some (some (.agg #[.string ⟨#[]⟩,.int .i64 0]),2,24):=by kernel_rfl
theorem Tryz.insI:(Tryz.prog.info? 75).map (λi=>(i.zero,i.size,i.bytes))=some (some (.agg #[.int .i64 0,.int .i64 0,.slice none 0 0]),3,40):=by kernel_rfl
theorem Tryz.globI:(Tryz.prog.info? 66).map (λi=>(i.zero,i.size,i.bytes))=some (some (.agg #[.string ⟨#[]⟩,.int .i64 0,.bool false,.slice none 0 0]),4,56):=by kernel_rfl
structure Bx2 (w:World) (b:Nat) (x y:Value):Prop where
 c0:w.cell? ⟨b,0,none⟩=some x
 c1:w.cell? ⟨b,1,none⟩=some y
 f0:w.frozen? ⟨b,0,none⟩=false
 f1:w.frozen? ⟨b,1,none⟩=false
theorem Bx2.new(w:World)(x y:Value)(t:TypeId):Bx2 (w.alloc (.cells #[x,y] t)) w.heap.size x y:=⟨by simp,by simp,by simp,by simp⟩
theorem Bx2.lt{w:World}{b:Nat}{x y:Value}(h:Bx2 w b x y):b<w.heap.size:=block_lt_of_cell h.c0
theorem Bx2.of_block{w w':World}{b:Nat}{x y:Value}(h:Bx2 w b x y)(e:w'.heap[b]?=w.heap[b]?):Bx2 w' b x y:=by
 refine⟨?_,?_,?_,?_⟩
 ·rw[World.cell?_of_block (a:=⟨b,0,none⟩) e];exact h.c0
 ·rw[World.cell?_of_block (a:=⟨b,1,none⟩) e];exact h.c1
 ·rw[World.frozen?_of_block (a:=⟨b,0,none⟩) e];exact h.f0
 ·rw[World.frozen?_of_block (a:=⟨b,1,none⟩) e];exact h.f1
theorem Bx2.off{bs:List Nat}{w w':World}{b:Nat}{x y:Value}(h:Bx2 w b x y)(ho:Off bs w w')(hn:b∉bs):Bx2 w' b x y:=h.of_block (ho.block b h.lt hn)
theorem Bx2.set1{w:World}{b:Nat}{x y:Value}(h:Bx2 w b x y)(u:Value):Bx2 (w.setCell ⟨b,1,none⟩ u) b x u:=
 ⟨by rw[World.cell?_setCell_other _ _ _ _ (off_ne (by omega))];exact h.c0,World.cell?_setCell_same _ _ _ h.c1,by rw[World.frozen?_setCell];exact h.f0,by rw[World.frozen?_setCell];exact h.f1⟩
structure CaseSt (E R I:Nat) (s:ByteArray) (n:Nat) (T:Rd (List LAlt)) (w2 wr:World) (got:List LAlt) (st:Except (Nat×Nat) Nat) (vp:Option Addr) (vc:Nat):Prop where
 le:got.length<=n
 eye:EyeSt wr E s st
 r:Bx3 wr R (.int .i64 0) (.int .i64 0) (.slice none 0 0)
 i:Bx3 wr I (.int .i64 17) (.int .i64 0) (.slice vp got.length vc)
 row:AltsO wr w2.heap.size (.slice vp got.length vc) got
 rd:T=nx st (rdAlts s (n-got.length) got)
 off:Off [E,I] w2 wr
theorem RowS.notIn{α:Type}{cells:α->List Value}{sub:α->List Nat}{ok:World->α->Prop}{e:TypeId}{size:Nat}{w:World}{lo:Nat}{v:Value}{xs:List α}(h:RowS cells sub ok e size w lo v xs){b:Nat}(hb:b<lo):b∉vB v:=λhm=>by have:=h.rg b (List.mem_append_left _ hm);omega
theorem Off.app{w w6:World}{v:Value}(hg:w.grownBy w6 v.ownBlock):Off (vB v) w w6:=(Off.refl _ _).grown hg λ_ e=>Or.inl (mem_vB.2 e)
theorem CaseSt.app{E R I:Nat}{s:ByteArray}{n:Nat}{T:Rd (List LAlt)}{w2 wr X0 w6:World}{got:List LAlt}{st:Except (Nat×Nat) Nat}{vp:Option Addr}{vc:Nat}{ob:Obj}(hc:CaseSt E R I s n T w2 wr got st vp vc)(hOX:Off [E] wr X0)(hEI:I≠E)(hI:I<w2.heap.size)(hg:(X0.alloc ob).grownBy w6 (Value.slice vp got.length vc).ownBlock):Bx3 w6 I (.int .i64 17) (.int .i64 0) (.slice vp got.length vc):=
 ((hc.i.off hOX (by simpa using hEI)).keep ((Below.refl _ _).alloc (Nat.le_refl _) _)).off (Off.app hg) (hc.row.notIn hI)
theorem CaseSt.next{E R I:Nat}{s:ByteArray}{n:Nat}{T:Rd (List LAlt)}{w2 wr X0 w6:World}{got:List LAlt}{p3:Nat}{vp:Option Addr}{vc:Nat}{ob:Obj}(hc:CaseSt E R I s n T w2 wr got (.ok p3) vp vc)(hlt:got.length<n)(hOX:Off [E] wr X0)(hE:E<R)(hR:R<I)(hI:I<w2.heap.size)(t u:Nat)
 (h1:∀t' q,rdN s 0 255 p3=.ok (t',q)->t=t') (h3:∀u' q,nx (tagSt p3 t got (stOf (rdN s 0 255 p3))) (rdN s 0 65535)=.ok (u',q)->u=u') (hS:EyeSt X0 E s (stOf (nx (tagSt p3 t got (stOf (rdN s 0 255 p3))) (rdN s 0 65535))))
 (hg:(X0.alloc ob).grownBy w6 (Value.slice vp got.length vc).ownBlock) {g c:Nat} (hat:(Value.slice vp got.length vc).ownBlock=some g∨g=(X0.alloc ob).heap.size) (hlg:g<w6.heap.size) (hown:w6.ownsRow 0 78 2 (.slice (some ⟨g,0,none⟩) (got.length+1) c) (got.length+1) (got.flatMap altC++[.int .i64 (t:Int),.int .i64 (u:Int)])):
 CaseSt E R I s n T w2 (w6.setCell ⟨I,2,none⟩ (.slice (some ⟨g,0,none⟩) (got.length+1) c)) (got++[⟨t,u⟩]) (stOf (nx (tagSt p3 t got (stOf (rdN s 0 255 p3))) (rdN s 0 65535))) (some ⟨g,0,none⟩) c:=by
 have hl:(got++[(⟨t,u⟩:LAlt)]).length=got.length+1:=by simp
 have hrow:=hc.row.off okAlt hOX (by simp;omega);have hb:Below X0.heap.size X0 (X0.alloc ob):=(Below.refl _ _).alloc (Nat.le_refl _) _;have hsz:w2.heap.size<=X0.heap.size:=Nat.le_trans hc.off.size hOX.size;have hpush:AltsO w6 w2.heap.size (.slice (some ⟨g,0,none⟩) (got.length+1) c) (got++[⟨t,u⟩]):=hrow.push okAlt hsz (λb hb'=>hb.block b (hrow.rg b hb').2) hb.size trivial (λb hb'=>by cases hb') List.nodup_nil hg rfl hat hlg hown;have ho6:Off (vB (Value.slice vp got.length vc)) (X0.alloc ob) w6:=Off.app hg;have hset:∀b,b≠I->Off [I] w6 (w6.setCell ⟨I,2,none⟩ (.slice (some ⟨g,0,none⟩) (got.length+1) c)):=λb _=>(Off.refl _ _).set (Or.inl (by simp)) _;refine⟨by omega,((hS.keep hb).off ho6 (hrow.notIn (by omega))).off (hset E (by omega)) (by simp;omega),(((hc.r.off hOX (by simp;omega)).keep hb).off ho6 (hrow.notIn (by omega))).off (hset R (by omega)) (by simp;omega),?_,?_,?_,?_⟩
 ·rw[hl];exact(hc.app hOX (by omega) hI hg).set2 _
 ·rw[hl];exact hpush.off okAlt (hset E (by omega)) (by simp;omega)
 ·rw[hc.rd];show rdAlts s (n-got.length) got p3=_;rw[show n-got.length=(n-(got++[(⟨t,u⟩:LAlt)]).length)+1 by omega];exact alt_step s _ got p3 t u h1 h3
 ·refine(Off.trans ?_ ((Off.refl _ _).set (Or.inl (by simp)) _));refine(((hc.off.trans (hOX.more (by simp))).alloc ob).grown hg λb e=>Or.inr ?_);exact(hrow.rg b (List.mem_append_left _ (mem_vB.2 e))).1
theorem CaseSt.done{E I:Nat}{s:ByteArray}{n p:Nat}{T:Rd (List LAlt)}{w w2 wr:World}{got:List LAlt}{st:Except (Nat×Nat) Nat}{vp:Option Addr}{vc:Nat}(hc:CaseSt E w.heap.size I s n T w2 wr got st vp vc)(hE:E<w.heap.size)(hI:rdIns s p=bd T λl t=>.ok (⟨17,0,l⟩,t))(hO:Off [E] w w2)(hIw:w.heap.size<I)(hI2:I<w2.heap.size)(hend:(∃e,st=.error e)∨got.length=n):
 InsSt E s (rdIns s p) w (.returned (.agg #[.int .i64 17,.int .i64 0,.slice vp got.length vc])) (((wr.setCell ⟨w.heap.size,0,none⟩ (.int .i64 17)).setCell ⟨w.heap.size,1,none⟩ (.int .i64 0)).setCell ⟨w.heap.size,2,none⟩ (.slice vp got.length vc)):=by
 have hO2:Off [E] w wr:=((hO.more (cs:=[E,I]) (by simp)).trans hc.off).more (by simp;omega);have hst:=hc.eye;have hrow:=hc.row;have hrd:=hc.rd;match st,hend with
 |.error e,_=>
  have hr:rdIns s p=.error e:=by rw[hI,hrd];rfl
  refine insDone hE (by rw[hr];exact hst) hO2 17 0 vp _ vc λx q h=>?_;rw[hr]at h;cases h
 |.ok q,Or.inr hn=>
  have hr:rdIns s p=.ok (⟨17,0,got⟩,q):=by rw[hI,hrd,hn,Nat.sub_self];rfl
  refine insDone hE (by rw[hr];exact hst) hO2 17 0 vp _ vc λx q h=>?_;rw[hr]at h;cases h;exact⟨rfl,rfl,hrow.low (by omega)⟩
theorem eyeIns_case(E:Nat)(s:ByteArray)(p:Nat)(w:World)(hs:s.size<=100000)(h:EyeSt w E s (.ok p))(q:Nat)(hv:rdN s 0 20 p=.ok (17,q)):
 Calls Tryz.prog 30 #[.pointer (some ⟨E,0,none⟩)] w λe w'=>InsSt E s (rdIns s p) w e w':=by
 obtain⟨c0,c1,c2,c3,-⟩:=id h.1;have hE:E<w.heap.size:=block_lt_of_cell c0;have HN:Hid (∀w',Below w.heap.size w w'->Calls Tryz.prog 29 #[.pointer (some ⟨E,0,none⟩),.int .i64 0,.int .i64 20] w' λe w''=>NumSt E s 0 (rdN s 0 20 p) w' e w''):=λw' hb=>eyeNumber_st E s (.ok p) 0 20 w' hs (h.keep hb) (by omega) (by omega);have hq:q<=s.size:=(rdN_ok hv).2.2.2;have HRV:=hid hv;have HBD:=hid (refBounds_any 17 (by omega));have HV:Hid (∀w',EyeSt w' E s (.ok q)->Calls Tryz.prog 29 #[.pointer (some ⟨E,0,none⟩),.int .i64 1,.int .i64 256] w' λe w''=>NumSt E s 1 (rdN s 1 256 q) w' e w''):=λw' h=>eyeNumber_st E s (.ok q) 1 256 w' hs h (by omega) (by omega);have HI:Hid (rdIns s p=bd (bd (rdN s 1 256 q) λn r=>rdAlts s n [] r) λl t=>.ok (⟨17,0,l⟩,t)):=by
  show _=_;rw[rdIns,bd_ok hv];show bd _ _=_;match rdN s 1 256 q with
  |.error e=>rfl
  |.ok (n,r)=>rfl
 have HN4:Hid (∀n' r,rdN s 1 256 q=.ok (n',r)->n'<=256):=λn' r h=>(rdN_ok h).2.1;obtain⟨ai,hai,haa⟩:=Option.map_eq_some_iff.1 Tryz.altI;simp only[Prod.mk.injEq]at haa;obtain⟨ha0,ha1,ha2⟩:=haa;clear hv h;go_enter Tryz.func30,Tryz.ntmps30;go_wp2_with (first
  |(go_at_call 29;refine(HN.out _ ((Below.refl _ _).alloc (Nat.le_refl _) _)).mono ?_;rintro e w1 hr;obtain⟨rfl,hS1,hE1⟩:=hr.ok HRV.out;obtain⟨d0,d1,d2,d3,-⟩:=id hS1;have HS1:=hid (show EyeSt w1 E s (.ok q) from⟨hS1,hq⟩);have HO1:=hid (((Off.refl [E] w).alloc _).trans (Off.of_ef hE1 (by simp)));have HB:=hid ((Bx3.new w _ _ _ _).ef hE1 (by omega));obtain⟨r0,r1,r2,k0,k1,k2⟩:=id HB.out;have hR':w.heap.size<w1.heap.size:=HB.out.lt;have hE':E<w1.heap.size:=(by omega);clear hr hS1 hE1 HN)
  |(go_at_call 50;refine(HBD.out _).mono ?_;rintro e w3 ⟨rfl,rfl⟩)
  |(go_at_call 29;refine(HV.out _ (HS1.out.keep ((Below.refl _ _).alloc (Nat.le_refl _) _))).mono ?_;rintro e w2 hr2;obtain⟨n,rfl,hn1,hn2,hS2,hE2⟩:=hr2.any;have HO2:=hid (Off.of_ef (bs:=[E]) hE2 (by simp));have HB2:=hid ((HB.out.keep ((Below.refl _ _).alloc (Nat.le_refl _) _)).ef hE2 (by omega));have HJ2:=hid ((Bx3.new w1 _ _ _ _).ef hE2 (by omega));have HS2:=hid hS2;have HN1:=hid hn1;have HN2:=hid hn2;clear hr2 hS2 hE2 hn1 hn2))
 have hn:n<=256:=by
  match hm:rdN s 1 256 q with
  |.error e=>have:=HN2.out ⟨e,hm⟩;omega
  |.ok (n',r)=>obtain rfl:=HN1.out _ _ hm;exact HN4.out _ _ hm
 have HC0:Hid (CaseSt E w.heap.size w1.heap.size s n (bd (rdN s 1 256 q) λn r=>rdAlts s n [] r) w2 w2 [] (stOf (rdN s 1 256 q)) none 0):=by
  refine⟨Nat.zero_le _,HS2.out,HB2.out,HJ2.out,RowS.nil _ _,?_,Off.refl _ _⟩;match hm:rdN s 1 256 q with
  |.error e=>rfl
  |.ok (n',r)=>obtain rfl:=HN1.out _ _ hm;rfl
 have HO12:=hid ((HO1.out.alloc (Obj.cells #[Value.int IntKind.i64 17,Value.int IntKind.i64 0,Value.slice none 0 0] 75)).trans HO2.out);have HII:=hid HI.out;have hI2:w1.heap.size<w2.heap.size:=HJ2.out.lt;clear HV HBD HRV HB HS1 HO1 HO2 HB2 HJ2 HS2 HN1 HN2 HN4 r0 r1 r2 k0 k1 k2 d0 d1 d2 d3 c0 c1 c2 c3 HI;generalize hT:(bd (rdN s 1 256 q) λn r=>rdAlts s n [] r)=T at*;clear hT;go_loopw [8] (λkv wr=>∃(got:List LAlt) (st:Except (Nat×Nat) Nat) (vp:Option Addr) (vc:Nat),kv=.int .i64 ((got.length:Nat):Int)∧Hid (CaseSt E w.heap.size w1.heap.size s n T w2 wr got st vp vc)) (λkv _=>n-(intOf kv).toNat)
 case atStart=>exact⟨[],_,none,0,rfl,HC0.out⟩
 case round=>
  obtain⟨got,st,vp,vc,rfl,HC⟩:=hrel;rename World=>wr
  have hle:=HC.out.le;obtain⟨i0,i1,i2,j0,j1,j2⟩:=id HC.out.i;obtain⟨r0,r1,r2,k0,k1,k2⟩:=id HC.out.r;have hIr:w1.heap.size<wr.heap.size:=HC.out.i.lt;have hRr:w.heap.size<wr.heap.size:=HC.out.r.lt;cases st with
  |error x=>
   obtain⟨c,a⟩:=x;obtain⟨hc0,q3,⟨d0,d1,d2,d3,-⟩,hq3⟩:=id HC.out.eye;have hc:((c:Int)==0)=false:=by rw[beq_eq_false_iff_ne];omega
   by_cases hlt:got.length<n;all_goals go_wp2
   all_goals(obtain⟨s0,s1,s2,-,-,-⟩:=HC.out.r.put (.int .i64 17) (.int .i64 0) (.slice vp got.length vc);refine bodyPost_ret (v:=.agg #[.int .i64 17,.int .i64 0,.slice vp got.length vc]) (by simp[results,Tryz.results30,go_sem,s0,s1,s2]) rfl ?_;exact HC.out.done hE HII.out HO12.out hR' hI2 (Or.inl ⟨_,rfl⟩))
  |ok p3=>
   obtain⟨⟨d0,d1,d2,d3,-⟩,hp3⟩:=id HC.out.eye;by_cases hlt:got.length<n
   ·have HST3:=hid (eyeNumber_st E s (.ok p3) 0 255 wr hs HC.out.eye (by omega) (by omega));go_wp2_with (first
     |(go_at_call 29;refine HST3.out.mono ?_;rintro e w3 hr3;obtain⟨t,rfl,ht1,-,hS3,hE3⟩:=hr3.any;have HT:=hid ht1;have HS3:=hid hS3;have HO3:=hid (Off.of_ef (bs:=[E]) hE3 (by simp));have HI3:=hid (HC.out.i.ef hE3 (by omega));have hI3:w1.heap.size<w3.heap.size:=HI3.out.lt;clear hr3 ht1 hS3 hE3))
    have HA3:=hid (Bx2.new w3 (.int .i64 (t:Int)) (.int .i64 0) 78);have HB3:Hid (Below w3.heap.size w3 (w3.alloc (Obj.cells #[.int .i64 (t:Int),.int .i64 0] 78))):=(Below.refl _ _).alloc (Nat.le_refl _) _;have HL0:=hid (HS3.out.keep HB3.out);have HRW:=hid ((HC.out.row.off okAlt HO3.out (by simp;omega)).keep okAlt HB3.out);have HIA:=hid (HI3.out.keep HB3.out);have HRA:=hid ((HC.out.r.off HO3.out (by simp;omega)).keep HB3.out);have HOA:=hid (HO3.out.trans (Off.of_below HB3.out));clear HI3 HS3 HB3 HST3 i0 i1 i2 j0 j1 j2 r0 r1 r2 k0 k1 k2 d0 d1 d2 d3;generalize hWA:w3.alloc (Obj.cells #[.int .i64 (t:Int),.int .i64 0] 78)=wA at*;clear hWA;have hA3:w3.heap.size<wA.heap.size:=HA3.out.lt;go_loopw [11] (λjv wj=>∃j:Nat,j<=got.length∧jv=.int .i64 (j:Int)∧Hid (EyeSt wj E s (tagSt p3 t (got.take j) (stOf (rdN s 0 255 p3))))∧Hid (Off [E] wA wj)) (λjv _=>got.length-(intOf jv).toNat)
    case atStart=>exact⟨0,Nat.zero_le _,rfl,HL0.out,Off.refl _ _⟩
    case round=>
     obtain⟨j,hj,rfl,HSJ,HOJ⟩:=hrel;rename World=>wj
     have HIJ:=hid (HIA.out.off HOJ.out (by simp;omega));have HAJ:=hid (HA3.out.off HOJ.out (by simp;omega));have HRJ:=hid (HRW.out.off okAlt HOJ.out (by simp;omega));obtain⟨i0,i1,i2,j0,j1,j2⟩:=id HIJ.out;obtain⟨a0,a1,b0,b1⟩:=id HAJ.out;obtain⟨pj,ej,plj,⟨d0,d1,d2,d3,-⟩,-,-⟩:=HSJ.out.cells;have hIj:w1.heap.size<wj.heap.size:=HIJ.out.lt;have hAj:w3.heap.size<wj.heap.size:=HAJ.out.lt;by_cases hjl:j<got.length
     ·obtain⟨vp',vc',ev,-,hin⟩:=(AltsO.at HRJ.out (show _<_ by omega)).open;obtain⟨rfl,rfl⟩:vp=vp'∧vc=vc':=by simpa using ev
      obtain⟨g,o,rfl,x0,x1⟩:=hin _ (Below.refl _ _) j hjl;have HTK:Hid (got.take (j+1)=got.take j++[got[j]]):=List.take_succ_eq_append_getElem hjl;have hj1:(0:Int)<=(j:Int):=by omega
      have hj2:(j:Int)<(got.length:Int):=by omega
      clear ev hin x1;by_cases htag:got[j].tag=(t:Int)
      ·have HTH:=hid (tagSt_hit (p:=p3) (l:=got.take j) (st:=stOf (rdN s 0 255 p3)) htag);rw[htag]at x0;go_wp2;go_quiet (fail);go_wp2_with (first
        |(go_at_call 26;refine(eyeFail_st E s _ 10 p3 _ (HSJ.out.keep (below_drewN (Below.refl _ _) _)) (by omega)).mono ?_;rintro e w4 ⟨rfl,hS4,hE4⟩;have HS4:=hid hS4;have HO4:=hid ((HOJ.out.drewN _).trans (Off.of_ef (bs:=[E]) hE4 (by simp)));clear hS4 hE4))
       exact⟨⟨j+1,by omega,by go_num,(by rw[HTK.out,HTH.out];exact HS4.out),HO4.out⟩,by simp[intOf];omega⟩
      ·have HTM:=hid (tagSt_miss (p:=p3) (l:=got.take j) (st:=stOf (rdN s 0 255 p3)) htag);generalize got[j].tag=tg at*;go_wp2;go_quiet (fail);go_wp2;exact⟨⟨j+1,by omega,by go_num,(by rw[HTK.out,HTM.out];exact HSJ.out.keep (below_drewN (Below.refl _ _) _)),HOJ.out.drewN _⟩,by simp[intOf];omega⟩
     ·obtain rfl:j=got.length:=by omega
      have HTA:Hid (EyeSt wj E s (tagSt p3 t got (stOf (rdN s 0 255 p3)))):=by have:=HSJ.out;rw[List.take_length]at this;exact this
      have HNJ:=hid (eyeNumber_st E s _ 0 65535 wj hs HTA.out (by omega) (by omega));have HOR:=hid (HOA.out.trans HOJ.out);have HSZ:=hid HO3.out.size;clear HSJ HTA HRJ HOJ HL0 HA3 HIA HRA HRW;go_wp2_with (first
       |(go_at_call 29;refine HNJ.out.mono ?_;rintro e w5 hr5;obtain⟨u,rfl,hu1,-,hS5,hE5⟩:=hr5.any;have HU:=hid hu1;have HOX:=hid ((HOR.out.trans (Off.of_ef (bs:=[E]) hE5 (by simp))).set (b:=w3.heap.size) (o:=1) (Or.inr HSZ.out) (.int .i64 (u:Int)));have HSX:=hid (hS5.off (bs:=[w3.heap.size]) ((Off.refl _ _).set (b:=w3.heap.size) (o:=1) (Or.inl (by simp)) (.int .i64 (u:Int))) (by simp;omega));have HI5:=hid (HIJ.out.ef hE5 (by omega));have HA5:=hid (HAJ.out.of_block (hE5.block _ hAj (by omega)));obtain⟨I0,I1,I2,J0,J1,J2⟩:=id HI5.out;obtain⟨A0,A1,B0,B1⟩:=id HA5.out;have hI5:w1.heap.size<w5.heap.size:=HI5.out.lt;have hA5:w3.heap.size<w5.heap.size:=HA5.out.lt;clear hr5 hu1 hS5 hE5 HNJ)
       |(at_builtin;refine wpList_append_lies _ rfl (.tmp 93) (.tmp 95) 73 rfl 0 78 ai _ 2 16 Tryz.underlying73 hai ha0 ha1 ha2 rfl (by omega) (.slice vp got.length vc) got.length (got.flatMap altC) rfl ((HC.out.row.off okAlt HOX.out (by simp;omega)).own.alloc _) ⟨w5.heap.size,0,none⟩ 1 1 [.int .i64 (t:Int),.int .i64 (u:Int)] rfl rfl (by simpa using World.news_of_block (heap_alloc_new (w5.setCell ⟨w3.heap.size,1,none⟩ (.int .i64 (u:Int))) (Obj.cells #[.int .i64 (t:Int),.int .i64 (u:Int)] 78))) (by intro u hu;simp at hu;rcases hu with rfl|rfl<;>rfl) (by omega) (by unfold maxLen;omega) (by omega) (Nat.zero_le _) _ rfl ?_;intro g1 k1 w6 hown hgrow hat hlt1;have HI6:=hid (HC.out.app HOX.out (by omega) hI2 hgrow);obtain⟨y0,y1,y2,z0,z1,z2⟩:=id HI6.out;have HNX:=hid (HC.out.next hlt HOX.out hE hR' hI2 t u HT.out HU.out HSX.out hgrow hat hlt1 hown);clear hown hgrow hat hlt1))
      exact⟨⟨_,_,_,_,by simp,HNX.out⟩,by simp[intOf];omega⟩
   ·go_wp2;(obtain⟨s0,s1,s2,-,-,-⟩:=HC.out.r.put (.int .i64 17) (.int .i64 0) (.slice vp got.length vc);refine bodyPost_ret (v:=.agg #[.int .i64 17,.int .i64 0,.slice vp got.length vc]) (by simp[results,Tryz.results30,go_sem,s0,s1,s2]) rfl ?_;exact HC.out.done hE HII.out HO12.out hR' hI2 (Or.inr (by omega)))
theorem eyeIns_any(E:Nat)(s:ByteArray)(p:Nat)(w:World)(hs:s.size<=100000)(h:EyeSt w E s (.ok p)):
 Calls Tryz.prog 30 #[.pointer (some ⟨E,0,none⟩)] w λe w'=>InsSt E s (rdIns s p) w e w':=by
 match hv:rdN s 0 20 p with
 |.error (c,a)=>exact eyeIns_err E s p w hs h c a hv
 |.ok (op,q)=>
  have hop:op<21:=by have:=rdN_ok hv;omega
  obtain⟨f1,f2,f3,f4,f5,f6,f7,f8⟩:=row_facts op hop;by_cases k0:rowN op 0=0
  ·exact eyeIns_none E s p w hs h op q hv k0
  ·by_cases k1:rowN op 0=1
   ·obtain rfl:=f5.1 k1;exact eyeIns_int E s p w hs h q hv
   ·by_cases k3:rowN op 0=3
    ·obtain rfl:=f6.1 k3;exact eyeIns_case E s p w hs h q hv
    ·have k2:rowN op 0=2:=by omega
     have hll:rowN op 1<=rowN op 2:=by
      revert k2;revert op;intro op _ hop;rcases all21 op hop with rfl|rfl|rfl|rfl|rfl|rfl|rfl|rfl|rfl|rfl|rfl|rfl|rfl|rfl|rfl|rfl|rfl|rfl|rfl|rfl|rfl;all_goals first|(intros;decide)|(intro _ _ _ _ _ _ _ _ _ _ _ h;revert h;decide)
     exact eyeIns_bound E s p w hs h op q (rowN op 1).toNat (rowN op 2).toNat hv k2 (by omega) (by omega) (by omega) (by omega)
theorem VarSt.any{E:Nat}{s:ByteArray}{r:Rd Nat}{w:World}{e:Ending}{w':World}(h:VarSt E s r w e w'):∃n:Nat,e=.returned (.int .u64 (n:Int))∧n<18446744073709551616∧(∀n' q,r=.ok (n',q)->n=n')∧EyeSt w' E s (stOf r)∧EF E w w':=by
 obtain⟨⟨n',q',h1,h0,h2⟩|⟨x,h1,h2⟩,h3,h4⟩:=h
 ·exact⟨n',h2,h0,(λa b h=>by rw[h1]at h;cases h;rfl),h3,h4⟩
 ·exact⟨0,h2,by omega,(λa b h=>by rw[h1]at h;cases h),h3,h4⟩
theorem rdNameB_nil(s:ByteArray)(p:Nat):rdNameB s ⟨#[]⟩ [] p=rdName s p:=by
 match h:rdName s p with
 |.error e=>exact rdNameB_n h
 |.ok (t,q)=>
  refine rdNameB_good h ?_;have h1:=(rdName_ok h).2.2.2.2;have h2:gtB t ⟨#[]⟩=true:=by
   rw[gtB_iff];unfold cmpB;match hl:t.data.toList with
   |[]=>
    have h3:t.data.toList.length=0:=by rw[hl];rfl
    rw[Array.length_toList]at h3;have h4:t.size=t.data.size:=rfl;omega
   |a::l=>
    show Lib.compareBytes [] (a::l)<0;simp[Lib.compareBytes]
  rw[h2];rfl
theorem imp_step(s last t:ByteArray)(m:Nat)(got:List LImp)(p a:Nat)(h1:∀t' q,rdNameB s last [] p=.ok (t',q)->t=t')(h2:∀a' q,nx (stOf (rdNameB s last [] p)) (rdN s 0 20)=.ok (a',q)->a=a'):
 rdImps s (m+1) got last p=nx (stOf (nx (stOf (rdNameB s last [] p)) (rdN s 0 20))) (rdImps s m (got++[⟨t,a⟩]) t):=by
 rw[rdImps];match h4:rdNameB s last [] p with
 |.error e=>rfl
 |.ok (t',q)=>
  obtain rfl:=h1 _ _ h4;rw[h4]at h2;show bd (rdN s 0 20 q) _=nx (stOf (rdN s 0 20 q)) _;match h5:rdN s 0 20 q with
  |.error e=>rfl
  |.ok (a',r)=>
   obtain rfl:=h2 _ _ h5;rfl
theorem code_step(s:ByteArray)(m:Nat)(got:List LIns)(p:Nat)(x:LIns)(h1:∀x' q,rdIns s p=.ok (x',q)->x=x'):rdCode s (m+1) got p=nx (stOf (rdIns s p)) (rdCode s m (got++[x])):=by
 rw[rdCode];match h4:rdIns s p with
 |.error e=>rfl
 |.ok (t',q)=>
  obtain rfl:=h1 _ _ h4;rfl
theorem glob_step(s last t:ByteArray)(imps:List LImp)(m:Nat)(got:List LGlob)(p ar ex:Nat)(code:List LIns)(h1:∀t' q,rdNameB s last imps p=.ok (t',q)->t=t')(h2:∀a' q,nx (stOf (rdNameB s last imps p)) (rdN s 0 20)=.ok (a',q)->ar=a')
 (h3:∀a' q,nx (stOf (nx (stOf (rdNameB s last imps p)) (rdN s 0 20))) (rdN s 0 1)=.ok (a',q)->ex=a') (h4:∀l q,bd (nx (stOf (nx (stOf (nx (stOf (rdNameB s last imps p)) (rdN s 0 20))) (rdN s 0 1))) (rdN s 0 65535)) (λc p=>rdCode s c [] p)=.ok (l,q)->code=l):
 rdGlobs s imps (m+1) got last p=nx (stOf (bd (nx (stOf (nx (stOf (nx (stOf (rdNameB s last imps p)) (rdN s 0 20))) (rdN s 0 1))) (rdN s 0 65535)) (λc p=>rdCode s c [] p))) (rdGlobs s imps m (got++[⟨t,ar,(ex:Int)==1,code⟩]) t):=by
 rw[rdGlobs];match k1:rdNameB s last imps p with
 |.error e=>rfl
 |.ok (t',q)=>
  obtain rfl:=h1 _ _ k1;rw[k1]at h2 h3 h4;rw[show stOf (.ok (t,q))=.ok q from rfl]at*;rw[show nx (.ok q) (rdN s 0 20)=rdN s 0 20 q from rfl]at*;show bd (rdGlob s t q) _=_;rw[rdGlob];match k2:rdN s 0 20 q with
  |.error e=>rfl
  |.ok (ar',q2)=>
   obtain rfl:=h2 _ _ k2;rw[k2]at h3 h4;rw[show stOf (.ok (ar,q2))=.ok q2 from rfl]at*;rw[show nx (.ok q2) (rdN s 0 1)=rdN s 0 1 q2 from rfl]at*;show bd (bd (rdN s 0 1 q2) _) _=_;match k3:rdN s 0 1 q2 with
   |.error e=>rfl
   |.ok (ex',q3)=>
    obtain rfl:=h3 _ _ k3;rw[k3]at h4;rw[show stOf (.ok (ex,q3))=.ok q3 from rfl]at*;rw[show nx (.ok q3) (rdN s 0 65535)=rdN s 0 65535 q3 from rfl]at*;show bd (bd (rdN s 0 65535 q3) _) _=_;match k4:rdN s 0 65535 q3 with
    |.error e=>rfl
    |.ok (c,q4)=>
     rw[k4]at h4;show bd (bd (rdCode s c [] q4) _) _=nx (stOf (rdCode s c [] q4)) _;match k5:rdCode s c [] q4 with
     |.error e=>rfl
     |.ok (l,q5)=>
      obtain rfl:=h4 _ _ k5;rfl
theorem obj_chain(s nm:ByteArray)(imps:List LImp)(h2:∀t q,nx (stOf (rdMark s 4 0)) (rdNameB s ⟨#[]⟩ [])=.ok (t,q)->nm=t)(hi:∀l q,bd (nx (stOf (nx (stOf (rdMark s 4 0)) (rdNameB s ⟨#[]⟩ []))) (rdV s)) (λn p=>rdImps s n [] ⟨#[]⟩ p)=.ok (l,q)->imps=l):
 rdObj s=bd (bd (nx (stOf (bd (nx (stOf (nx (stOf (rdMark s 4 0)) (rdNameB s ⟨#[]⟩ []))) (rdV s)) (λn p=>rdImps s n [] ⟨#[]⟩ p))) (rdV s)) (λm p=>rdGlobs s imps m [] ⟨#[]⟩ p)) λgs p=>if p<s.size then .error (11,p) else .ok (⟨nm,imps,gs⟩,p):=by
 rw[rdObj];match k1:rdMark s 4 0 with
 |.error e=>rfl
 |.ok (u,p)=>
  rw[k1]at h2 hi;rw[show stOf (.ok (u,p))=.ok p from rfl]at*;rw[show nx (.ok p) (rdNameB s ⟨#[]⟩ [])=rdNameB s ⟨#[]⟩ [] p from rfl,rdNameB_nil]at*;show bd (rdName s p) _=_;match k2:rdName s p with
  |.error e=>rfl
  |.ok (t,p2)=>
   obtain rfl:=h2 _ _ k2;rw[k2]at hi;rw[show stOf (.ok (nm,p2))=.ok p2 from rfl]at*;rw[show nx (.ok p2) (rdV s)=rdV s p2 from rfl]at*;show bd (rdV s p2) _=_;match k3:rdV s p2 with
   |.error e=>rfl
   |.ok (n,p3)=>
    rw[k3]at hi;show bd (rdImps s n [] ⟨#[]⟩ p3) _=bd (bd (nx (stOf (rdImps s n [] ⟨#[]⟩ p3)) _) _) _;match k4:rdImps s n [] ⟨#[]⟩ p3 with
    |.error e=>rfl
    |.ok (l,p4)=>
     obtain rfl:=hi _ _ k4;show bd (rdV s p4) _=bd (bd (rdV s p4) _) _;match k5:rdV s p4 with
     |.error e=>rfl
     |.ok (m,p5)=>rfl
end Go.Proofs.YtefpamchdheldaaGreatDoor
