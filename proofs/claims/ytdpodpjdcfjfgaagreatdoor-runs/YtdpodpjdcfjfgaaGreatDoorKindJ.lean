import Derived.Test.YtdpodpjdcfjfgaaGreatDoorAs3J
set_option maxRecDepth 100000
set_option maxHeartbeats 16000000
namespace Go.Proofs.YtdpodpjdcfjfgaaGreatDoor
open Go.RowKit
def kNum(i:Nat):Nat:=[19,11,12,13,0,5,1,2,7,8,9,10,3,4,6,14,15,16,17].getD i 0
def kCode(i:Nat):Int:=[(15:Int),12,13,14,1,4,6,7,8,9,10,11,2,3,5,16,17,18,19].getD i 0
def errE(a:Addr):Value:=.iface 577 (.pointer (some a))
def errF(a:Addr)(k n:Int):Value:=.iface 195 (.agg #[.iface 577 (.pointer (some a)),.int .i64 k,.int .i64 n])
structure SentAt (w:World) (adr:Nat->Addr):Prop where
 c:∀i,(0<=i∧i<19)->w.cell? ⟨kNum i,0,none⟩=some (errE (adr i))
 o:∀i,(0<=i∧i<19)->∃c t,w.heap[(adr i).block]?=some (.cells c t (0,0))
 ne:∀i j,(0<=i∧i<19)->(0<=j∧j<19)->i≠j->adr i≠adr j
 et:w.cell? ⟨18,0,none⟩=some (.iface 366 (.agg #[.pointer (some ⟨27,103,none⟩)]))
theorem SentAt.keep{w w':World}{adr:Nat->Addr}(h:SentAt w adr)(hb:Below w.heap.size w w'):SentAt w' adr:=by
 refine⟨λi hi=>cell_keep hb (h.c i hi),λi hi=>?_,h.ne,cell_keep hb h.et⟩;obtain⟨c,t,e⟩:=h.o i hi;refine⟨c,t,?_⟩;rw[hb.block]
 ·exact e
 ·rcases Nat.lt_or_ge (adr i).block w.heap.size with h1|h1
  ·exact h1
  ·rw[Array.getElem?_eq_none h1]at e;cases e
theorem isF_any{w:World}{adr:Nat->Addr}(h:SentAt w adr)(i j:Nat)(hi:0<=i∧i<19)(hj:0<=j∧j<19)(k n:Int):
 Calls Tryz.prog 80 #[errF (adr i) k n,errE (adr j)] w λe w'=>e=.returned (.bool (decide (i=j)))∧Below w.heap.size w w':=by
 by_cases e:i=j
 ·subst e;refine(is_fault_same (adr i) k n w).mono ?_;rintro e w' ⟨rfl,hb⟩;exact⟨by simp,hb⟩
 ·obtain⟨c1,t1,e1⟩:=h.o i hi;obtain⟨c2,t2,e2⟩:=h.o j hj;refine(is_fault_other (adr i) (adr j) c1 c2 t1 t2 k n w (h.ne i j hi hj e) e1 e2).mono ?_;rintro e w' ⟨rfl,hb⟩;exact⟨by simp[e],hb⟩
theorem isE_any{w:World}{adr:Nat->Addr}(h:SentAt w adr)(i j:Nat)(hi:0<=i∧i<19)(hj:0<=j∧j<19):
 Calls Tryz.prog 80 #[errE (adr i),errE (adr j)] w λe w'=>e=.returned (.bool (decide (i=j)))∧Below w.heap.size w w':=by
 by_cases e:i=j
 ·subst e;refine(is_same (adr i) w).mono ?_;rintro e w' ⟨rfl,rfl⟩;exact⟨by simp,Below.refl _ _⟩
 ·obtain⟨c1,t1,e1⟩:=h.o i hi;obtain⟨c2,t2,e2⟩:=h.o j hj;refine(is_other (adr i) (adr j) c1 c2 t1 t2 w (h.ne i j hi hj e) e1 e2).mono ?_;rintro e w' ⟨rfl,rfl⟩;exact⟨by simp[e],Below.refl _ _⟩
theorem kCode_zero{i:Nat}(h:i=0):(15:Int)=kCode i:=by rw[h];rfl
theorem ret_int{a b:Int}(h:a=b):Ending.returned (.int .i64 a)=.returned (.int .i64 b):=by rw[h]
def Cells11(w:World)(adr:Nat->Addr):Prop:=
 w.cell? ⟨0,0,none⟩=some (.iface 577 (.pointer (some (adr 4))))∧w.cell? ⟨5,0,none⟩=some (.iface 577 (.pointer (some (adr 5))))∧w.cell? ⟨1,0,none⟩=some (.iface 577 (.pointer (some (adr 6))))∧w.cell? ⟨2,0,none⟩=some (.iface 577 (.pointer (some (adr 7))))∧w.cell? ⟨7,0,none⟩=some (.iface 577 (.pointer (some (adr 8))))∧w.cell? ⟨8,0,none⟩=some (.iface 577 (.pointer (some (adr 9))))∧w.cell? ⟨9,0,none⟩=some (.iface 577 (.pointer (some (adr 10))))∧w.cell? ⟨10,0,none⟩=some (.iface 577 (.pointer (some (adr 11))))∧w.cell? ⟨11,0,none⟩=some (.iface 577 (.pointer (some (adr 1))))∧w.cell? ⟨12,0,none⟩=some (.iface 577 (.pointer (some (adr 2))))∧w.cell? ⟨13,0,none⟩=some (.iface 577 (.pointer (some (adr 3))))∧w.cell? ⟨3,0,none⟩=some (.iface 577 (.pointer (some (adr 12))))∧w.cell? ⟨4,0,none⟩=some (.iface 577 (.pointer (some (adr 13))))∧w.cell? ⟨6,0,none⟩=some (.iface 577 (.pointer (some (adr 14))))∧w.cell? ⟨14,0,none⟩=some (.iface 577 (.pointer (some (adr 15))))∧w.cell? ⟨15,0,none⟩=some (.iface 577 (.pointer (some (adr 16))))∧w.cell? ⟨16,0,none⟩=some (.iface 577 (.pointer (some (adr 17))))∧w.cell? ⟨17,0,none⟩=some (.iface 577 (.pointer (some (adr 18))))
theorem SentAt.cells{w:World}{adr:Nat->Addr}(h:SentAt w adr):Cells11 w adr:=
 ⟨h.c 4 (by omega),h.c 5 (by omega),h.c 6 (by omega),h.c 7 (by omega),h.c 8 (by omega),h.c 9 (by omega),h.c 10 (by omega),h.c 11 (by omega),h.c 1 (by omega),h.c 2 (by omega),h.c 3 (by omega),h.c 12 (by omega),h.c 13 (by omega),h.c 14 (by omega),h.c 15 (by omega),h.c 16 (by omega),h.c 17 (by omega),h.c 18 (by omega)⟩
def AsksAs(w:World)(adr:Nat->Addr)(t:TypeId)(x:Value)(i:Nat):Prop:=∀w',Below w.heap.size w w'->∀j,(0<=j∧j<19)->Calls Tryz.prog 80 #[.iface t x,.iface 577 (.pointer (some (adr j)))] w' λe w''=>e=.returned (.bool (decide (i=j)))∧Below w.heap.size w w''
theorem kind_asked0(w:World)(adr:Nat->Addr)(hS:∀w',Below w.heap.size w w'->Cells11 w' adr)(t:TypeId)(x:Value)(i:Nat)(hi:0<=i∧i<19)(hA:AsksAs w adr t x i):
 Calls Tryz.prog 45 #[.iface t x] w λe w'=>e=.returned (.int .i64 (kCode i))∧Below w.heap.size w w':=by
 have HIS:Hid (∀w',Below w.heap.size w w'->∀j,(0<=j∧j<19)->Calls Tryz.prog 80 #[.iface t x,.iface 577 (.pointer (some (adr j)))] w' λe w''=>e=.returned (.bool (decide (i=j)))∧Below w.heap.size w w''∧Cells11 w'' adr):=by
  intro w' hb j hj;refine(hA w' hb j hj).mono ?_;rintro e w'' ⟨h1,h2⟩;exact⟨h1,h2,hS _ h2⟩
 obtain⟨d4,d5,d6,d7,d8,d9,d10,d11,d1,d2,d3,d12,d13,d14,d15,d16,d17,d18⟩:=hS w (Below.refl _ _);have hb1:=Below.refl w.heap.size w;have HI:Hid ((0<=i∧i<19)):=hi;clear hS hA hi;go_enter Tryz.func45,Tryz.ntmps45;go_wp2_with (first|(go_at_call 80;refine(HIS.out _ hb1 _ (by omega)).mono ?_;clear hb1 d4 d5 d6 d7 d8 d9 d10 d11 d1 d2 d3 d12 d13 d14 d15 d16 d17 d18;rintro e w1 ⟨rfl,hb1,d4,d5,d6,d7,d8,d9,d10,d11,d1,d2,d3,d12,d13,d14,d15,d16,d17,d18⟩))
 all_goals
  go_ret;refine⟨ret_int ?_,hb1⟩;have hi:=HI.out;clear HIS HI d4 d5 d6 d7 d8 d9 d10 d11 d1 d2 d3 d12 d13 d14 d15 d16 d17 d18 hb1;first
   |(subst_vars;rfl)
   |(exact kCode_zero (by omega))
theorem kind_asked(w:World)(adr:Nat->Addr)(hS:SentAt w adr)(t:TypeId)(x:Value)(i:Nat)(hi:0<=i∧i<19)(hA:AsksAs w adr t x i):
 Calls Tryz.prog 45 #[.iface t x] w λe w'=>e=.returned (.int .i64 (kCode i))∧Below w.heap.size w w':=
 kind_asked0 w adr (λ_ hb=>(hS.keep hb).cells) t x i hi hA
theorem kind_fault{w:World}{adr:Nat->Addr}(hS:SentAt w adr)(i:Nat)(hi:0<=i∧i<19)(k n:Int):
 Calls Tryz.prog 45 #[errF (adr i) k n] w λe w'=>e=.returned (.int .i64 (kCode i))∧Below w.heap.size w w':=
 kind_asked w adr hS _ _ i hi λ_ hb j hj=>(isF_any (hS.keep hb) i j hi hj k n).mono λ_ _ ⟨h1,h2⟩=>⟨h1,hb.trans (h2.mono hb.size)⟩
theorem kind_plain{w:World}{adr:Nat->Addr}(hS:SentAt w adr)(i:Nat)(hi:0<=i∧i<19):
 Calls Tryz.prog 45 #[errE (adr i)] w λe w'=>e=.returned (.int .i64 (kCode i))∧Below w.heap.size w w':=
 kind_asked w adr hS _ _ i hi λ_ hb j hj=>(isE_any (hS.keep hb) i j hi hj).mono λ_ _ ⟨h1,h2⟩=>⟨h1,hb.trans (h2.mono hb.size)⟩
theorem kind_nil(w:World):Calls Tryz.prog 45 #[.nilIface] w λe w'=>e=.returned (.int .i64 0)∧w'=w:=by
 go_enter Tryz.func45,Tryz.ntmps45;go_wp2;go_ret;exact⟨rfl,rfl⟩
end Go.Proofs.YtdpodpjdcfjfgaaGreatDoor
