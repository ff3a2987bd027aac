import Derived.Test.YtdpodpjdcfjfgaaGreatDoorProg
import Derived.WalkKit
import Derived.WalkSpells
import Derived.WalkLawsBesides
import Derived.Deep.QuietTactic
import Derived.BigQuiet
import Derived.Lib.QuietBelow
namespace Go.Proofs.YtdpodpjdcfjfgaaGreatDoor
open Go.RowKit

def isLet (c : Int) : Bool := decide (97 ≤ c) && decide (c ≤ 122)
def isDig (c : Int) : Bool := decide (48 ≤ c) && decide (c ≤ 57)

set_option maxHeartbeats 400000 in
theorem isLetter_any (c : Int) (w : World) : Calls Tryz.prog 237 #[.int .u8 c] w fun e w' => e = .returned (.bool (isLet c)) ∧ w' = w := by
  go_enter Tryz.func237, Tryz.ntmps237
  go_wp2
  all_goals go_ret
  all_goals refine ⟨?_, rfl⟩
  all_goals simp_all [isLet]
  all_goals omega

set_option maxHeartbeats 400000 in
theorem isDigit_any (c : Int) (w : World) : Calls Tryz.prog 238 #[.int .u8 c] w fun e w' => e = .returned (.bool (isDig c)) ∧ w' = w := by
  go_enter Tryz.func238, Tryz.ntmps238
  go_wp2
  all_goals go_ret
  all_goals refine ⟨?_, rfl⟩
  all_goals simp_all [isDig]
  all_goals omega


def arB (c : Int) : Bool := decide (0 ≤ c) && decide (c ≤ 20)

set_option maxHeartbeats 400000 in
theorem isArity_any (c : Int) (w : World) : Calls Tryz.prog 239 #[.int .i64 c] w fun e w' => e = .returned (.bool (arB c)) ∧ w' = w := by
  go_enter Tryz.func239, Tryz.ntmps239
  go_wp2
  all_goals go_ret
  all_goals refine ⟨?_, rfl⟩
  all_goals simp_all [arB]
  all_goals omega

set_option maxHeartbeats 400000 in
theorem isOp_any (c : Int) (w : World) : Calls Tryz.prog 346 #[.int .i64 c] w fun e w' => e = .returned (.bool (decide (0 ≤ c) && decide (c < 21))) ∧ w' = w := by
  go_enter Tryz.func346, Tryz.ntmps346
  go_wp2
  all_goals go_ret
  all_goals refine ⟨?_, rfl⟩
  all_goals simp_all
  all_goals omega

def endsB (c : Int) : Bool := c == 17 || c == 18 || c == 19 || c == 20
set_option maxHeartbeats 400000 in
theorem ends_any (c : Int) (w : World) : Calls Tryz.prog 193 #[.int .i64 c] w fun e w' => e = .returned (.bool (endsB c)) ∧ w' = w := by
  go_enter Tryz.func193, Tryz.ntmps193
  go_wp2
  all_goals go_ret
  all_goals refine ⟨?_, rfl⟩
  all_goals simp_all [endsB]

set_option maxHeartbeats 400000 in
theorem num_any (c : Int) (w : World) : Calls Tryz.prog 17 #[.int .i64 c] w fun e w' => e = .returned (.int .i64 c) ∧ w' = w := by
  go_enter Tryz.func17, Tryz.ntmps17
  go_wp2
  all_goals go_ret
  all_goals refine ⟨?_, rfl⟩
  all_goals simp_all

set_option maxHeartbeats 400000 in
theorem kindOf_any (k : Nat) (x : Int) (w : World) (hk : k < 21) (hx : w.cell? ⟨21, k * 7, none⟩ = some (.int .i64 x)) : Calls Tryz.prog 300 #[.int .i64 k] w fun e w' => e = .returned (.int .i64 x) ∧ w' = w := by
  go_enter Tryz.func300, Tryz.ntmps300
  go_wp2
  all_goals go_ret
  all_goals refine ⟨?_, rfl⟩
  all_goals simp_all

end Go.Proofs.YtdpodpjdcfjfgaaGreatDoor

namespace Go.Proofs.YtdpodpjdcfjfgaaGreatDoor
open Go.RowKit

set_option maxHeartbeats 400000 in
theorem bounds_any (k : Nat) (x y : Int) (w : World) (hk : k < 21) (hx : w.cell? ⟨21, k * 7 + 1, none⟩ = some (.int .i64 x)) (hy : w.cell? ⟨21, k * 7 + 2, none⟩ = some (.int .i64 y)) :
    Calls Tryz.prog 347 #[.int .i64 k] w fun e w' => e = .returned (.tuple #[.int .i64 x, .int .i64 y]) ∧ ∃ n, w' = w.drewN n := by
  go_enter Tryz.func347, Tryz.ntmps347
  go_wp2
  go_quiet (fail)
  go_wp2
  all_goals go_ret2
  all_goals refine ⟨?_, _, rfl⟩
  all_goals simp_all

def amt (op a : Int) : Int := if op = 15 then a.tmod 256 else a

set_option maxHeartbeats 400000 in
theorem amount_any (op a : Int) (al : Value) (w : World) :
    Calls Tryz.prog 251 #[.agg #[.int .i64 op, .int .i64 a, al]] w fun e w' => e = .returned (.int .i64 (amt op a)) ∧ Below w.heap.size w w' := by
  go_enter Tryz.func251, Tryz.ntmps251
  go_wp2
  all_goals go_ret
  all_goals refine ⟨?_, (Below.refl _ _).alloc (Nat.le_refl _) _⟩
  all_goals simp_all [amt]

end Go.Proofs.YtdpodpjdcfjfgaaGreatDoor

namespace Go.Proofs.YtdpodpjdcfjfgaaGreatDoor
open Go.RowKit

structure LAlt where
  tag : Int
  «to» : Int
structure LIns where
  op : Int
  a : Int
  alts : List LAlt
structure LImp where
  name : ByteArray
  arity : Int
structure LGlob where
  name : ByteArray
  arity : Int
  exp : Bool
  code : List LIns
structure LObj where
  name : ByteArray
  imps : List LImp
  globs : List LGlob

/-- a list's bound: what the form's reach gives -/
def short (n : Nat) : Prop := n < 140737488355328
theorem short.le {n : Nat} (h : short n) : n < 140737488355328 := h

/-- the alternatives that a slice holds -/
def AltsAt (w : World) (v : Value) (l : List LAlt) : Prop :=
  ∃ p cap, v = .slice p l.length cap ∧ short l.length ∧ ∀ i (h : i < l.length), ∃ b o, p = some ⟨b, o, none⟩ ∧ w.cell? ⟨b, o + i * 2, none⟩ = some (.int .i64 l[i].tag) ∧ w.cell? ⟨b, o + i * 2 + 1, none⟩ = some (.int .i64 l[i].to)

def CodeAt (w : World) (v : Value) (l : List LIns) : Prop :=
  ∃ p cap, v = .slice p l.length cap ∧ short l.length ∧ ∀ i (h : i < l.length), ∃ b o av, p = some ⟨b, o, none⟩ ∧ w.cell? ⟨b, o + i * 3, none⟩ = some (.int .i64 l[i].op) ∧ w.cell? ⟨b, o + i * 3 + 1, none⟩ = some (.int .i64 l[i].a) ∧ w.cell? ⟨b, o + i * 3 + 2, none⟩ = some av ∧ AltsAt w av l[i].alts

def ImpsAt (w : World) (v : Value) (l : List LImp) : Prop :=
  ∃ p cap, v = .slice p l.length cap ∧ short l.length ∧ ∀ i (h : i < l.length), ∃ b o, p = some ⟨b, o, none⟩ ∧ w.cell? ⟨b, o + i * 2, none⟩ = some (.string l[i].name) ∧ w.cell? ⟨b, o + i * 2 + 1, none⟩ = some (.int .i64 l[i].arity) ∧ l[i].name.size ≤ maxLen

def GlobsAt (w : World) (v : Value) (l : List LGlob) : Prop :=
  ∃ p cap, v = .slice p l.length cap ∧ short l.length ∧ ∀ i (h : i < l.length), ∃ b o cv, p = some ⟨b, o, none⟩ ∧ w.cell? ⟨b, o + i * 4, none⟩ = some (.string l[i].name) ∧ w.cell? ⟨b, o + i * 4 + 1, none⟩ = some (.int .i64 l[i].arity) ∧ w.cell? ⟨b, o + i * 4 + 2, none⟩ = some (.bool l[i].exp) ∧ w.cell? ⟨b, o + i * 4 + 3, none⟩ = some cv ∧ CodeAt w cv l[i].code ∧ l[i].name.size ≤ maxLen

def ObjAt (w : World) (v : Value) (O : LObj) : Prop :=
  ∃ iv gv, v = .agg #[.string O.name, iv, gv] ∧ O.name.size ≤ maxLen ∧ ImpsAt w iv O.imps ∧ GlobsAt w gv O.globs

theorem cell_keep {w w' : World} (hb : Below w.heap.size w w') {a : Addr} {v : Value} (h : w.cell? a = some v) : w'.cell? a = some v := by
  rw [hb.cell (block_lt_of_cell h)]; exact h

theorem bcell {W w1 : World} (hb : Below W.heap.size W w1) : (∀ b o, b < W.heap.size → w1.cell? ⟨b, o, none⟩ = W.cell? ⟨b, o, none⟩) ∧ (∀ b o, b < W.heap.size → w1.frozen? ⟨b, o, none⟩ = W.frozen? ⟨b, o, none⟩) :=
  ⟨fun b o h => hb.cell (p := ⟨b, o, none⟩) h, fun b o h => hb.frozen (p := ⟨b, o, none⟩) h⟩

theorem AltsAt.keep {w w' : World} (hb : Below w.heap.size w w') {v : Value} {l : List LAlt} (h : AltsAt w v l) : AltsAt w' v l := by
  obtain ⟨p, cap, e, hs, hc⟩ := h
  refine ⟨p, cap, e, hs, fun i hi => ?_⟩
  obtain ⟨b, o, e2, h0, h1⟩ := hc i hi
  exact ⟨b, o, e2, cell_keep hb h0, cell_keep hb h1⟩
theorem CodeAt.keep {w w' : World} (hb : Below w.heap.size w w') {v : Value} {l : List LIns} (h : CodeAt w v l) : CodeAt w' v l := by
  obtain ⟨p, cap, e, hs, hc⟩ := h
  refine ⟨p, cap, e, hs, fun i hi => ?_⟩
  obtain ⟨b, o, av, e2, h0, h1, h2, h3⟩ := hc i hi
  exact ⟨b, o, av, e2, cell_keep hb h0, cell_keep hb h1, cell_keep hb h2, h3.keep hb⟩
theorem ImpsAt.keep {w w' : World} (hb : Below w.heap.size w w') {v : Value} {l : List LImp} (h : ImpsAt w v l) : ImpsAt w' v l := by
  obtain ⟨p, cap, e, hs, hc⟩ := h
  refine ⟨p, cap, e, hs, fun i hi => ?_⟩
  obtain ⟨b, o, e2, h0, h1, h2⟩ := hc i hi
  exact ⟨b, o, e2, cell_keep hb h0, cell_keep hb h1, h2⟩
theorem GlobsAt.keep {w w' : World} (hb : Below w.heap.size w w') {v : Value} {l : List LGlob} (h : GlobsAt w v l) : GlobsAt w' v l := by
  obtain ⟨p, cap, e, hs, hc⟩ := h
  refine ⟨p, cap, e, hs, fun i hi => ?_⟩
  obtain ⟨b, o, cv, e2, h0, h1, h2, h3, h4, h5⟩ := hc i hi
  exact ⟨b, o, cv, e2, cell_keep hb h0, cell_keep hb h1, cell_keep hb h2, cell_keep hb h3, h4.keep hb, h5⟩
theorem ObjAt.keep {w w' : World} (hb : Below w.heap.size w w') {v : Value} {O : LObj} (h : ObjAt w v O) : ObjAt w' v O := by
  obtain ⟨iv, gv, e, hn, hi, hg⟩ := h
  exact ⟨iv, gv, e, hn, hi.keep hb, hg.keep hb⟩

/-- what a slice's places hold, laid open: in whatever later world -/
def AltsIn (w : World) (p : Option Addr) (l : List LAlt) : Prop :=
  ∀ i (h : i < l.length), ∃ b o, p = some ⟨b, o, none⟩ ∧ w.cell? ⟨b, o + i * 2, none⟩ = some (.int .i64 l[i].tag) ∧ w.cell? ⟨b, o + i * 2 + 1, none⟩ = some (.int .i64 l[i].to)
def CodeIn (w : World) (p : Option Addr) (l : List LIns) : Prop :=
  ∀ i (h : i < l.length), ∃ b o ap an ac, p = some ⟨b, o, none⟩ ∧ w.cell? ⟨b, o + i * 3, none⟩ = some (.int .i64 l[i].op) ∧ w.cell? ⟨b, o + i * 3 + 1, none⟩ = some (.int .i64 l[i].a) ∧ w.cell? ⟨b, o + i * 3 + 2, none⟩ = some (.slice ap an ac) ∧ AltsAt w (.slice ap an ac) l[i].alts
def ImpsIn (w : World) (p : Option Addr) (l : List LImp) : Prop :=
  ∀ i (h : i < l.length), ∃ b o, p = some ⟨b, o, none⟩ ∧ w.cell? ⟨b, o + i * 2, none⟩ = some (.string l[i].name) ∧ w.cell? ⟨b, o + i * 2 + 1, none⟩ = some (.int .i64 l[i].arity) ∧ l[i].name.size ≤ maxLen
def GlobsIn (w : World) (p : Option Addr) (l : List LGlob) : Prop :=
  ∀ i (h : i < l.length), ∃ b o cp cn cc, p = some ⟨b, o, none⟩ ∧ w.cell? ⟨b, o + i * 4, none⟩ = some (.string l[i].name) ∧ w.cell? ⟨b, o + i * 4 + 1, none⟩ = some (.int .i64 l[i].arity) ∧ w.cell? ⟨b, o + i * 4 + 2, none⟩ = some (.bool l[i].exp) ∧ w.cell? ⟨b, o + i * 4 + 3, none⟩ = some (.slice cp cn cc) ∧ CodeAt w (.slice cp cn cc) l[i].code ∧ l[i].name.size ≤ maxLen

theorem AltsAt.open {w : World} {v : Value} {l : List LAlt} (h : AltsAt w v l) : ∃ p cap, v = .slice p l.length cap ∧ l.length < 140737488355328 ∧ ∀ w', Below w.heap.size w w' → AltsIn w' p l := by
  obtain ⟨p, cap, e, hs, hc⟩ := h
  refine ⟨p, cap, e, hs.le, fun w' hb i hi => ?_⟩
  obtain ⟨b, o, e2, h0, h1⟩ := hc i hi
  exact ⟨b, o, e2, cell_keep hb h0, cell_keep hb h1⟩
theorem CodeAt.open {w : World} {v : Value} {l : List LIns} (h : CodeAt w v l) : ∃ p cap, v = .slice p l.length cap ∧ l.length < 140737488355328 ∧ ∀ w', Below w.heap.size w w' → CodeIn w' p l := by
  obtain ⟨p, cap, e, hs, hc⟩ := h
  refine ⟨p, cap, e, hs.le, fun w' hb i hi => ?_⟩
  obtain ⟨b, o, av, e2, h0, h1, h2, h3⟩ := hc i hi
  obtain ⟨ap, ac, rfl, -, -⟩ := id h3
  exact ⟨b, o, ap, _, ac, e2, cell_keep hb h0, cell_keep hb h1, cell_keep hb h2, h3.keep hb⟩
theorem ImpsAt.open {w : World} {v : Value} {l : List LImp} (h : ImpsAt w v l) : ∃ p cap, v = .slice p l.length cap ∧ l.length < 140737488355328 ∧ ∀ w', Below w.heap.size w w' → ImpsIn w' p l := by
  obtain ⟨p, cap, e, hs, hc⟩ := h
  refine ⟨p, cap, e, hs.le, fun w' hb i hi => ?_⟩
  obtain ⟨b, o, e2, h0, h1, h2⟩ := hc i hi
  exact ⟨b, o, e2, cell_keep hb h0, cell_keep hb h1, h2⟩
theorem GlobsAt.open {w : World} {v : Value} {l : List LGlob} (h : GlobsAt w v l) : ∃ p cap, v = .slice p l.length cap ∧ l.length < 140737488355328 ∧ ∀ w', Below w.heap.size w w' → GlobsIn w' p l := by
  obtain ⟨p, cap, e, hs, hc⟩ := h
  refine ⟨p, cap, e, hs.le, fun w' hb i hi => ?_⟩
  obtain ⟨b, o, cv, e2, h0, h1, h2, h3, h4, h5⟩ := hc i hi
  obtain ⟨cp, cc, rfl, -, -⟩ := id h4
  exact ⟨b, o, cp, _, cc, e2, cell_keep hb h0, cell_keep hb h1, cell_keep hb h2, cell_keep hb h3, h4.keep hb, h5⟩

end Go.Proofs.YtdpodpjdcfjfgaaGreatDoor

namespace Go.Proofs.YtdpodpjdcfjfgaaGreatDoor
open Go.RowKit

set_option maxHeartbeats 4000000 in
theorem sameIns_any (code : List LIns) (va vb : Value) (w : World) (hA : CodeAt w va code) (hB : CodeAt w vb code) :
    Calls Tryz.prog 49 #[va, vb] w fun e w' => e = .returned (.bool true) ∧ Below w.heap.size w w' := by
  obtain ⟨p, cap, rfl, hs1, hca⟩ := hA.open
  obtain ⟨q, cbp, rfl, -, hcb⟩ := hB.open
  have HA : Hid (∀ w', Below w.heap.size w w' → CodeIn w' p code) := hca
  have HB : Hid (∀ w', Below w.heap.size w w' → CodeIn w' q code) := hcb
  clear hA hB hca hcb
  go_enter Tryz.func49, Tryz.ntmps49
  go_wp2
  go_loopw [5] (fun i wr => ∃ k : Nat, k ≤ code.length ∧ i = .int .i64 k ∧ Below w.heap.size w wr) (fun i _ => code.length - (intOf i).toNat)
  case atStart => exact ⟨0, Nat.zero_le _, rfl, Below.refl _ _⟩
  case round =>
    obtain ⟨k, hk, rfl, hb⟩ := hrel
    by_cases hlt : k < code.length
    · obtain ⟨b, o, ap, an, ac, rfl, x0, x1, x2, hAl⟩ := HA.out _ hb k hlt
      obtain ⟨b2, o2, ap2, an2, ac2, rfl, y0, y1, y2, hBl⟩ := HB.out _ hb k hlt
      obtain ⟨ap', ac', e1, hs2, hal⟩ := hAl.open
      obtain ⟨rfl, rfl, rfl⟩ : ap = ap' ∧ an = code[k].alts.length ∧ ac = ac' := by simpa using e1
      obtain ⟨bp', bc', e2, -, hbl⟩ := hBl.open
      obtain ⟨rfl, rfl, rfl⟩ : ap2 = bp' ∧ an2 = code[k].alts.length ∧ ac2 = bc' := by simpa using e2
      have HAL : Hid (∀ w', Below wr.heap.size wr w' → AltsIn w' ap code[k].alts) := hal
      have HBL : Hid (∀ w', Below wr.heap.size wr w' → AltsIn w' ap2 code[k].alts) := hbl
      have hk1 : (0 : Int) ≤ (k : Int) := by omega
      have hk2 : (k : Int) < (code.length : Int) := by omega
      clear hAl hBl hal hbl e1 e2
      generalize code[k].op = op at *
      generalize code[k].a = a at *
      generalize code[k].alts = alts at *
      rename World => W0
      go_wp2
      go_quiet (fail)
      go_wp2
      go_loopw [6] (fun i wr => ∃ j : Nat, j ≤ alts.length ∧ i = .int .i64 j ∧ Hid (Below W0.heap.size W0 wr) ∧ wr.cell? ⟨b, o + k * 3 + 2, none⟩ = some (.slice ap alts.length ac) ∧ wr.cell? ⟨b2, o2 + k * 3 + 2, none⟩ = some (.slice ap2 alts.length ac2)) (fun i _ => alts.length - (intOf i).toNat)
      case atStart => exact ⟨0, Nat.zero_le _, rfl, below_drewN (Below.refl _ _) _, x2, y2⟩
      case round =>
        obtain ⟨j, hj, rfl, hbj, u2, v2⟩ := hrel
        clear x0 x1 x2 y0 y1 y2
        by_cases hjl : j < alts.length
        · obtain ⟨ab, ao, rfl, t0, t1⟩ := HAL.out _ hbj.out j hjl
          obtain ⟨ab2, ao2, rfl, s0, s1⟩ := HBL.out _ hbj.out j hjl
          have hj1 : (0 : Int) ≤ (j : Int) := by omega
          have hj2 : (j : Int) < (alts.length : Int) := by omega
          generalize alts[j].tag = tg at *
          generalize alts[j].to = tto at *
          go_wp2
          go_quiet (fail)
          go_wp2
          exact ⟨⟨j + 1, by omega, by go_num, below_drewN hbj.out _, u2, v2⟩, by simp [intOf]; omega⟩
        · go_wp2
          exact ⟨⟨k + 1, by omega, by go_num, hb.trans (hbj.out.mono hb.size)⟩, by simp [intOf]; omega⟩
    · go_wp2
      go_ret
      exact ⟨rfl, hb⟩

/-- what a boxed object's cells hold -/
def BoxAt (w : World) (B : Nat) (v : Value) : Prop := ∃ n i g, v = .agg #[.string n, i, g] ∧ w.cell? ⟨B, 0, none⟩ = some (.string n) ∧ w.cell? ⟨B, 1, none⟩ = some i ∧ w.cell? ⟨B, 2, none⟩ = some g

set_option maxHeartbeats 8000000 in
theorem Same_any (O : LObj) (va vb : Value) (w : World) (hA : ObjAt w va O) (hB : ObjAt w vb O) :
    Calls Tryz.prog 16 #[va, vb] w fun e w' => e = .returned (.bool true) ∧ Below w.heap.size w w' := by
  obtain ⟨ia, ga, rfl, hsz, hIA, hGA⟩ := hA
  obtain ⟨ib, gb, rfl, -, hIB, hGB⟩ := hB
  obtain ⟨ip, ic, rfl, hs1, hia⟩ := hIA.open
  obtain ⟨gp, gc, rfl, hs2, hga⟩ := hGA.open
  obtain ⟨iq, id, rfl, -, hib⟩ := hIB.open
  obtain ⟨gq, gd, rfl, -, hgb⟩ := hGB.open
  have HIA : Hid (∀ w', Below w.heap.size w w' → ImpsIn w' ip O.imps) := hia
  have HIB : Hid (∀ w', Below w.heap.size w w' → ImpsIn w' iq O.imps) := hib
  have HGA : Hid (∀ w', Below w.heap.size w w' → GlobsIn w' gp O.globs) := hga
  have HGB : Hid (∀ w', Below w.heap.size w w' → GlobsIn w' gq O.globs) := hgb
  clear hIA hGA hIB hGB hia hga hib hgb
  generalize O.name = nm at *
  generalize O.imps = imps at *
  generalize O.globs = globs at *
  go_enter Tryz.func16, Tryz.ntmps16
  go_wp2
  go_loopw [5] (fun i wr => ∃ k : Nat, k ≤ imps.length ∧ i = .int .i64 k ∧ Hid (Below w.heap.size w wr) ∧ wr.cell? ⟨w.heap.size, 1, none⟩ = some (.slice ip imps.length ic) ∧ wr.cell? ⟨w.heap.size, 2, none⟩ = some (.slice gp globs.length gc) ∧ wr.cell? ⟨w.heap.size + 1, 1, none⟩ = some (.slice iq imps.length id) ∧ wr.cell? ⟨w.heap.size + 1, 2, none⟩ = some (.slice gq globs.length gd) ∧ w.heap.size + 1 < wr.heap.size) (fun i _ => imps.length - (intOf i).toNat)
  case atStart => exact ⟨0, Nat.zero_le _, rfl, ((Below.refl _ _).alloc (Nat.le_refl _) _).alloc (by simp) _, by simp, by simp, by simp, by simp, by simp⟩
  case round =>
    obtain ⟨k, hk, rfl, hb, q1, q2, q3, q4, hz⟩ := hrel
    by_cases hlt : k < imps.length
    · obtain ⟨b, o, rfl, x0, x1, -⟩ := HIA.out _ hb.out k hlt
      obtain ⟨b2, o2, rfl, y0, y1, -⟩ := HIB.out _ hb.out k hlt
      have hk1 : (0 : Int) ≤ (k : Int) := by omega
      have hk2 : (k : Int) < (imps.length : Int) := by omega
      generalize imps[k].name = n0 at *
      generalize imps[k].arity = a0 at *
      go_wp2
      go_quiet (fail)
      go_wp2
      exact ⟨⟨k + 1, by omega, by go_num, below_drewN hb.out _, q1, q2, q3, q4, hz⟩, by simp [intOf]; omega⟩
    · go_wp2
      go_loopw [6] (fun i wr => ∃ k : Nat, k ≤ globs.length ∧ i = .int .i64 k ∧ Hid (Below w.heap.size w wr) ∧ wr.cell? ⟨w.heap.size, 2, none⟩ = some (.slice gp globs.length gc) ∧ wr.cell? ⟨w.heap.size + 1, 2, none⟩ = some (.slice gq globs.length gd) ∧ w.heap.size + 1 < wr.heap.size) (fun i _ => globs.length - (intOf i).toNat)
      case atStart => exact ⟨0, Nat.zero_le _, rfl, hb, q2, q4, hz⟩
      case round =>
        obtain ⟨j, hj, rfl, hbj, r2, r4, hzj⟩ := hrel
        clear q1 q2 q3 q4 hz hb
        by_cases hjl : j < globs.length
        · obtain ⟨b, o, cp, cn, cc, rfl, x0, x1, x2, x3, hCA, -⟩ := HGA.out _ hbj.out j hjl
          obtain ⟨b2, o2, cp2, cn2, cc2, rfl, y0, y1, y2, y3, hCB, -⟩ := HGB.out _ hbj.out j hjl
          have HCA : Hid (CodeAt wr (.slice cp cn cc) globs[j].code) := hCA
          have HCB : Hid (CodeAt wr (.slice cp2 cn2 cc2) globs[j].code) := hCB
          have hj1 : (0 : Int) ≤ (j : Int) := by omega
          have hj2 : (j : Int) < (globs.length : Int) := by omega
          have hbs := hbj.out.size
          have lb : b < wr.heap.size := block_lt_of_cell x0
          have lb2 : b2 < wr.heap.size := block_lt_of_cell y0
          clear hCA hCB
          generalize globs[j].name = n0 at *
          generalize globs[j].arity = a0 at *
          generalize globs[j].exp = e0 at *
          generalize globs[j].code = code at *
          go_wp2_with (first | (go_at_call 49; refine (sameIns_any code _ _ _ ?_ ?_).mono ?_; exact HCA.out.keep (((Below.refl _ _).alloc (Nat.le_refl _) _).alloc (by simp) _); exact HCB.out.keep (((Below.refl _ _).alloc (Nat.le_refl _) _).alloc (by simp) _); rintro e w3 ⟨rfl, hb3⟩; obtain ⟨z0, z1⟩ := bcell hb3))
          have hbf : Below wr.heap.size wr w3 := (((Below.refl _ _).alloc (Nat.le_refl _) _).alloc (by simp) _).trans (hb3.mono (by simp; omega))
          exact ⟨⟨j + 1, by omega, by go_num, hbj.out.trans (hbf.mono hbs), cell_keep hbf r2, cell_keep hbf r4, by have := hbf.size; omega⟩, by simp [intOf]; omega⟩
        · go_wp2
          go_ret
          exact ⟨rfl, hbj.out⟩

end Go.Proofs.YtdpodpjdcfjfgaaGreatDoor

namespace Go.Proofs.YtdpodpjdcfjfgaaGreatDoor

/-! the sum: the register that is turned round against division over the field of two -/
def cP : BitVec 32 := 0x04C11DB7#32
def cPr : BitVec 32 := 0xEDB88320#32
def cT (r : BitVec 32) : BitVec 32 := (r <<< 1) ^^^ (if r.getLsbD 31 then cP else 0#32)
def cR (r : BitVec 32) : BitVec 32 := (r >>> 1) ^^^ (if r.getLsbD 0 then cPr else 0#32)
def cB (b : Bool) : BitVec 32 := if b then 1#32 else 0#32
def iterT : Nat → BitVec 32 → BitVec 32
  | 0, r => r
  | n + 1, r => cT (iterT n r)

theorem cP_rev : ∀ i, i < 32 → cPr.getLsbD i = cP.getLsbD (31 - i) := by decide
theorem ite_bit (c : Bool) (x : BitVec 32) (i : Nat) : (if c then x else 0#32).getLsbD i = (c && x.getLsbD i) := by cases c <;> simp
theorem cT_bit (r : BitVec 32) (i : Nat) (hi : i < 32) : (cT r).getLsbD i = ((decide (0 < i) && r.getLsbD (i - 1)) ^^ (r.getLsbD 31 && cP.getLsbD i)) := by
  unfold cT
  rw [BitVec.getLsbD_xor, ite_bit, BitVec.getLsbD_shiftLeft]
  by_cases h : 0 < i
  · simp [hi, h, show ¬ i < 1 by omega]
  · simp [show i = 0 by omega]
theorem cR_bit (r : BitVec 32) (i : Nat) : (cR r).getLsbD i = (r.getLsbD (1 + i) ^^ (r.getLsbD 0 && cPr.getLsbD i)) := by
  unfold cR
  rw [BitVec.getLsbD_xor, ite_bit, BitVec.getLsbD_ushiftRight]
theorem cT_xor (a b : BitVec 32) : cT (a ^^^ b) = cT a ^^^ cT b := by
  apply BitVec.eq_of_getLsbD_eq
  intro i hi
  rw [BitVec.getLsbD_xor, cT_bit _ _ hi, cT_bit _ _ hi, cT_bit _ _ hi, BitVec.getLsbD_xor, BitVec.getLsbD_xor]
  cases a.getLsbD 31 <;> cases b.getLsbD 31 <;> cases cP.getLsbD i <;> cases a.getLsbD (i - 1) <;> cases b.getLsbD (i - 1) <;> cases decide (0 < i) <;> rfl
theorem cR_xor (a b : BitVec 32) : cR (a ^^^ b) = cR a ^^^ cR b := by
  apply BitVec.eq_of_getLsbD_eq
  intro i hi
  rw [BitVec.getLsbD_xor, cR_bit, cR_bit, cR_bit, BitVec.getLsbD_xor, BitVec.getLsbD_xor]
  cases a.getLsbD 0 <;> cases b.getLsbD 0 <;> cases cPr.getLsbD i <;> cases a.getLsbD (1 + i) <;> cases b.getLsbD (1 + i) <;> rfl
theorem cT_zero : cT 0#32 = 0#32 := by decide
theorem rev_bit (r : BitVec 32) (i : Nat) (hi : i < 32) : r.reverse.getLsbD i = r.getLsbD (31 - i) := by
  rw [BitVec.getLsbD_reverse, BitVec.getMsbD]
  simp [hi]
/-- one step turned round -/
theorem cR_rev (c : BitVec 32) : (cR c).reverse = cT c.reverse := by
  apply BitVec.eq_of_getLsbD_eq
  intro i hi
  rw [rev_bit _ _ hi, cR_bit, cT_bit _ _ hi, rev_bit _ 31 (by omega), cP_rev _ (by omega), show 31 - (31 - i) = i by omega, show 31 - 31 = 0 from rfl]
  by_cases h : 0 < i
  · rw [rev_bit _ (i - 1) (by omega), show 31 - (i - 1) = 1 + (31 - i) by omega]
    simp [h]
  · obtain rfl : i = 0 := by omega
    simp
theorem rev_xor (a b : BitVec 32) : (a ^^^ b).reverse = a.reverse ^^^ b.reverse := by
  apply BitVec.eq_of_getLsbD_eq
  intro i hi
  rw [BitVec.getLsbD_xor, rev_bit _ _ hi, rev_bit _ _ hi, rev_bit _ _ hi, BitVec.getLsbD_xor]
theorem iterT_xor (a b : BitVec 32) : ∀ n, iterT n (a ^^^ b) = iterT n a ^^^ iterT n b
  | 0 => rfl
  | n + 1 => by simp only [iterT]; rw [iterT_xor a b n, cT_xor]
theorem iterT_zero : ∀ n, iterT n 0#32 = 0#32
  | 0 => rfl
  | n + 1 => by simp only [iterT]; rw [iterT_zero n, cT_zero]
theorem iterT_add (m : Nat) (a : BitVec 32) : ∀ n, iterT (m + n) a = iterT n (iterT m a)
  | 0 => rfl
  | n + 1 => by rw [← Nat.add_assoc]; simp only [iterT]; rw [iterT_add m a n]
theorem iterT_succ' (n : Nat) (a : BitVec 32) : iterT (n + 1) a = iterT n (cT a) := by
  rw [Nat.add_comm, iterT_add 1 a n]; rfl
theorem iterT_32 (b : Bool) : iterT 32 (cB b) = if b then cP else 0#32 := by cases b <;> decide

/-- the message's bits, the lowest of each byte first; none behind its end -/
def mBit (s : List UInt8) (k : Nat) : Bool := decide (k < 8 * s.length) && (s.getD (k / 8) 0).toNat.testBit (k % 8)
/-- division: of the message alone; of the ones alone; of both -/
def divM (s : List UInt8) : Nat → BitVec 32
  | 0 => 0#32
  | k + 1 => cT (divM s k) ^^^ cB (mBit s k)
def divO : Nat → BitVec 32
  | 0 => 0#32
  | k + 1 => cT (divO k) ^^^ cB (decide (k < 32))
def divB (s : List UInt8) : Nat → BitVec 32
  | 0 => 0#32
  | k + 1 => cT (divB s k) ^^^ cB (mBit s k ^^ decide (k < 32))
theorem cB_xor (a b : Bool) : cB (a ^^ b) = cB a ^^^ cB b := by cases a <;> cases b <;> decide
theorem divB_split (s : List UInt8) : ∀ k, divB s k = divM s k ^^^ divO k
  | 0 => by simp [divB, divM, divO]
  | k + 1 => by
    simp only [divB, divM, divO]
    rw [divB_split s k, cT_xor, cB_xor]
    ac_rfl
set_option maxRecDepth 100000 in
theorem divO_32 : divO 32 = 0xFFFFFFFF#32 := by decide
theorem divO_add : ∀ j, divO (32 + j) = iterT j 0xFFFFFFFF#32
  | 0 => divO_32
  | j + 1 => by
    rw [← Nat.add_assoc]
    simp only [divO, iterT]
    rw [divO_add j, show decide (32 + j < 32) = false by simp]
    simp [cB]
theorem divM_add (s : List UInt8) : ∀ j, divM s (8 * s.length + j) = iterT j (divM s (8 * s.length))
  | 0 => rfl
  | j + 1 => by
    rw [← Nat.add_assoc]
    simp only [divM, iterT]
    rw [divM_add s j, show mBit s (8 * s.length + j) = false by unfold mBit; rw [decide_eq_false (by omega)]; rfl]
    simp [cB]
/-- the register, bit by bit -/
def regB (s : List UInt8) : Nat → BitVec 32
  | 0 => 0xFFFFFFFF#32
  | k + 1 => cT (regB s k) ^^^ (if mBit s k then cP else 0#32)
theorem regB_eq (s : List UInt8) : ∀ k, regB s k = iterT k 0xFFFFFFFF#32 ^^^ iterT 32 (divM s k)
  | 0 => by rw [show divM s 0 = 0#32 from rfl, iterT_zero 32]; simp [regB, iterT]
  | k + 1 => by
    simp only [regB, divM]
    rw [regB_eq s k, cT_xor, iterT_xor, iterT_32, ← iterT_succ' 32]
    simp only [iterT]
    rw [BitVec.xor_assoc]
/-- both roads come to the same -/
theorem div_reg (s : List UInt8) : divB s (8 * s.length + 32) = regB s (8 * s.length) := by
  rw [divB_split, regB_eq, divM_add, Nat.add_comm (8 * s.length) 32, divO_add, BitVec.xor_comm]
/-- the register as the program has it, byte by byte -/
def iterR : Nat → BitVec 32 → BitVec 32
  | 0, r => r
  | n + 1, r => cR (iterR n r)
def regP (s : List UInt8) : Nat → BitVec 32
  | 0 => 0xFFFFFFFF#32
  | i + 1 => iterR 8 (regP s i ^^^ BitVec.ofNat 32 (s.getD i 0).toNat)

def stepB (c : BitVec 32) (b : Nat) : Nat → BitVec 32
  | 0 => c
  | j + 1 => cR (stepB c b j ^^^ cB (b.testBit j))
theorem cR_shl (z : BitVec 32) (hz : z.getLsbD 31 = false) : cR (z <<< 1) = z := by
  apply BitVec.eq_of_getLsbD_eq
  intro i hi
  rw [cR_bit, BitVec.getLsbD_shiftLeft, BitVec.getLsbD_shiftLeft]
  by_cases h : i = 31
  · subst h; rw [hz]; simp
  · simp [show 1 + i < 32 by omega, show 1 + i - 1 = i by omega]
theorem split_bit (n : Nat) : BitVec.ofNat 32 n = cB (n.testBit 0) ^^^ (BitVec.ofNat 32 (n / 2) <<< 1) := by
  apply BitVec.eq_of_getLsbD_eq
  intro i hi
  rw [BitVec.getLsbD_xor, BitVec.getLsbD_shiftLeft, BitVec.getLsbD_ofNat, BitVec.getLsbD_ofNat]
  have h1 : (cB (n.testBit 0)).getLsbD i = (n.testBit 0 && decide (i = 0)) := by
    unfold cB
    split
    · rename_i h; rw [h]; simp [BitVec.getLsbD_one]
    · rename_i h; simp at h; simp [h]
  rw [h1]
  by_cases h : i = 0
  · subst h; simp
  · obtain ⟨k, rfl⟩ : ∃ k, i = k + 1 := ⟨i - 1, by omega⟩
    simp [hi, Nat.testBit_succ, show k < 32 by omega]
theorem iterR_step (c : BitVec 32) (b : Nat) (hb : b < 256) : ∀ j, iterR j (c ^^^ BitVec.ofNat 32 b) = stepB c b j ^^^ BitVec.ofNat 32 (b / 2 ^ j)
  | 0 => by simp [iterR, stepB]
  | j + 1 => by
    simp only [iterR, stepB]
    rw [iterR_step c b hb j, split_bit (b / 2 ^ j), ← BitVec.xor_assoc, cR_xor, cR_shl, Nat.div_div_eq_div_mul, ← Nat.pow_succ]
    · congr 3
      simp [Nat.testBit, Nat.shiftRight_eq_div_pow]
    · rw [BitVec.getLsbD_ofNat, Nat.div_div_eq_div_mul, ← Nat.pow_succ]
      have : b / 2 ^ (j + 1) < 2 ^ 31 := Nat.lt_of_le_of_lt (Nat.div_le_self _ _) (by omega)
      simp [Nat.testBit_lt_two_pow this]
theorem rev_cB (b : Bool) : cT (cB b).reverse = if b then cP else 0#32 := by
  cases b
  · have : (cB false).reverse = 0#32 := by
      apply BitVec.eq_of_getLsbD_eq
      intro i hi
      rw [rev_bit _ _ hi]; simp [cB]
    rw [this]; exact cT_zero
  · have : (cB true).reverse = 0x80000000#32 := by
      apply BitVec.eq_of_getLsbD_eq
      intro i hi
      rw [rev_bit _ _ hi]
      revert i
      decide
    rw [this]; decide
theorem stepB_reg (s : List UInt8) (i : Nat) (hi : i < s.length) (c : BitVec 32) (hc : c.reverse = regB s (8 * i)) : ∀ j, j ≤ 8 → (stepB c (s.getD i 0).toNat j).reverse = regB s (8 * i + j)
  | 0, _ => hc
  | j + 1, hj => by
    rw [← Nat.add_assoc]
    simp only [stepB, regB]
    rw [cR_rev, rev_xor, cT_xor, stepB_reg s i hi c hc j (by omega), rev_cB]
    have : mBit s (8 * i + j) = (s.getD i 0).toNat.testBit j := by
      unfold mBit
      rw [show (8 * i + j) / 8 = i by omega, show (8 * i + j) % 8 = j by omega]
      simp [show 8 * i + j < 8 * s.length by omega]
    rw [this]
theorem regP_reg (s : List UInt8) : ∀ i, i ≤ s.length → (regP s i).reverse = regB s (8 * i)
  | 0, _ => by
    apply BitVec.eq_of_getLsbD_eq
    intro i hi
    rw [rev_bit _ _ hi]
    simp only [regP, regB]
    revert i
    decide
  | i + 1, hi => by
    simp only [regP]
    have hb : (s.getD i 0).toNat < 256 := (s.getD i 0).toNat_lt
    rw [iterR_step _ _ hb 8, show (s.getD i 0).toNat / 2 ^ 8 = 0 by omega]
    have := stepB_reg s i (by omega) _ (regP_reg s i (by omega)) 8 (by omega)
    simpa [Nat.mul_add] using this
/-- what is left of the division, turned round, is the register -/
theorem div_regP (s : List UInt8) : (divB s (8 * s.length + 32)).reverse = regP s s.length := by
  rw [div_reg, ← regP_reg s s.length (Nat.le_refl _)]
  apply BitVec.eq_of_getLsbD_eq
  intro i hi
  rw [rev_bit _ _ hi, rev_bit _ _ (by omega), show 31 - (31 - i) = i by omega]

/-! the same in numbers -/
theorem ref_step (r : BitVec 32) (b : Bool) : (cT r ^^^ cB b).toNat = if 4294967296 ≤ 2 * r.toNat + b.toNat then (2 * r.toNat + b.toNat) ^^^ 4374732215 else 2 * r.toNat + b.toNat := by
  have hr := r.isLt
  have hm : r.getLsbD 31 = decide (2147483648 ≤ r.toNat) := by
    rw [BitVec.getLsbD, Nat.testBit_eq_decide_div_mod_eq]
    by_cases h : 2147483648 ≤ r.toNat
    · simp only [h, decide_true, decide_eq_true_eq]; omega
    · simp only [h, decide_false, decide_eq_false_iff_not]; omega
  have hc : (cB b).toNat = b.toNat := by cases b <;> rfl
  have he : ∀ n : Nat, n % 2 = 0 → n ^^^ b.toNat = n + b.toNat := by
    intro n hn
    cases b
    · simp
    · obtain ⟨m, rfl⟩ : ∃ m, n = 2 * m := ⟨n / 2, by omega⟩
      apply Nat.eq_of_testBit_eq
      intro i
      rw [Nat.testBit_xor]
      cases i with
      | zero => simp [Nat.testBit_zero]
      | succ i =>
        rw [Nat.testBit_succ, Nat.testBit_succ, Nat.testBit_succ]
        simp [show (2 * m + 1) / 2 = m by omega]
  unfold cT
  rw [BitVec.toNat_xor, BitVec.toNat_xor, BitVec.toNat_shiftLeft, hc, hm]
  by_cases h : 2147483648 ≤ r.toNat
  · simp only [h, decide_true, if_true]
    rw [if_pos (by omega)]
    have h1 : r.toNat <<< 1 % 2 ^ 32 = 2 * r.toNat - 4294967296 := by rw [Nat.shiftLeft_eq]; omega
    have h2 : (2 * r.toNat + b.toNat) ^^^ 4374732215 < 4294967296 := by
      have h3 : ((2 * r.toNat + b.toNat) ^^^ 4374732215) / 2 ^ 32 = ((2 * r.toNat + b.toNat) / 2 ^ 32) ^^^ (4374732215 / 2 ^ 32) := Nat.xor_div_two_pow
      have hb : b.toNat ≤ 1 := by cases b <;> simp
      rw [show (2 * r.toNat + b.toNat) / 2 ^ 32 = 1 by omega] at h3
      simp at h3
      omega
    have h4 : ((2 * r.toNat + b.toNat) ^^^ 4374732215) % 2 ^ 32 = ((2 * r.toNat + b.toNat) % 2 ^ 32) ^^^ (4374732215 % 2 ^ 32) := Nat.xor_mod_two_pow
    rw [Nat.mod_eq_of_lt (by omega)] at h4
    have hb : b.toNat ≤ 1 := by cases b <;> simp
    rw [h4, h1, show (2 * r.toNat + b.toNat) % 2 ^ 32 = (2 * r.toNat - 4294967296) + b.toNat by omega, ← he _ (by omega)]
    rw [show (cP).toNat = 79764919 from rfl, show 4374732215 % 2 ^ 32 = 79764919 from rfl]
    generalize 79764919 = q
    rw [Nat.xor_assoc, Nat.xor_assoc, Nat.xor_comm q]
  · have hb : b.toNat ≤ 1 := by cases b <;> simp
    rw [decide_eq_false h, if_neg (by simp), show (0#32).toNat = 0 from rfl, Nat.xor_zero]
    rw [if_neg (by omega), Nat.shiftLeft_eq, Nat.mod_eq_of_lt (by omega), show r.toNat * 2 ^ 1 = 2 * r.toNat by omega]
    exact he _ (by omega)
theorem prog_step (c : BitVec 32) : (cR c).toNat = if c.toNat % 2 = 1 then (c.toNat / 2) ^^^ 3988292384 else c.toNat / 2 := by
  unfold cR
  have h0 : c.getLsbD 0 = decide (c.toNat % 2 = 1) := by rw [BitVec.getLsbD, Nat.testBit_zero]
  rw [BitVec.toNat_xor, BitVec.toNat_ushiftRight, h0, Nat.shiftRight_eq_div_pow]
  by_cases h : c.toNat % 2 = 1
  · simp only [h, decide_true, if_true]
    rfl
  · simp [h]
/-- the division's rest, read from its lowest bit on, each bit turned -/
def sumK (r : Nat) : Nat → Nat
  | 0 => 0
  | k + 1 => 2 * sumK r k + (1 - r / 2 ^ k % 2)
theorem sumK_bit (r : Nat) : ∀ k i, (sumK r k).testBit i = (decide (i < k) && !r.testBit (k - 1 - i))
  | 0, i => by simp [sumK]
  | k + 1, i => by
    cases i with
    | zero =>
      rw [Nat.testBit_zero]
      simp only [sumK, Nat.add_sub_cancel, Nat.sub_zero]
      rw [Nat.testBit_eq_decide_div_mod_eq]
      rcases Nat.mod_two_eq_zero_or_one (r / 2 ^ k) with h | h
      · simp [h]
      · simp [h]
    | succ i =>
      rw [Nat.testBit_succ]
      simp only [sumK]
      rw [show (2 * sumK r k + (1 - r / 2 ^ k % 2)) / 2 = sumK r k by omega, sumK_bit r k i, show k + 1 - 1 - (i + 1) = k - 1 - i by omega]
      simp
theorem sumK_lt (r : Nat) : ∀ k, sumK r k < 2 ^ k
  | 0 => by simp [sumK]
  | k + 1 => by
    have := sumK_lt r k
    simp only [sumK, Nat.pow_succ]
    omega
theorem sumK_eq (r : BitVec 32) : sumK r.toNat 32 = (~~~ r.reverse).toNat := by
  apply Nat.eq_of_testBit_eq
  intro i
  rw [sumK_bit]
  by_cases h : i < 32
  · rw [show (~~~ r.reverse).toNat.testBit i = (~~~ r.reverse).getLsbD i from rfl, BitVec.getLsbD_not, rev_bit _ _ h]
    simp only [h, decide_true, Bool.true_and]
    rfl
  · rw [show (~~~ r.reverse).toNat.testBit i = (~~~ r.reverse).getLsbD i from rfl, BitVec.getLsbD_of_ge _ _ (by omega)]
    simp [h]
/-- the sum of a text -/
def crc (s : List UInt8) : Nat := (~~~ regP s s.length).toNat
theorem crc_ref (s : List UInt8) : sumK (divB s (8 * s.length + 32)).toNat 32 = crc s := by rw [sumK_eq, div_regP]; rfl
theorem crc_prog (s : List UInt8) : crc s = 4294967295 - (regP s s.length).toNat := by
  unfold crc
  rw [BitVec.toNat_not]
theorem crc_lt (s : List UInt8) : crc s < 4294967296 := (~~~ regP s s.length).isLt

end Go.Proofs.YtdpodpjdcfjfgaaGreatDoor

namespace Go.Proofs.YtdpodpjdcfjfgaaGreatDoor
open Go.RowKit Go.Sort

theorem ret_bool' {a b : Bool} (h : a = b) : Ending.returned (.bool a) = .returned (.bool b) := by rw [h]
theorem alloc_cell (w : World) (o : Array Value) (t : TypeId) (i : Nat) (v : Value) (h : o[i]? = some v) : (w.alloc (.cells o t)).cell? ⟨w.heap.size, i, none⟩ = some v := by
  simp [h]

theorem alloc_old (w : World) (o : Obj) (b i : Nat) (v : Value) (h : w.cell? ⟨b, i, none⟩ = some v) : (w.alloc o).cell? ⟨b, i, none⟩ = some v := by
  rw [((Below.refl _ _).alloc (Nat.le_refl _) o).cell (block_lt_of_cell h)]; exact h

set_option maxHeartbeats 400000 in
theorem behind_any (k : Nat) (a d : Int) (al : Value) (r5 r6 : Int) (w : World) (hk : k < 21) (h5 : w.cell? ⟨21, k * 7 + 5, none⟩ = some (.int .i64 r5)) (h6 : w.cell? ⟨21, k * 7 + 6, none⟩ = some (.int .i64 r6)) :
    Calls Tryz.prog 250 #[.agg #[.int .i64 k, .int .i64 a, al], .int .i64 d] w fun e w' => e = .returned (.int .i64 (IntKind.i64.wrap (IntKind.i64.wrap (d + r5) + IntKind.i64.wrap (r6 * amt k a)))) ∧ Below w.heap.size w w' := by
  have c0 := cell_regrown (alloc_cell w #[.int .i64 k, .int .i64 a, al] 127 0 _ rfl)
  have c1 := cell_regrown (alloc_cell w #[.int .i64 k, .int .i64 a, al] 127 1 _ rfl)
  have c2 := cell_regrown (alloc_cell w #[.int .i64 k, .int .i64 a, al] 127 2 _ rfl)
  have g5 := cell_regrown (alloc_old w (.cells #[.int .i64 k, .int .i64 a, al] 127) _ _ _ h5)
  have g6 := cell_regrown (alloc_old w (.cells #[.int .i64 k, .int .i64 a, al] 127) _ _ _ h6)
  have hk1 : (0 : Int) ≤ (k : Int) := by omega
  have hk2 : (k : Int) < 21 := by omega
  go_enter Tryz.func250, Tryz.ntmps250
  go_wp2
  refine wp_region_quiet_below (by kernel_rfl) (by kernel_rfl) ?_
  repeat (quiet_step (first | (go_at_call 251; exact Calls.regrown_of (amount_any _ _ _ _))))
  refine wpQuiet_nil ?_
  intro _ hw'
  obtain ⟨⟨dq, osq⟩, hw''⟩ := hw'
  subst hw''
  go_wp2
  go_ret
  exact ⟨rfl, ((Below.refl _ _).alloc (Nat.le_refl _) _).trans ((below_regrown _ dq osq).mono (by simp))⟩

end Go.Proofs.YtdpodpjdcfjfgaaGreatDoor

namespace Go.Proofs.YtdpodpjdcfjfgaaGreatDoor
open Go.RowKit

/-- the rows of the table of instructions: kind, least, most, need, needEach, more, moreEach -/
def rowsTab : List Int := [1, 0, 0, 0, 0, 1, 0,
  2, 0, 65535, 0, 0, 1, 0,
  2, 0, 1000, 1, 1, 1, 0,
  0, 0, 0, 2, 0, -1, 0,
  2, 0, 1000, 1, 1, 0, -1,
  2, 0, 1000, 2, 1, -1, 0,
  2, 0, 1000, 0, 1, 0, -1,
  2, 1, 1000, 0, 0, 0, 1,
  0, 0, 0, 1, 0, 0, 0,
  0, 0, 0, 2, 0, -1, 0,
  0, 0, 0, 2, 0, -1, 0,
  0, 0, 0, 2, 0, -1, 0,
  0, 0, 0, 2, 0, -1, 0,
  0, 0, 0, 2, 0, -1, 0,
  0, 0, 0, 2, 0, -1, 0,
  2, 0, 65535, 0, 1, 1, -1,
  2, 0, 255, 1, 0, -1, 1,
  3, 0, 0, 1, 0, 0, 0,
  2, 0, 65535, 0, 0, 0, 0,
  0, 0, 0, 1, 0, 0, 0,
  0, 0, 0, 0, 0, 0, 0]
def rowN (k j : Nat) : Int := rowsTab.getD (k * 7 + j) 0
def TabAt (w : World) : Prop := ∀ i, i < 147 → w.cell? ⟨21, i, none⟩ = some (.int .i64 (rowsTab.getD i 0))
theorem TabAt.keep {w w' : World} (hb : Below w.heap.size w w') (h : TabAt w) : TabAt w' := fun i hi => cell_keep hb (h i hi)
theorem TabAt.row {w : World} (h : TabAt w) (k j : Nat) (hk : k < 21) (hj : j < 7) : w.cell? ⟨21, k * 7 + j, none⟩ = some (.int .i64 (rowN k j)) := h _ (by omega)

end Go.Proofs.YtdpodpjdcfjfgaaGreatDoor
