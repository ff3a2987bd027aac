import Derived.Test.YtdpodpjdcfjfgaaGreatDoorProg
import Derived.WalkKit
import Derived.WalkSpells
import Derived.WalkLawsBesides
import Derived.Deep.QuietTactic
import Derived.BigQuiet
import Derived.Lib.QuietBelow
namespace Go.Proofs.YtdpodpjdcfjfgaaGreatDoor
open Go.RowKit

def isLet (c : Int) : Bool := decide (97 ≤ c) && decide (c ≤ 122)
def isDig (c : Int) : Bool := decide (48 ≤ c) && decide (c ≤ 57)

set_option maxHeartbeats 400000 in
theorem isLetter_any (c : Int) (w : World) : Calls Tryz.prog 237 #[.int .u8 c] w fun e w' => e = .returned (.bool (isLet c)) ∧ w' = w := by
  go_enter Tryz.func237, Tryz.ntmps237
  go_wp2
  all_goals go_ret
  all_goals refine ⟨?_, rfl⟩
  all_goals simp_all [isLet]
  all_goals omega

set_option maxHeartbeats 400000 in
theorem isDigit_any (c : Int) (w : World) : Calls Tryz.prog 238 #[.int .u8 c] w fun e w' => e = .returned (.bool (isDig c)) ∧ w' = w := by
  go_enter Tryz.func238, Tryz.ntmps238
  go_wp2
  all_goals go_ret
  all_goals refine ⟨?_, rfl⟩
  all_goals simp_all [isDig]
  all_goals omega


def arB (c : Int) : Bool := decide (0 ≤ c) && decide (c ≤ 20)

set_option maxHeartbeats 400000 in
theorem isArity_any (c : Int) (w : World) : Calls Tryz.prog 239 #[.int .i64 c] w fun e w' => e = .returned (.bool (arB c)) ∧ w' = w := by
  go_enter Tryz.func239, Tryz.ntmps239
  go_wp2
  all_goals go_ret
  all_goals refine ⟨?_, rfl⟩
  all_goals simp_all [arB]
  all_goals omega

set_option maxHeartbeats 400000 in
theorem isOp_any (c : Int) (w : World) : Calls Tryz.prog 346 #[.int .i64 c] w fun e w' => e = .returned (.bool (decide (0 ≤ c) && decide (c < 21))) ∧ w' = w := by
  go_enter Tryz.func346, Tryz.ntmps346
  go_wp2
  all_goals go_ret
  all_goals refine ⟨?_, rfl⟩
  all_goals simp_all
  all_goals omega

def endsB (c : Int) : Bool := c == 17 || c == 18 || c == 19 || c == 20
set_option maxHeartbeats 400000 in
theorem ends_any (c : Int) (w : World) : Calls Tryz.prog 193 #[.int .i64 c] w fun e w' => e = .returned (.bool (endsB c)) ∧ w' = w := by
  go_enter Tryz.func193, Tryz.ntmps193
  go_wp2
  all_goals go_ret
  all_goals refine ⟨?_, rfl⟩
  all_goals simp_all [endsB]

set_option maxHeartbeats 400000 in
theorem num_any (c : Int) (w : World) : Calls Tryz.prog 17 #[.int .i64 c] w fun e w' => e = .returned (.int .i64 c) ∧ w' = w := by
  go_enter Tryz.func17, Tryz.ntmps17
  go_wp2
  all_goals go_ret
  all_goals refine ⟨?_, rfl⟩
  all_goals simp_all

set_option maxHeartbeats 400000 in
theorem kindOf_any (k : Nat) (x : Int) (w : World) (hk : k < 21) (hx : w.cell? ⟨21, k * 7, none⟩ = some (.int .i64 x)) : Calls Tryz.prog 300 #[.int .i64 k] w fun e w' => e = .returned (.int .i64 x) ∧ w' = w := by
  go_enter Tryz.func300, Tryz.ntmps300
  go_wp2
  all_goals go_ret
  all_goals refine ⟨?_, rfl⟩
  all_goals simp_all

end Go.Proofs.YtdpodpjdcfjfgaaGreatDoor

namespace Go.Proofs.YtdpodpjdcfjfgaaGreatDoor
open Go.RowKit

set_option maxHeartbeats 400000 in
theorem bounds_any (k : Nat) (x y : Int) (w : World) (hk : k < 21) (hx : w.cell? ⟨21, k * 7 + 1, none⟩ = some (.int .i64 x)) (hy : w.cell? ⟨21, k * 7 + 2, none⟩ = some (.int .i64 y)) :
    Calls Tryz.prog 347 #[.int .i64 k] w fun e w' => e = .returned (.tuple #[.int .i64 x, .int .i64 y]) ∧ ∃ n, w' = w.drewN n := by
  go_enter Tryz.func347, Tryz.ntmps347
  go_wp2
  go_quiet (fail)
  go_wp2
  all_goals go_ret2
  all_goals refine ⟨?_, _, rfl⟩
  all_goals simp_all

def amt (op a : Int) : Int := if op = 15 then a.tmod 256 else a

set_option maxHeartbeats 400000 in
theorem amount_any (op a : Int) (al : Value) (w : World) :
    Calls Tryz.prog 251 #[.agg #[.int .i64 op, .int .i64 a, al]] w fun e w' => e = .returned (.int .i64 (amt op a)) ∧ Below w.heap.size w w' := by
  go_enter Tryz.func251, Tryz.ntmps251
  go_wp2
  all_goals go_ret
  all_goals refine ⟨?_, (Below.refl _ _).alloc (Nat.le_refl _) _⟩
  all_goals simp_all [amt]

end Go.Proofs.YtdpodpjdcfjfgaaGreatDoor

namespace Go.Proofs.YtdpodpjdcfjfgaaGreatDoor
open Go.RowKit

structure LAlt where
  tag : Int
  «to» : Int
structure LIns where
  op : Int
  a : Int
  alts : List LAlt
structure LImp where
  name : ByteArray
  arity : Int
structure LGlob where
  name : ByteArray
  arity : Int
  exp : Bool
  code : List LIns
structure LObj where
  name : ByteArray
  imps : List LImp
  globs : List LGlob

/-- a list's bound: what the form's reach gives -/
def short (n : Nat) : Prop := n < 140737488355328
theorem short.le {n : Nat} (h : short n) : n < 140737488355328 := h

/-- the alternatives that a slice holds -/
def AltsAt (w : World) (v : Value) (l : List LAlt) : Prop :=
  ∃ p cap, v = .slice p l.length cap ∧ short l.length ∧ ∀ i (h : i < l.length), ∃ b o, p = some ⟨b, o, none⟩ ∧ w.cell? ⟨b, o + i * 2, none⟩ = some (.int .i64 l[i].tag) ∧ w.cell? ⟨b, o + i * 2 + 1, none⟩ = some (.int .i64 l[i].to)

def CodeAt (w : World) (v : Value) (l : List LIns) : Prop :=
  ∃ p cap, v = .slice p l.length cap ∧ short l.length ∧ ∀ i (h : i < l.length), ∃ b o av, p = some ⟨b, o, none⟩ ∧ w.cell? ⟨b, o + i * 3, none⟩ = some (.int .i64 l[i].op) ∧ w.cell? ⟨b, o + i * 3 + 1, none⟩ = some (.int .i64 l[i].a) ∧ w.cell? ⟨b, o + i * 3 + 2, none⟩ = some av ∧ AltsAt w av l[i].alts

def ImpsAt (w : World) (v : Value) (l : List LImp) : Prop :=
  ∃ p cap, v = .slice p l.length cap ∧ short l.length ∧ ∀ i (h : i < l.length), ∃ b o, p = some ⟨b, o, none⟩ ∧ w.cell? ⟨b, o + i * 2, none⟩ = some (.string l[i].name) ∧ w.cell? ⟨b, o + i * 2 + 1, none⟩ = some (.int .i64 l[i].arity) ∧ l[i].name.size ≤ maxLen

def GlobsAt (w : World) (v : Value) (l : List LGlob) : Prop :=
  ∃ p cap, v = .slice p l.length cap ∧ short l.length ∧ ∀ i (h : i < l.length), ∃ b o cv, p = some ⟨b, o, none⟩ ∧ w.cell? ⟨b, o + i * 4, none⟩ = some (.string l[i].name) ∧ w.cell? ⟨b, o + i * 4 + 1, none⟩ = some (.int .i64 l[i].arity) ∧ w.cell? ⟨b, o + i * 4 + 2, none⟩ = some (.bool l[i].exp) ∧ w.cell? ⟨b, o + i * 4 + 3, none⟩ = some cv ∧ CodeAt w cv l[i].code ∧ l[i].name.size ≤ maxLen

def ObjAt (w : World) (v : Value) (O : LObj) : Prop :=
  ∃ iv gv, v = .agg #[.string O.name, iv, gv] ∧ O.name.size ≤ maxLen ∧ ImpsAt w iv O.imps ∧ GlobsAt w gv O.globs

theorem cell_keep {w w' : World} (hb : Below w.heap.size w w') {a : Addr} {v : Value} (h : w.cell? a = some v) : w'.cell? a = some v := by
  rw [hb.cell (block_lt_of_cell h)]; exact h

theorem bcell {W w1 : World} (hb : Below W.heap.size W w1) : (∀ b o, b < W.heap.size → w1.cell? ⟨b, o, none⟩ = W.cell? ⟨b, o, none⟩) ∧ (∀ b o, b < W.heap.size → w1.frozen? ⟨b, o, none⟩ = W.frozen? ⟨b, o, none⟩) :=
  ⟨fun b o h => hb.cell (p := ⟨b, o, none⟩) h, fun b o h => hb.frozen (p := ⟨b, o, none⟩) h⟩

theorem AltsAt.keep {w w' : World} (hb : Below w.heap.size w w') {v : Value} {l : List LAlt} (h : AltsAt w v l) : AltsAt w' v l := by
  obtain ⟨p, cap, e, hs, hc⟩ := h
  refine ⟨p, cap, e, hs, fun i hi => ?_⟩
  obtain ⟨b, o, e2, h0, h1⟩ := hc i hi
  exact ⟨b, o, e2, cell_keep hb h0, cell_keep hb h1⟩
theorem CodeAt.keep {w w' : World} (hb : Below w.heap.size w w') {v : Value} {l : List LIns} (h : CodeAt w v l) : CodeAt w' v l := by
  obtain ⟨p, cap, e, hs, hc⟩ := h
  refine ⟨p, cap, e, hs, fun i hi => ?_⟩
  obtain ⟨b, o, av, e2, h0, h1, h2, h3⟩ := hc i hi
  exact ⟨b, o, av, e2, cell_keep hb h0, cell_keep hb h1, cell_keep hb h2, h3.keep hb⟩
theorem ImpsAt.keep {w w' : World} (hb : Below w.heap.size w w') {v : Value} {l : List LImp} (h : ImpsAt w v l) : ImpsAt w' v l := by
  obtain ⟨p, cap, e, hs, hc⟩ := h
  refine ⟨p, cap, e, hs, fun i hi => ?_⟩
  obtain ⟨b, o, e2, h0, h1, h2⟩ := hc i hi
  exact ⟨b, o, e2, cell_keep hb h0, cell_keep hb h1, h2⟩
theorem GlobsAt.keep {w w' : World} (hb : Below w.heap.size w w') {v : Value} {l : List LGlob} (h : GlobsAt w v l) : GlobsAt w' v l := by
  obtain ⟨p, cap, e, hs, hc⟩ := h
  refine ⟨p, cap, e, hs, fun i hi => ?_⟩
  obtain ⟨b, o, cv, e2, h0, h1, h2, h3, h4, h5⟩ := hc i hi
  exact ⟨b, o, cv, e2, cell_keep hb h0, cell_keep hb h1, cell_keep hb h2, cell_keep hb h3, h4.keep hb, h5⟩
theorem ObjAt.keep {w w' : World} (hb : Below w.heap.size w w') {v : Value} {O : LObj} (h : ObjAt w v O) : ObjAt w' v O := by
  obtain ⟨iv, gv, e, hn, hi, hg⟩ := h
  exact ⟨iv, gv, e, hn, hi.keep hb, hg.keep hb⟩

/-- what a slice's places hold, laid open: in whatever later world -/
def AltsIn (w : World) (p : Option Addr) (l : List LAlt) : Prop :=
  ∀ i (h : i < l.length), ∃ b o, p = some ⟨b, o, none⟩ ∧ w.cell? ⟨b, o + i * 2, none⟩ = some (.int .i64 l[i].tag) ∧ w.cell? ⟨b, o + i * 2 + 1, none⟩ = some (.int .i64 l[i].to)
def CodeIn (w : World) (p : Option Addr) (l : List LIns) : Prop :=
  ∀ i (h : i < l.length), ∃ b o ap an ac, p = some ⟨b, o, none⟩ ∧ w.cell? ⟨b, o + i * 3, none⟩ = some (.int .i64 l[i].op) ∧ w.cell? ⟨b, o + i * 3 + 1, none⟩ = some (.int .i64 l[i].a) ∧ w.cell? ⟨b, o + i * 3 + 2, none⟩ = some (.slice ap an ac) ∧ AltsAt w (.slice ap an ac) l[i].alts
def ImpsIn (w : World) (p : Option Addr) (l : List LImp) : Prop :=
  ∀ i (h : i < l.length), ∃ b o, p = some ⟨b, o, none⟩ ∧ w.cell? ⟨b, o + i * 2, none⟩ = some (.string l[i].name) ∧ w.cell? ⟨b, o + i * 2 + 1, none⟩ = some (.int .i64 l[i].arity) ∧ l[i].name.size ≤ maxLen
def GlobsIn (w : World) (p : Option Addr) (l : List LGlob) : Prop :=
  ∀ i (h : i < l.length), ∃ b o cp cn cc, p = some ⟨b, o, none⟩ ∧ w.cell? ⟨b, o + i * 4, none⟩ = some (.string l[i].name) ∧ w.cell? ⟨b, o + i * 4 + 1, none⟩ = some (.int .i64 l[i].arity) ∧ w.cell? ⟨b, o + i * 4 + 2, none⟩ = some (.bool l[i].exp) ∧ w.cell? ⟨b, o + i * 4 + 3, none⟩ = some (.slice cp cn cc) ∧ CodeAt w (.slice cp cn cc) l[i].code ∧ l[i].name.size ≤ maxLen

theorem AltsAt.open {w : World} {v : Value} {l : List LAlt} (h : AltsAt w v l) : ∃ p cap, v = .slice p l.length cap ∧ l.length < 140737488355328 ∧ ∀ w', Below w.heap.size w w' → AltsIn w' p l := by
  obtain ⟨p, cap, e, hs, hc⟩ := h
  refine ⟨p, cap, e, hs.le, fun w' hb i hi => ?_⟩
  obtain ⟨b, o, e2, h0, h1⟩ := hc i hi
  exact ⟨b, o, e2, cell_keep hb h0, cell_keep hb h1⟩
theorem CodeAt.open {w : World} {v : Value} {l : List LIns} (h : CodeAt w v l) : ∃ p cap, v = .slice p l.length cap ∧ l.length < 140737488355328 ∧ ∀ w', Below w.heap.size w w' → CodeIn w' p l := by
  obtain ⟨p, cap, e, hs, hc⟩ := h
  refine ⟨p, cap, e, hs.le, fun w' hb i hi => ?_⟩
  obtain ⟨b, o, av, e2, h0, h1, h2, h3⟩ := hc i hi
  obtain ⟨ap, ac, rfl, -, -⟩ := id h3
  exact ⟨b, o, ap, _, ac, e2, cell_keep hb h0, cell_keep hb h1, cell_keep hb h2, h3.keep hb⟩
theorem ImpsAt.open {w : World} {v : Value} {l : List LImp} (h : ImpsAt w v l) : ∃ p cap, v = .slice p l.length cap ∧ l.length < 140737488355328 ∧ ∀ w', Below w.heap.size w w' → ImpsIn w' p l := by
  obtain ⟨p, cap, e, hs, hc⟩ := h
  refine ⟨p, cap, e, hs.le, fun w' hb i hi => ?_⟩
  obtain ⟨b, o, e2, h0, h1, h2⟩ := hc i hi
  exact ⟨b, o, e2, cell_keep hb h0, cell_keep hb h1, h2⟩
theorem GlobsAt.open {w : World} {v : Value} {l : List LGlob} (h : GlobsAt w v l) : ∃ p cap, v = .slice p l.length cap ∧ l.length < 140737488355328 ∧ ∀ w', Below w.heap.size w w' → GlobsIn w' p l := by
  obtain ⟨p, cap, e, hs, hc⟩ := h
  refine ⟨p, cap, e, hs.le, fun w' hb i hi => ?_⟩
  obtain ⟨b, o, cv, e2, h0, h1, h2, h3, h4, h5⟩ := hc i hi
  obtain ⟨cp, cc, rfl, -, -⟩ := id h4
  exact ⟨b, o, cp, _, cc, e2, cell_keep hb h0, cell_keep hb h1, cell_keep hb h2, cell_keep hb h3, h4.keep hb, h5⟩

end Go.Proofs.YtdpodpjdcfjfgaaGreatDoor

namespace Go.Proofs.YtdpodpjdcfjfgaaGreatDoor
open Go.RowKit

set_option maxHeartbeats 4000000 in
theorem sameIns_any (code : List LIns) (va vb : Value) (w : World) (hA : CodeAt w va code) (hB : CodeAt w vb code) :
    Calls Tryz.prog 49 #[va, vb] w fun e w' => e = .returned (.bool true) ∧ Below w.heap.size w w' := by
  obtain ⟨p, cap, rfl, hs1, hca⟩ := hA.open
  obtain ⟨q, cbp, rfl, -, hcb⟩ := hB.open
  have HA : Hid (∀ w', Below w.heap.size w w' → CodeIn w' p code) := hca
  have HB : Hid (∀ w', Below w.heap.size w w' → CodeIn w' q code) := hcb
  clear hA hB hca hcb
  go_enter Tryz.func49, Tryz.ntmps49
  go_wp2
  go_loopw [5] (fun i wr => ∃ k : Nat, k ≤ code.length ∧ i = .int .i64 k ∧ Below w.heap.size w wr) (fun i _ => code.length - (intOf i).toNat)
  case atStart => exact ⟨0, Nat.zero_le _, rfl, Below.refl _ _⟩
  case round =>
    obtain ⟨k, hk, rfl, hb⟩ := hrel
    by_cases hlt : k < code.length
    · obtain ⟨b, o, ap, an, ac, rfl, x0, x1, x2, hAl⟩ := HA.out _ hb k hlt
      obtain ⟨b2, o2, ap2, an2, ac2, rfl, y0, y1, y2, hBl⟩ := HB.out _ hb k hlt
      obtain ⟨ap', ac', e1, hs2, hal⟩ := hAl.open
      obtain ⟨rfl, rfl, rfl⟩ : ap = ap' ∧ an = code[k].alts.length ∧ ac = ac' := by simpa using e1
      obtain ⟨bp', bc', e2, -, hbl⟩ := hBl.open
      obtain ⟨rfl, rfl, rfl⟩ : ap2 = bp' ∧ an2 = code[k].alts.length ∧ ac2 = bc' := by simpa using e2
      have HAL : Hid (∀ w', Below wr.heap.size wr w' → AltsIn w' ap code[k].alts) := hal
      have HBL : Hid (∀ w', Below wr.heap.size wr w' → AltsIn w' ap2 code[k].alts) := hbl
      have hk1 : (0 : Int) ≤ (k : Int) := by omega
      have hk2 : (k : Int) < (code.length : Int) := by omega
      clear hAl hBl hal hbl e1 e2
      generalize code[k].op = op at *
      generalize code[k].a = a at *
      generalize code[k].alts = alts at *
      rename World => W0
      go_wp2
      go_quiet (fail)
      go_wp2
      go_loopw [6] (fun i wr => ∃ j : Nat, j ≤ alts.length ∧ i = .int .i64 j ∧ Hid (Below W0.heap.size W0 wr) ∧ wr.cell? ⟨b, o + k * 3 + 2, none⟩ = some (.slice ap alts.length ac) ∧ wr.cell? ⟨b2, o2 + k * 3 + 2, none⟩ = some (.slice ap2 alts.length ac2)) (fun i _ => alts.length - (intOf i).toNat)
      case atStart => exact ⟨0, Nat.zero_le _, rfl, below_drewN (Below.refl _ _) _, x2, y2⟩
      case round =>
        obtain ⟨j, hj, rfl, hbj, u2, v2⟩ := hrel
        clear x0 x1 x2 y0 y1 y2
        by_cases hjl : j < alts.length
        · obtain ⟨ab, ao, rfl, t0, t1⟩ := HAL.out _ hbj.out j hjl
          obtain ⟨ab2, ao2, rfl, s0, s1⟩ := HBL.out _ hbj.out j hjl
          have hj1 : (0 : Int) ≤ (j : Int) := by omega
          have hj2 : (j : Int) < (alts.length : Int) := by omega
          generalize alts[j].tag = tg at *
          generalize alts[j].to = tto at *
          go_wp2
          go_quiet (fail)
          go_wp2
          exact ⟨⟨j + 1, by omega, by go_num, below_drewN hbj.out _, u2, v2⟩, by simp [intOf]; omega⟩
        · go_wp2
          exact ⟨⟨k + 1, by omega, by go_num, hb.trans (hbj.out.mono hb.size)⟩, by simp [intOf]; omega⟩
    · go_wp2
      go_ret
      exact ⟨rfl, hb⟩

/-- what a boxed object's cells hold -/
def BoxAt (w : World) (B : Nat) (v : Value) : Prop := ∃ n i g, v = .agg #[.string n, i, g] ∧ w.cell? ⟨B, 0, none⟩ = some (.string n) ∧ w.cell? ⟨B, 1, none⟩ = some i ∧ w.cell? ⟨B, 2, none⟩ = some g

set_option maxHeartbeats 8000000 in
theorem Same_any (O : LObj) (va vb : Value) (w : World) (hA : ObjAt w va O) (hB : ObjAt w vb O) :
    Calls Tryz.prog 16 #[va, vb] w fun e w' => e = .returned (.bool true) ∧ Below w.heap.size w w' := by
  obtain ⟨ia, ga, rfl, hsz, hIA, hGA⟩ := hA
  obtain ⟨ib, gb, rfl, -, hIB, hGB⟩ := hB
  obtain ⟨ip, ic, rfl, hs1, hia⟩ := hIA.open
  obtain ⟨gp, gc, rfl, hs2, hga⟩ := hGA.open
  obtain ⟨iq, id, rfl, -, hib⟩ := hIB.open
  obtain ⟨gq, gd, rfl, -, hgb⟩ := hGB.open
  have HIA : Hid (∀ w', Below w.heap.size w w' → ImpsIn w' ip O.imps) := hia
  have HIB : Hid (∀ w', Below w.heap.size w w' → ImpsIn w' iq O.imps) := hib
  have HGA : Hid (∀ w', Below w.heap.size w w' → GlobsIn w' gp O.globs) := hga
  have HGB : Hid (∀ w', Below w.heap.size w w' → GlobsIn w' gq O.globs) := hgb
  clear hIA hGA hIB hGB hia hga hib hgb
  generalize O.name = nm at *
  generalize O.imps = imps at *
  generalize O.globs = globs at *
  go_enter Tryz.func16, Tryz.ntmps16
  go_wp2
  go_loopw [5] (fun i wr => ∃ k : Nat, k ≤ imps.length ∧ i = .int .i64 k ∧ Hid (Below w.heap.size w wr) ∧ wr.cell? ⟨w.heap.size, 1, none⟩ = some (.slice ip imps.length ic) ∧ wr.cell? ⟨w.heap.size, 2, none⟩ = some (.slice gp globs.length gc) ∧ wr.cell? ⟨w.heap.size + 1, 1, none⟩ = some (.slice iq imps.length id) ∧ wr.cell? ⟨w.heap.size + 1, 2, none⟩ = some (.slice gq globs.length gd) ∧ w.heap.size + 1 < wr.heap.size) (fun i _ => imps.length - (intOf i).toNat)
  case atStart => exact ⟨0, Nat.zero_le _, rfl, ((Below.refl _ _).alloc (Nat.le_refl _) _).alloc (by simp) _, by simp, by simp, by simp, by simp, by simp⟩
  case round =>
    obtain ⟨k, hk, rfl, hb, q1, q2, q3, q4, hz⟩ := hrel
    by_cases hlt : k < imps.length
    · obtain ⟨b, o, rfl, x0, x1, -⟩ := HIA.out _ hb.out k hlt
      obtain ⟨b2, o2, rfl, y0, y1, -⟩ := HIB.out _ hb.out k hlt
      have hk1 : (0 : Int) ≤ (k : Int) := by omega
      have hk2 : (k : Int) < (imps.length : Int) := by omega
      generalize imps[k].name = n0 at *
      generalize imps[k].arity = a0 at *
      go_wp2
      go_quiet (fail)
      go_wp2
      exact ⟨⟨k + 1, by omega, by go_num, below_drewN hb.out _, q1, q2, q3, q4, hz⟩, by simp [intOf]; omega⟩
    · go_wp2
      go_loopw [6] (fun i wr => ∃ k : Nat, k ≤ globs.length ∧ i = .int .i64 k ∧ Hid (Below w.heap.size w wr) ∧ wr.cell? ⟨w.heap.size, 2, none⟩ = some (.slice gp globs.length gc) ∧ wr.cell? ⟨w.heap.size + 1, 2, none⟩ = some (.slice gq globs.length gd) ∧ w.heap.size + 1 < wr.heap.size) (fun i _ => globs.length - (intOf i).toNat)
      case atStart => exact ⟨0, Nat.zero_le _, rfl, hb, q2, q4, hz⟩
      case round =>
        obtain ⟨j, hj, rfl, hbj, r2, r4, hzj⟩ := hrel
        clear q1 q2 q3 q4 hz hb
        by_cases hjl : j < globs.length
        · obtain ⟨b, o, cp, cn, cc, rfl, x0, x1, x2, x3, hCA, -⟩ := HGA.out _ hbj.out j hjl
          obtain ⟨b2, o2, cp2, cn2, cc2, rfl, y0, y1, y2, y3, hCB, -⟩ := HGB.out _ hbj.out j hjl
          have HCA : Hid (CodeAt wr (.slice cp cn cc) globs[j].code) := hCA
          have HCB : Hid (CodeAt wr (.slice cp2 cn2 cc2) globs[j].code) := hCB
          have hj1 : (0 : Int) ≤ (j : Int) := by omega
          have hj2 : (j : Int) < (globs.length : Int) := by omega
          have hbs := hbj.out.size
          have lb : b < wr.heap.size := block_lt_of_cell x0
          have lb2 : b2 < wr.heap.size := block_lt_of_cell y0
          clear hCA hCB
          generalize globs[j].name = n0 at *
          generalize globs[j].arity = a0 at *
          generalize globs[j].exp = e0 at *
          generalize globs[j].code = code at *
          go_wp2_with (first | (go_at_call 49; refine (sameIns_any code _ _ _ ?_ ?_).mono ?_; exact HCA.out.keep (((Below.refl _ _).alloc (Nat.le_refl _) _).alloc (by simp) _); exact HCB.out.keep (((Below.refl _ _).alloc (Nat.le_refl _) _).alloc (by simp) _); rintro e w3 ⟨rfl, hb3⟩; obtain ⟨z0, z1⟩ := bcell hb3))
          have hbf : Below wr.heap.size wr w3 := (((Below.refl _ _).alloc (Nat.le_refl _) _).alloc (by simp) _).trans (hb3.mono (by simp; omega))
          exact ⟨⟨j + 1, by omega, by go_num, hbj.out.trans (hbf.mono hbs), cell_keep hbf r2, cell_keep hbf r4, by have := hbf.size; omega⟩, by simp [intOf]; omega⟩
        · go_wp2
          go_ret
          exact ⟨rfl, hbj.out⟩

end Go.Proofs.YtdpodpjdcfjfgaaGreatDoor

namespace Go.Proofs.YtdpodpjdcfjfgaaGreatDoor
open Go.RowKit Go.Sort

theorem ret_bool' {a b : Bool} (h : a = b) : Ending.returned (.bool a) = .returned (.bool b) := by rw [h]
theorem alloc_cell (w : World) (o : Array Value) (t : TypeId) (i : Nat) (v : Value) (h : o[i]? = some v) : (w.alloc (.cells o t)).cell? ⟨w.heap.size, i, none⟩ = some v := by
  simp [h]

theorem alloc_old (w : World) (o : Obj) (b i : Nat) (v : Value) (h : w.cell? ⟨b, i, none⟩ = some v) : (w.alloc o).cell? ⟨b, i, none⟩ = some v := by
  rw [((Below.refl _ _).alloc (Nat.le_refl _) o).cell (block_lt_of_cell h)]; exact h

set_option maxHeartbeats 400000 in
theorem behind_any (k : Nat) (a d : Int) (al : Value) (r5 r6 : Int) (w : World) (hk : k < 21) (h5 : w.cell? ⟨21, k * 7 + 5, none⟩ = some (.int .i64 r5)) (h6 : w.cell? ⟨21, k * 7 + 6, none⟩ = some (.int .i64 r6)) :
    Calls Tryz.prog 250 #[.agg #[.int .i64 k, .int .i64 a, al], .int .i64 d] w fun e w' => e = .returned (.int .i64 (IntKind.i64.wrap (IntKind.i64.wrap (d + r5) + IntKind.i64.wrap (r6 * amt k a)))) ∧ Below w.heap.size w w' := by
  have c0 := cell_regrown (alloc_cell w #[.int .i64 k, .int .i64 a, al] 127 0 _ rfl)
  have c1 := cell_regrown (alloc_cell w #[.int .i64 k, .int .i64 a, al] 127 1 _ rfl)
  have c2 := cell_regrown (alloc_cell w #[.int .i64 k, .int .i64 a, al] 127 2 _ rfl)
  have g5 := cell_regrown (alloc_old w (.cells #[.int .i64 k, .int .i64 a, al] 127) _ _ _ h5)
  have g6 := cell_regrown (alloc_old w (.cells #[.int .i64 k, .int .i64 a, al] 127) _ _ _ h6)
  have hk1 : (0 : Int) ≤ (k : Int) := by omega
  have hk2 : (k : Int) < 21 := by omega
  go_enter Tryz.func250, Tryz.ntmps250
  go_wp2
  refine wp_region_quiet_below (by kernel_rfl) (by kernel_rfl) ?_
  repeat (quiet_step (first | (go_at_call 251; exact Calls.regrown_of (amount_any _ _ _ _))))
  refine wpQuiet_nil ?_
  intro _ hw'
  obtain ⟨⟨dq, osq⟩, hw''⟩ := hw'
  subst hw''
  go_wp2
  go_ret
  exact ⟨rfl, ((Below.refl _ _).alloc (Nat.le_refl _) _).trans ((below_regrown _ dq osq).mono (by simp))⟩

end Go.Proofs.YtdpodpjdcfjfgaaGreatDoor

namespace Go.Proofs.YtdpodpjdcfjfgaaGreatDoor
open Go.RowKit

/-- the rows of the table of instructions: kind, least, most, need, needEach, more, moreEach -/
def rowsTab : List Int := [1, 0, 0, 0, 0, 1, 0,
  2, 0, 65535, 0, 0, 1, 0,
  2, 0, 1000, 1, 1, 1, 0,
  0, 0, 0, 2, 0, -1, 0,
  2, 0, 1000, 1, 1, 0, -1,
  2, 0, 1000, 2, 1, -1, 0,
  2, 0, 1000, 0, 1, 0, -1,
  2, 1, 1000, 0, 0, 0, 1,
  0, 0, 0, 1, 0, 0, 0,
  0, 0, 0, 2, 0, -1, 0,
  0, 0, 0, 2, 0, -1, 0,
  0, 0, 0, 2, 0, -1, 0,
  0, 0, 0, 2, 0, -1, 0,
  0, 0, 0, 2, 0, -1, 0,
  0, 0, 0, 2, 0, -1, 0,
  2, 0, 65535, 0, 1, 1, -1,
  2, 0, 255, 1, 0, -1, 1,
  3, 0, 0, 1, 0, 0, 0,
  2, 0, 65535, 0, 0, 0, 0,
  0, 0, 0, 1, 0, 0, 0,
  0, 0, 0, 0, 0, 0, 0]
def rowN (k j : Nat) : Int := rowsTab.getD (k * 7 + j) 0
def TabAt (w : World) : Prop := ∀ i, i < 147 → w.cell? ⟨21, i, none⟩ = some (.int .i64 (rowsTab.getD i 0))
theorem TabAt.keep {w w' : World} (hb : Below w.heap.size w w') (h : TabAt w) : TabAt w' := fun i hi => cell_keep hb (h i hi)
theorem TabAt.row {w : World} (h : TabAt w) (k j : Nat) (hk : k < 21) (hj : j < 7) : w.cell? ⟨21, k * 7 + j, none⟩ = some (.int .i64 (rowN k j)) := h _ (by omega)

end Go.Proofs.YtdpodpjdcfjfgaaGreatDoor
