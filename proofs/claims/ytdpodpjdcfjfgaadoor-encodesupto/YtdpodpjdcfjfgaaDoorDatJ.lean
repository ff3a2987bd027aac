import Derived.WalkKit
import Derived.WalkSpells
namespace Go.Proofs.YtdpodpjdcfjfgaaDoor
open Go.RowKit

structure LAlt where
  tag : Int
  «to» : Int
structure LIns where
  op : Int
  a : Int
  alts : List LAlt
structure LImp where
  name : ByteArray
  arity : Int
structure LGlob where
  name : ByteArray
  arity : Int
  exp : Bool
  code : List LIns
structure LObj where
  name : ByteArray
  imps : List LImp
  globs : List LGlob

/-- a list's bound: what the form's reach gives -/
def short (n : Nat) : Prop := n < 140737488355328
theorem short.le {n : Nat} (h : short n) : n < 140737488355328 := h

/-- the alternatives that a slice holds -/
def AltsAt (w : World) (v : Value) (l : List LAlt) : Prop :=
  ∃ p cap, v = .slice p l.length cap ∧ short l.length ∧ ∀ i (h : i < l.length), ∃ b o, p = some ⟨b, o, none⟩ ∧ w.cell? ⟨b, o + i * 2, none⟩ = some (.int .i64 l[i].tag) ∧ w.cell? ⟨b, o + i * 2 + 1, none⟩ = some (.int .i64 l[i].to)

def CodeAt (w : World) (v : Value) (l : List LIns) : Prop :=
  ∃ p cap, v = .slice p l.length cap ∧ short l.length ∧ ∀ i (h : i < l.length), ∃ b o av, p = some ⟨b, o, none⟩ ∧ w.cell? ⟨b, o + i * 3, none⟩ = some (.int .i64 l[i].op) ∧ w.cell? ⟨b, o + i * 3 + 1, none⟩ = some (.int .i64 l[i].a) ∧ w.cell? ⟨b, o + i * 3 + 2, none⟩ = some av ∧ AltsAt w av l[i].alts

def ImpsAt (w : World) (v : Value) (l : List LImp) : Prop :=
  ∃ p cap, v = .slice p l.length cap ∧ short l.length ∧ ∀ i (h : i < l.length), ∃ b o, p = some ⟨b, o, none⟩ ∧ w.cell? ⟨b, o + i * 2, none⟩ = some (.string l[i].name) ∧ w.cell? ⟨b, o + i * 2 + 1, none⟩ = some (.int .i64 l[i].arity) ∧ l[i].name.size ≤ maxLen

def GlobsAt (w : World) (v : Value) (l : List LGlob) : Prop :=
  ∃ p cap, v = .slice p l.length cap ∧ short l.length ∧ ∀ i (h : i < l.length), ∃ b o cv, p = some ⟨b, o, none⟩ ∧ w.cell? ⟨b, o + i * 4, none⟩ = some (.string l[i].name) ∧ w.cell? ⟨b, o + i * 4 + 1, none⟩ = some (.int .i64 l[i].arity) ∧ w.cell? ⟨b, o + i * 4 + 2, none⟩ = some (.bool l[i].exp) ∧ w.cell? ⟨b, o + i * 4 + 3, none⟩ = some cv ∧ CodeAt w cv l[i].code ∧ l[i].name.size ≤ maxLen

def ObjAt (w : World) (v : Value) (O : LObj) : Prop :=
  ∃ iv gv, v = .agg #[.string O.name, iv, gv] ∧ O.name.size ≤ maxLen ∧ ImpsAt w iv O.imps ∧ GlobsAt w gv O.globs

theorem cell_keep {w w' : World} (hb : Below w.heap.size w w') {a : Addr} {v : Value} (h : w.cell? a = some v) : w'.cell? a = some v := by
  rw [hb.cell (block_lt_of_cell h)]; exact h

theorem bcell {W w1 : World} (hb : Below W.heap.size W w1) : (∀ b o, b < W.heap.size → w1.cell? ⟨b, o, none⟩ = W.cell? ⟨b, o, none⟩) ∧ (∀ b o, b < W.heap.size → w1.frozen? ⟨b, o, none⟩ = W.frozen? ⟨b, o, none⟩) :=
  ⟨fun b o h => hb.cell (p := ⟨b, o, none⟩) h, fun b o h => hb.frozen (p := ⟨b, o, none⟩) h⟩

theorem AltsAt.keep {w w' : World} (hb : Below w.heap.size w w') {v : Value} {l : List LAlt} (h : AltsAt w v l) : AltsAt w' v l := by
  obtain ⟨p, cap, e, hs, hc⟩ := h
  refine ⟨p, cap, e, hs, fun i hi => ?_⟩
  obtain ⟨b, o, e2, h0, h1⟩ := hc i hi
  exact ⟨b, o, e2, cell_keep hb h0, cell_keep hb h1⟩
theorem CodeAt.keep {w w' : World} (hb : Below w.heap.size w w') {v : Value} {l : List LIns} (h : CodeAt w v l) : CodeAt w' v l := by
  obtain ⟨p, cap, e, hs, hc⟩ := h
  refine ⟨p, cap, e, hs, fun i hi => ?_⟩
  obtain ⟨b, o, av, e2, h0, h1, h2, h3⟩ := hc i hi
  exact ⟨b, o, av, e2, cell_keep hb h0, cell_keep hb h1, cell_keep hb h2, h3.keep hb⟩
theorem ImpsAt.keep {w w' : World} (hb : Below w.heap.size w w') {v : Value} {l : List LImp} (h : ImpsAt w v l) : ImpsAt w' v l := by
  obtain ⟨p, cap, e, hs, hc⟩ := h
  refine ⟨p, cap, e, hs, fun i hi => ?_⟩
  obtain ⟨b, o, e2, h0, h1, h2⟩ := hc i hi
  exact ⟨b, o, e2, cell_keep hb h0, cell_keep hb h1, h2⟩
theorem GlobsAt.keep {w w' : World} (hb : Below w.heap.size w w') {v : Value} {l : List LGlob} (h : GlobsAt w v l) : GlobsAt w' v l := by
  obtain ⟨p, cap, e, hs, hc⟩ := h
  refine ⟨p, cap, e, hs, fun i hi => ?_⟩
  obtain ⟨b, o, cv, e2, h0, h1, h2, h3, h4, h5⟩ := hc i hi
  exact ⟨b, o, cv, e2, cell_keep hb h0, cell_keep hb h1, cell_keep hb h2, cell_keep hb h3, h4.keep hb, h5⟩
theorem ObjAt.keep {w w' : World} (hb : Below w.heap.size w w') {v : Value} {O : LObj} (h : ObjAt w v O) : ObjAt w' v O := by
  obtain ⟨iv, gv, e, hn, hi, hg⟩ := h
  exact ⟨iv, gv, e, hn, hi.keep hb, hg.keep hb⟩

/-- what a slice's places hold, laid open: in whatever later world -/
def AltsIn (w : World) (p : Option Addr) (l : List LAlt) : Prop :=
  ∀ i (h : i < l.length), ∃ b o, p = some ⟨b, o, none⟩ ∧ w.cell? ⟨b, o + i * 2, none⟩ = some (.int .i64 l[i].tag) ∧ w.cell? ⟨b, o + i * 2 + 1, none⟩ = some (.int .i64 l[i].to)
def CodeIn (w : World) (p : Option Addr) (l : List LIns) : Prop :=
  ∀ i (h : i < l.length), ∃ b o ap an ac, p = some ⟨b, o, none⟩ ∧ w.cell? ⟨b, o + i * 3, none⟩ = some (.int .i64 l[i].op) ∧ w.cell? ⟨b, o + i * 3 + 1, none⟩ = some (.int .i64 l[i].a) ∧ w.cell? ⟨b, o + i * 3 + 2, none⟩ = some (.slice ap an ac) ∧ AltsAt w (.slice ap an ac) l[i].alts
def ImpsIn (w : World) (p : Option Addr) (l : List LImp) : Prop :=
  ∀ i (h : i < l.length), ∃ b o, p = some ⟨b, o, none⟩ ∧ w.cell? ⟨b, o + i * 2, none⟩ = some (.string l[i].name) ∧ w.cell? ⟨b, o + i * 2 + 1, none⟩ = some (.int .i64 l[i].arity) ∧ l[i].name.size ≤ maxLen
def GlobsIn (w : World) (p : Option Addr) (l : List LGlob) : Prop :=
  ∀ i (h : i < l.length), ∃ b o cp cn cc, p = some ⟨b, o, none⟩ ∧ w.cell? ⟨b, o + i * 4, none⟩ = some (.string l[i].name) ∧ w.cell? ⟨b, o + i * 4 + 1, none⟩ = some (.int .i64 l[i].arity) ∧ w.cell? ⟨b, o + i * 4 + 2, none⟩ = some (.bool l[i].exp) ∧ w.cell? ⟨b, o + i * 4 + 3, none⟩ = some (.slice cp cn cc) ∧ CodeAt w (.slice cp cn cc) l[i].code ∧ l[i].name.size ≤ maxLen

theorem AltsAt.open {w : World} {v : Value} {l : List LAlt} (h : AltsAt w v l) : ∃ p cap, v = .slice p l.length cap ∧ l.length < 140737488355328 ∧ ∀ w', Below w.heap.size w w' → AltsIn w' p l := by
  obtain ⟨p, cap, e, hs, hc⟩ := h
  refine ⟨p, cap, e, hs.le, fun w' hb i hi => ?_⟩
  obtain ⟨b, o, e2, h0, h1⟩ := hc i hi
  exact ⟨b, o, e2, cell_keep hb h0, cell_keep hb h1⟩
theorem CodeAt.open {w : World} {v : Value} {l : List LIns} (h : CodeAt w v l) : ∃ p cap, v = .slice p l.length cap ∧ l.length < 140737488355328 ∧ ∀ w', Below w.heap.size w w' → CodeIn w' p l := by
  obtain ⟨p, cap, e, hs, hc⟩ := h
  refine ⟨p, cap, e, hs.le, fun w' hb i hi => ?_⟩
  obtain ⟨b, o, av, e2, h0, h1, h2, h3⟩ := hc i hi
  obtain ⟨ap, ac, rfl, -, -⟩ := id h3
  exact ⟨b, o, ap, _, ac, e2, cell_keep hb h0, cell_keep hb h1, cell_keep hb h2, h3.keep hb⟩
theorem ImpsAt.open {w : World} {v : Value} {l : List LImp} (h : ImpsAt w v l) : ∃ p cap, v = .slice p l.length cap ∧ l.length < 140737488355328 ∧ ∀ w', Below w.heap.size w w' → ImpsIn w' p l := by
  obtain ⟨p, cap, e, hs, hc⟩ := h
  refine ⟨p, cap, e, hs.le, fun w' hb i hi => ?_⟩
  obtain ⟨b, o, e2, h0, h1, h2⟩ := hc i hi
  exact ⟨b, o, e2, cell_keep hb h0, cell_keep hb h1, h2⟩
theorem GlobsAt.open {w : World} {v : Value} {l : List LGlob} (h : GlobsAt w v l) : ∃ p cap, v = .slice p l.length cap ∧ l.length < 140737488355328 ∧ ∀ w', Below w.heap.size w w' → GlobsIn w' p l := by
  obtain ⟨p, cap, e, hs, hc⟩ := h
  refine ⟨p, cap, e, hs.le, fun w' hb i hi => ?_⟩
  obtain ⟨b, o, cv, e2, h0, h1, h2, h3, h4, h5⟩ := hc i hi
  obtain ⟨cp, cc, rfl, -, -⟩ := id h4
  exact ⟨b, o, cp, _, cc, e2, cell_keep hb h0, cell_keep hb h1, cell_keep hb h2, cell_keep hb h3, h4.keep hb, h5⟩

end Go.Proofs.YtdpodpjdcfjfgaaDoor
