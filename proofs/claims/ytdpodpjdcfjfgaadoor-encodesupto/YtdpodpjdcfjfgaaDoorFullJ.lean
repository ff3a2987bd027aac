import Derived.Test.YtdpodpjdcfjfgaaDoorNamedJ
import Derived.ArgAppend
namespace Go.Proofs.YtdpodpjdcfjfgaaDoor
open Go.RowKit Go.Sort Go.Lib

theorem modify_push (a : Array Obj) (x : Obj) (f : Obj → Obj) : (a.push x).modify a.size f = a.push (f x) := by
  apply Array.ext
  · simp
  · intro i h1 h2
    rw [Array.getElem_modify, Array.getElem_push, Array.getElem_push]
    simp at h1
    by_cases h : i < a.size
    · simp [h, show ¬ a.size = i by omega]
    · simp [show a.size = i by omega]
theorem freeze_new (w : World) (C : Array Value) (e : TypeId) (n : Nat) : (w.alloc (.cells C e)).freeze ⟨w.heap.size, n, none⟩ 1 = w.alloc (.cells C e (n, n + 1)) := by
  unfold World.freeze
  rw [if_neg (by decide)]
  show ({ w.alloc (.cells C e) with heap := (w.heap.push (.cells C e)).modify w.heap.size _ } : World) = _
  rw [modify_push]
  rfl
/-- a literal of bytes made a slice of bytes: its end is marked -/
theorem conv_lit (w : World) (C : Array Value) (n c : Nat) : (convert 58 58 (.slice (some ⟨w.heap.size, 0, none⟩) n c)).run Tryd.prog (w.alloc (.cells C 5)) = .ok (.slice (some ⟨w.heap.size, 0, none⟩) n c) (w.alloc (.cells C 5 (C.size, C.size + 1))) := by
  have hsh : (w.alloc (.cells C 5)).shape? w.heap.size = some (5, C.size) := by
    have : (w.alloc (.cells C 5)).heap[w.heap.size]? = some (.cells C 5) := heap_alloc_new w _
    unfold World.shape?
    rw [this]
  simp [convert, run_underlying Tryd.underlying58, run_underlying Tryd.underlying5, markStringish, hsh, freeze_new]

def NewBuf (w : World) (bs : List Nat) (e : Ending) (w' : World) : Prop := (∃ v, e = .returned v ∧ Buf w' w.heap.size v bs) ∧ Below w.heap.size w w'

set_option maxRecDepth 100000 in
set_option maxHeartbeats 8000000 in
/-- onto a slice without room -/
theorem add_full (n g : Nat) (bs : List Nat) (w : World) (hn : n < 9223372036854775808) (hc : ∀ j u, (u8s bs)[j]? = some u → w.cell? ((⟨g, 0, none⟩ : Addr).add j) = some u) (hl : bs.length = 4) :
    Calls Tryd.prog 20 #[.slice (some ⟨g, 0, none⟩) 4 4, .int .i64 n] w fun e w' => NewBuf w (bs ++ vb n) e w' := by
  obtain ⟨i, hi, hii⟩ := Option.map_eq_some_iff.1 Tryd.u8Info
  simp only [Prod.mk.injEq] at hii
  obtain ⟨hz0, hz1, hz2⟩ := hii
  have hv := vb_len10 n (by omega)
  have hv0 : 0 < (vb n).length := by
    by_cases h : n < 128
    · rw [vb_small h]; simp
    · rw [vb_big h]; simp
  have HC := hid hc
  have HL := hid hl
  clear hc hl
  go_enter Tryd.func20, Tryd.ntmps20
  go_wp2_with (first
    | (go_at_call 34; refine (varint_any n _ (by omega)).mono ?_; rintro e w1 ⟨⟨v1, rfl, hB1⟩, hb1⟩; obtain ⟨g1, c1, rfl, hg1, hg2⟩ := World.ownsRow.form hB1 hv0; have HB1 := hid hB1; have HBL := hid hb1; have hsz := hb1.size; clear hB1 hb1)
    | (at_builtin; refine wpList_append_grows _ rfl (.tmp 5) (.tmp 8) 58 rfl 5 i _ 1 1 Tryd.underlying58 hi hz0 hz1 hz2 rfl (by omega) (some ⟨g, 0, none⟩) 4 4 (u8s bs) rfl (by intro h; cases h) (by rw [u8s_len, HL.out]) (by intro b hb j u hu; cases hb; exact cell_keep HBL.out (HC.out j u hu)) ⟨g1, 0, none⟩ (vb n).length c1 (u8s (vb n)) rfl (by rw [u8s_len, Nat.mul_one]) (World.ownsRow.cells HB1.out rfl) (u8s_one _) (by omega) (by unfold maxLen; omega) (by omega) ?_; intro v2 w2 hown hgrow))
  go_ret
  refine ⟨⟨_, rfl, ?_⟩, HBL.out.trans ((Below.refl _ _).grown hgrow hsz (fun k hk => by cases hk))⟩
  have h : Buf w2 w1.heap.size v2 (bs ++ vb n) := by
    unfold Buf
    rw [List.length_append, u8s_app, HL.out]
    exact hown
  refine ⟨h.1, ?_⟩
  rcases h.2 with h | ⟨g, cap, cur, e, hb, h⟩
  · exact Or.inl h
  · exact Or.inr ⟨g, cap, cur, e, by omega, h⟩

set_option maxRecDepth 100000 in
set_option maxHeartbeats 8000000 in
theorem named_full (s : ByteArray) (g : Nat) (bs : List Nat) (w : World) (hs : s.size ≤ 16) (hc : ∀ j u, (u8s bs)[j]? = some u → w.cell? ((⟨g, 0, none⟩ : Addr).add j) = some u) (hl : bs.length = 4) :
    Calls Tryd.prog 19 #[.slice (some ⟨g, 0, none⟩) 4 4, .string s] w fun e w' => NewBuf w (bs ++ nb s) e w' := by
  obtain ⟨i, hi, hii⟩ := Option.map_eq_some_iff.1 Tryd.u8Info
  simp only [Prod.mk.injEq] at hii
  obtain ⟨hz0, hz1, hz2⟩ := hii
  have hv := vb_len10 s.size (by omega)
  have hv0 : 0 < (vb s.size).length := by rw [vb_small (by omega)]; simp
  have HA := hid (fun w hc => add_full s.size g bs w (by omega) hc hl)
  have HC := hid hc
  have HL := hid hl
  clear hc hl
  go_enter Tryd.func19, Tryd.ntmps19
  go_wp2_with (first
    | (go_at_call 20; refine (HA.out _ HC.out).mono ?_; rintro e w1 ⟨⟨v1, rfl, hB1⟩, hb1⟩; obtain ⟨g1, c1, rfl, hg1, hg2⟩ := World.ownsRow.form hB1 (by rw [List.length_append]; omega); have hB2 : w1.ownsRow w.heap.size 5 1 (.slice (some ⟨g1, 0, none⟩) (bs ++ vb s.size).length c1) (bs ++ vb s.size).length (u8s (bs ++ vb s.size)) := hB1; have hk1 : (bs ++ vb s.size).length ≤ 14 := (by rw [List.length_append, HL.out]; omega); have hk0 : 0 < (bs ++ vb s.size).length := (by rw [List.length_append]; omega); clear hB1; generalize hk : (bs ++ vb s.size).length = k at *; have HK := hid hk; have HB1 := hid hB2; have HBL := hid hb1; have hsz := hb1.size; clear hB2 hb1 hk)
    | (at_builtin; refine wpList_str_lies _ rfl (.tmp 9) (.tmp 10) 58 9 rfl w.heap.size 5 i Tryd.underlying58 Tryd.underlying9 hi hz0 hz1 hz2 g1 k c1 (u8s (bs ++ vb s.size)) rfl HB1.out s rfl (by omega) (by omega) (by omega) ?_; intro g2 c2 w2 hown hgrow hat))
  go_ret
  refine ⟨⟨_, rfl, ?_⟩, HBL.out.grown hgrow (by omega) (fun k hk => by cases hk; exact hg1)⟩
  unfold Buf nb
  rw [← List.append_assoc, List.length_append (bs := tb s), tb_len, u8s_app _ (tb s), u8s_tb, HK.out]
  exact hown

end Go.Proofs.YtdpodpjdcfjfgaaDoor
