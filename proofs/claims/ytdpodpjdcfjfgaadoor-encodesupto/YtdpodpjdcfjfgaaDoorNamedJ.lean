import Derived.Test.YtdpodpjdcfjfgaaDoorAddJ
import Derived.Lib.AppendStr
namespace Go.Proofs.YtdpodpjdcfjfgaaDoor
open Go.RowKit Go.Sort Go.Lib

/-- append of a string's bytes onto a row that is there, and where the new slice lies -/
theorem run_str_lies {P : Program} (w : World) (base : Nat) (t u ty e : TypeId) (i : TypeInfo) (ht : P.underlying t = some (.slice e)) (hu : P.underlying u = some .string) (hi : P.info? e = some i) (hz : i.zero = some (.int .u8 0))
    (hsize : i.size = 1) (hby : i.bytes = 1) (g n cap : Nat) (xs : List Value) (hown : w.ownsRow base e 1 (.slice (some ⟨g, 0, none⟩) n cap) n xs) (s : ByteArray)
    (hpos : 0 < n + s.size) (hl : n + s.size ≤ 140737488355328) (hbase : base ≤ w.heap.size) :
    ∃ g' cap' w', (Builtin.append_ #[t, u] ty #[.slice (some ⟨g, 0, none⟩) n cap, .string s]).run P w = .ok (.slice (some ⟨g', 0, none⟩) (n + s.size) cap') w' ∧ w'.ownsRow base e 1 (.slice (some ⟨g', 0, none⟩) (n + s.size) cap') (n + s.size) (xs ++ strCells s) ∧
      w.grownBy w' (some g) ∧ (g' = g ∨ g' = w.heap.size) := by
  obtain ⟨v', w', hr, h2, h3, -⟩ := run_append_own_string (P := P) w base t u ty e i ht hu hi hz hsize hby _ n xs hown s (by unfold maxLen; omega) hl hbase
  obtain ⟨g', cap', rfl, -, -⟩ := h2.form hpos
  refine ⟨g', cap', w', hr, h2, h3, ?_⟩
  rcases hown.2 with ⟨h0, -⟩ | ⟨g0, cap0, cur, h0, hb0, hg, hnc, hcm, hcs, htake⟩
  · cases h0
  · simp only [Value.slice.injEq, Option.some.injEq, Addr.mk.injEq, and_true, true_and] at h0
    obtain ⟨rfl, rfl⟩ := h0
    by_cases hroom : n + s.size ≤ cap
    · have hr2 := run_append_room_string (P := P) w t u ty e i ht hu hi hsize g n cap cur hg s hroom (by omega)
      rw [hr] at hr2
      injection hr2 with h4 h5
      simp at h4
      exact Or.inl h4.1
    · have hxl : xs.length = n := by simpa using hown.1
      have hr2 := run_append_grow_string (P := P) w t u ty e i (.int .u8 0) ht hu hi hz ⟨g, 0, none⟩ n cap xs (by rw [hsize]; simpa using hxl) (hown.cells (g := g) rfl) s (by omega) (by omega) (by rw [hby]; exact growslice_fits (by omega) (by omega))
      rw [hr] at hr2
      injection hr2 with h4 h5
      simp at h4
      exact Or.inr h4.1
theorem wpList_str_lies {P : Program} (w : World) {ops : Array Oper} {rest : List Oper} {o : Oper} {a : Act} {Q : Exit → Act → World → Prop} (hgd : o.guard = none) (sl x : Operand) (t u : TypeId)
    (ho : o.op = .call { callee := .builtin .append, args := #[sl, x], argTypes := #[t, u] })
    (base : Nat) (e : TypeId) (i : TypeInfo) (ht : P.underlying t = some (.slice e)) (hu : P.underlying u = some .string) (hi : P.info? e = some i) (hz : i.zero = some (.int .u8 0)) (hsize : i.size = 1) (hby : i.bytes = 1)
    (g n cap : Nat) (xs : List Value) (hs : a.eval sl = .slice (some ⟨g, 0, none⟩) n cap) (hown : w.ownsRow base e 1 (.slice (some ⟨g, 0, none⟩) n cap) n xs) (s : ByteArray) (hx : a.eval x = .string s)
    (hpos : 0 < n + s.size) (hl : n + s.size ≤ 140737488355328) (hbase : base ≤ w.heap.size)
    (h : ∀ g' cap' w', w'.ownsRow base e 1 (.slice (some ⟨g', 0, none⟩) (n + s.size) cap') (n + s.size) (xs ++ strCells s) → w.grownBy w' (some g) → (g' = g ∨ g' = w.heap.size) → wpList P ops Q rest (a.put o.dst (.slice (some ⟨g', 0, none⟩) (n + s.size) cap')) w') : wpList P ops Q (o :: rest) a w := by
  refine wpList_plain hgd fun K hK => ?_
  obtain ⟨g', cap', w', hr, h2, h3, h4⟩ := run_str_lies (P := P) w base t u o.type e i ht hu hi hz hsize hby g n cap xs hown s hpos hl hbase
  unfold Oper.wp execOp
  simp only [ho, resolve, invoke, builtin, Sem.run_bind, Sem.run_pure, Result.andThen_ok, List.map_toArray, List.map_cons, List.map_nil, hs, hx, hr]
  exact hK _ _ (h g' cap' w' h2 h3 h4)

/-- a text's bytes -/
def tb (s : ByteArray) : List Nat := s.data.toList.map fun b => b.toNat
theorem tb_len (s : ByteArray) : (tb s).length = s.size := by rw [tb, List.length_map, Array.length_toList]; rfl
theorem u8s_tb (s : ByteArray) : u8s (tb s) = strCells s := by simp [u8s, tb, strCells]
/-- a name's bytes, their number ahead -/
def nb (s : ByteArray) : List Nat := vb s.size ++ tb s

set_option maxRecDepth 100000 in
set_option maxHeartbeats 8000000 in
theorem named_any (s : ByteArray) (vo : Value) (bs : List Nat) (B : Nat) (w : World) (hs : s.size ≤ 16) (hB : Buf w B vo bs) (hBw : B ≤ w.heap.size) (hl : bs.length + 26 ≤ 1099511627776) :
    Calls Tryd.prog 19 #[vo, .string s] w fun e w' => AddRes w B vo (bs ++ nb s) e w' := by
  obtain ⟨i, hi, hii⟩ := Option.map_eq_some_iff.1 Tryd.u8Info
  simp only [Prod.mk.injEq] at hii
  obtain ⟨hz0, hz1, hz2⟩ := hii
  obtain ⟨op, oc, rfl⟩ := hB.slice
  have HB := hid hB
  have hv := vb_len10 s.size (by omega)
  have hv0 : 0 < (vb s.size).length := by rw [vb_small (by omega)]; simp
  clear hB
  go_enter Tryd.func19, Tryd.ntmps19
  go_wp2_with (first
    | (go_at_call 20; refine (add_any s.size _ bs B _ (by omega) HB.out hBw (by omega)).mono ?_; rintro e w1 ⟨v1, rfl, hB1, hE1⟩; obtain ⟨g1, c1, rfl, hg1, hg2⟩ := World.ownsRow.form hB1 (by rw [List.length_append]; omega); have hB2 : w1.ownsRow B 5 1 (.slice (some ⟨g1, 0, none⟩) (bs ++ vb s.size).length c1) (bs ++ vb s.size).length (u8s (bs ++ vb s.size)) := hB1; have hk1 : (bs ++ vb s.size).length ≤ bs.length + 10 := (by rw [List.length_append]; omega); have hk0 : 0 < (bs ++ vb s.size).length := (by rw [List.length_append]; omega); clear hB1; generalize hk : (bs ++ vb s.size).length = k at *; have HK := hid hk; have HB1 := hid hB2; have HE1 := hid hE1; have hsz := hE1.grown.size; clear hB2 hE1 hk)
    | (at_builtin; refine wpList_str_lies _ rfl (.tmp 9) (.tmp 10) 58 9 rfl B 5 i Tryd.underlying58 Tryd.underlying9 hi hz0 hz1 hz2 g1 k c1 (u8s (bs ++ vb s.size)) rfl HB1.out s rfl (by omega) (by omega) (by omega) ?_; intro g2 c2 w2 hown hgrow hat))
  go_ret
  refine ⟨_, rfl, ?_, HE1.out.trans (Ext.append hgrow ?_)⟩
  · unfold Buf nb
    rw [← List.append_assoc, List.length_append (bs := tb s), tb_len, u8s_app _ (tb s), u8s_tb, HK.out]
    exact hown
  · rcases hat with rfl | rfl
    · exact Or.inl rfl
    · exact Or.inr rfl

end Go.Proofs.YtdpodpjdcfjfgaaDoor
