import Derived.Test.YtdpodpjdcfjfgaaGreatDoorEffJ
import Derived.Test.YtdpodpjdcfjfgaaGreatDoorValsJ
import Derived.Test.YtdpodpjdcfjfgaaGreatDoorNameJ
import Derived.Test.YtdpodpjdcfjfgaaGreatDoorLfpJ
namespace Go.Proofs.YtdpodpjdcfjfgaaGreatDoor
open Go.RowKit

def wrongR (m : Nat) (a d : Int) : Bool := decide (d < needR m a) || ((m == 19) && (d != 1)) || decide (1000 < d + moreR m a)

theorem moreR_le (m : Nat) (a : Int) (hm : m < 21) (ha : m ≠ 0 → 0 ≤ a ∧ a ≤ 65535) : -65536 ≤ moreR m a ∧ moreR m a ≤ 65536 := by
  by_cases h0 : m = 0
  · subst h0; simp [moreR]
  · obtain ⟨a1, a2⟩ := ha h0
    unfold moreR
    rcases all21 m hm with rfl | rfl | rfl | rfl | rfl | rfl | rfl | rfl | rfl | rfl | rfl | rfl | rfl | rfl | rfl | rfl | rfl | rfl | rfl | rfl | rfl <;> simp <;> omega

set_option maxHeartbeats 2000000 in
theorem wrong_any (m : Nat) (hm : m < 21) (a d : Int) (ap : Option Addr) (an ac : Nat) (w : World) (ha : m ≠ 0 → 0 ≤ a ∧ a ≤ 65535) (hd : 0 ≤ d ∧ d ≤ 100000) :
    Calls Tryz.prog 142 #[.agg #[.int .i64 m, .int .i64 a, .slice ap an ac], .int .i64 d] w fun e w' => e = .returned (.bool (wrongR m a d)) ∧ Below w.heap.size w w' := by
  have hml := moreR_le m a hm ha
  obtain ⟨l1, l2⟩ := hml
  obtain ⟨d1, d2⟩ := hd
  have HE : Hid (∀ w, Calls Tryz.prog 199 #[.agg #[.int .i64 m, .int .i64 a, .slice ap an ac]] w fun e w' => e = .returned (.tuple #[.int .i64 (needR m a), .int .i64 (moreR m a)]) ∧ Below w.heap.size w w') := fun w => effect_any m hm a ap an ac w ha
  have HW : Hid (wrongR m a d = (decide (d < needR m a) || ((m == 19) && (d != 1)) || decide (1000 < d + moreR m a))) := rfl
  clear ha
  generalize needR m a = nd at *
  generalize moreR m a = mr at *
  have e19 : ((m : Int) == 19) = (m == 19) := by rw [Bool.eq_iff_iff, beq_iff_eq, beq_iff_eq]; omega
  cases h19 : (m == 19)
  · rw [h19] at e19 HW
    clear h19
    go_enter Tryz.func142, Tryz.ntmps142
    go_wp2_with (first | (go_at_call 199; refine (HE.out _).mono ?_; rintro e w1 ⟨rfl, hb1⟩; obtain ⟨z0, z1⟩ := bcell hb1))
    all_goals
      go_ret
      refine ⟨ret_bool' ?_, ((Below.refl _ _).alloc (Nat.le_refl _) _).trans (hb1.mono (by simp))⟩
      rw [HW.out]; simp_all
      try omega
  · rw [h19] at e19 HW
    clear h19
    go_enter Tryz.func142, Tryz.ntmps142
    go_wp2_with (first | (go_at_call 199; refine (HE.out _).mono ?_; rintro e w1 ⟨rfl, hb1⟩; obtain ⟨z0, z1⟩ := bcell hb1))
    all_goals
      go_ret
      refine ⟨ret_bool' ?_, ((Below.refl _ _).alloc (Nat.le_refl _) _).trans (hb1.mono (by simp))⟩
      rw [HW.out]; simp_all
      try omega

end Go.Proofs.YtdpodpjdcfjfgaaGreatDoor

namespace Go.Proofs.YtdpodpjdcfjfgaaGreatDoor
open Go.RowKit

/-- what goodIns gives of A -/
theorem insG_a (m : Nat) (hm : m < 21) (a : Int) (alts : List LAlt) (h : insG m a alts = true) : (m ≠ 0 → 0 ≤ a ∧ a ≤ 65535) ∧ ((m = 2 ∨ m = 4 ∨ m = 5 ∨ m = 6 ∨ m = 7) → a ≤ 1000) ∧ (m = 7 → 1 ≤ a) ∧ (m = 16 → a ≤ 255) ∧ (m ≠ 17 → alts = []) ∧ (m = 17 → altsGood alts = true) := by
  simp only [insG] at h
  rw [if_pos (by omega)] at h
  have ht : ((m : Int)).toNat = m := by omega
  rw [ht] at h
  rcases all21 m hm with rfl | rfl | rfl | rfl | rfl | rfl | rfl | rfl | rfl | rfl | rfl | rfl | rfl | rfl | rfl | rfl | rfl | rfl | rfl | rfl | rfl
  all_goals
    simp [rowN, rowsTab] at h
    first
      | (simp [h]; done)
      | (obtain ⟨h1, h2⟩ := h; simp [h1, h2]; done)
      | (obtain ⟨⟨h1, h2⟩, h3⟩ := h; refine ⟨fun _ => ⟨by omega, by omega⟩, by omega, by omega, by omega, fun _ => h1, by omega⟩)

theorem eff_math (m : Nat) (hm : m < 21) (a d : Int) (alts : List LAlt) (hg : insG m a alts = true) (h0 : 0 ≤ d) (h1 : d ≤ 100000) :
    fitsV m a d = !wrongR m a d ∧ (wrongR m a d = false → behV m a d = d + moreR m a ∧ 0 ≤ d + moreR m a ∧ d + moreR m a ≤ 1000) := by
  obtain ⟨a1, a2, a3, a4, -, -⟩ := insG_a m hm a alts hg
  clear hg
  by_cases hm0 : m = 0
  · subst hm0
    refine ⟨?_, ?_⟩
    · rw [Bool.eq_iff_iff]
      simp [fitsV, needV, behV, wrongR, needR, moreR, rowN, rowsTab, amt, wrap64]
      try omega
    · simp [behV, wrongR, needR, moreR, rowN, rowsTab, amt, wrap64]
      try omega
  · obtain ⟨b1, b2⟩ := a1 hm0
    clear a1
    have ht : a.tmod 256 = a % 256 := Int.tmod_eq_emod_of_nonneg b1
    rcases all21 m hm with rfl | rfl | rfl | rfl | rfl | rfl | rfl | rfl | rfl | rfl | rfl | rfl | rfl | rfl | rfl | rfl | rfl | rfl | rfl | rfl | rfl
    · exact absurd rfl hm0
    all_goals
      clear hm hm0
      refine ⟨?_, ?_⟩
      · rw [Bool.eq_iff_iff]
        simp [fitsV, needV, behV, wrongR, needR, moreR, rowN, rowsTab, amt, wrap64]
        try (first | omega | (rw [ht]; omega))
      · simp [behV, wrongR, needR, moreR, rowN, rowsTab, amt, wrap64]
        try (first | omega | (rw [ht]; omega))

end Go.Proofs.YtdpodpjdcfjfgaaGreatDoor

namespace Go.Proofs.YtdpodpjdcfjfgaaGreatDoor
open Go.RowKit

/-- where one goes on, as numbers -/
def succI (op a : Int) (alts : List LAlt) (k : Nat) : List Int := if op = 19 ∨ op = 20 then [] else if op = 18 then [a] else if op = 17 then alts.map (·.to) else [(k : Int) + 1]
def intsV (l : List Int) : List Value := l.map fun a => Value.int .i64 a

/-- a slice of ints in memory of its own -/
def OwnInts (w : World) (base : Nat) (v : Value) (l : List Int) : Prop := w.ownsRow base 3 1 v l.length (intsV l)

set_option maxHeartbeats 4000000 in
theorem next_any (op a : Int) (alts : List LAlt) (av : Value) (k : Nat) (w : World) (hA : AltsAt w av alts) (hl : alts.length ≤ 256) (hk : k ≤ 65535) :
    Calls Tryz.prog 140 #[.agg #[.int .i64 op, .int .i64 a, av], .int .i64 k] w fun e w' => (∃ v, e = .returned v ∧ OwnInts w' w.heap.size v (succI op a alts k)) ∧ Below w.heap.size w w' := by
  obtain ⟨p, cap, rfl, hs1, hcell⟩ := hA.open
  have HC : Hid (∀ w', Below w.heap.size w w' → AltsIn w' p alts) := hcell
  obtain ⟨i, hi, hii⟩ := Option.map_eq_some_iff.1 Tryz.intInfo
  simp only [Prod.mk.injEq] at hii
  obtain ⟨hz0, hz1, hz2⟩ := hii
  have HI : Hid (i.zero = some (.int .i64 0) ∧ i.size = 1 ∧ i.bytes = 8) := ⟨hz0, hz1, hz2⟩
  clear hcell hA hz0 hz1 hz2
  by_cases h19 : op = 19 ∨ op = 20
  · have HS : Hid (succI op a alts k = []) := by show _ = _; unfold succI; rw [if_pos h19]
    rcases h19 with rfl | rfl
    all_goals
      go_enter Tryz.func140, Tryz.ntmps140
      go_wp2
      go_ret
      exact ⟨⟨_, rfl, by rw [HS.out]; exact ⟨rfl, Or.inl ⟨rfl, rfl⟩⟩⟩, (Below.refl _ _).alloc (Nat.le_refl _) _⟩
  · by_cases h18 : op = 18
    · subst h18
      have HS : Hid (succI 18 a alts k = [a]) := rfl
      go_enter Tryz.func140, Tryz.ntmps140
      go_wp2_with (first | (at_builtin; refine wpList_append_lies _ rfl _ _ _ rfl w.heap.size 3 i (.int .i64 0) 1 8 Tryz.underlying140 hi HI.out.1 HI.out.2.1 HI.out.2.2 rfl (by omega) (.slice none 0 0) 0 [] rfl ⟨rfl, Or.inl ⟨rfl, rfl⟩⟩ ⟨w.heap.size + 1, 0, none⟩ 1 1 [.int .i64 a] rfl rfl ?hnews ?h1 (by omega) ?h63 ?hbytes ?hbase (w.heap.size + 1 + 1) ?hH ?_))
      case hnews => exact news_one _ _ _ _ (by simp)
      case h1 => intro u hu; simp at hu; subst hu; rfl
      case h63 => unfold maxLen; omega
      case hbytes => omega
      case hbase => simp; omega
      case hH => simp
      intro g gc w1 hown hgrow hat hlt
      go_wp2
      go_ret
      refine ⟨⟨_, rfl, by rw [HS.out]; exact hown⟩, ?_⟩
      refine Below.grown ?_ hgrow (by simp; omega) (by intro k hk; cases hk)
      exact ((Below.refl _ _).alloc (Nat.le_refl _) _).alloc (by simp) _
    · have b18 : (op == 18) = false := by simp [h18]
      have b19 : (op == 19) = false := by simp; omega
      have b20 : (op == 20) = false := by simp; omega
      by_cases h17 : op = 17
      · subst h17
        have HS : Hid (succI 17 a alts k = alts.map (·.to)) := rfl
        go_enter Tryz.func140, Tryz.ntmps140
        go_wp2
        go_loopw [5, 6] (fun s i wr => ∃ (j : Nat) (sv : Value), j ≤ alts.length ∧ s = sv ∧ i = .int .i64 j ∧ Hid (OwnInts wr w.heap.size sv ((alts.take j).map (·.to))) ∧ Hid (sv.ownBlock ≠ some w.heap.size) ∧ Below w.heap.size w wr ∧ wr.cell? ⟨w.heap.size, 2, none⟩ = some (.slice p alts.length cap) ∧ w.heap.size < wr.heap.size) (fun _ i _ => alts.length - (intOf i).toNat)
        case atStart => exact ⟨0, .slice none 0 0, Nat.zero_le _, rfl, rfl, ⟨rfl, Or.inl ⟨rfl, rfl⟩⟩, (by intro h; cases h), (Below.refl _ _).alloc (Nat.le_refl _) _, by simp, by simp⟩
        case round =>
          obtain ⟨j, sv, hj, rfl, rfl, ho, hne, hb, q2, hz⟩ := hrel
          by_cases hlt : j < alts.length
          · obtain ⟨b, o, rfl, x0, x1⟩ := HC.out _ hb j hlt
            have HL : Hid (((alts.take (j + 1)).map (·.to)) = ((alts.take j).map (·.to)) ++ [alts[j].to]) := by
              show _ = _; rw [List.take_succ_eq_append_getElem hlt, List.map_append]; rfl
            have hN : ((alts.take j).map (·.to)).length = j := by simp; omega
            have hO : wr.ownsRow w.heap.size 3 1 u5 ((alts.take j).map (·.to)).length (intsV ((alts.take j).map (·.to))) := ho.out
            rw [hN] at hO
            have HO : Hid (wr.ownsRow w.heap.size 3 1 u5 j (intsV ((alts.take j).map (·.to)))) := hO
            have HN : Hid (((alts.take j).map (·.to)).length = j) := hN
            clear hO hN ho
            generalize alts[j].tag = tg at *
            generalize alts[j].to = tto at *
            generalize ((alts.take j).map (·.to)) = pre at *
            go_wp2_with (first | (at_builtin; refine wpList_append_lies _ rfl _ _ _ rfl w.heap.size 3 i (.int .i64 0) 1 8 Tryz.underlying140 hi HI.out.1 HI.out.2.1 HI.out.2.2 rfl (by omega) u5 j (intsV pre) rfl (HO.out.alloc _) ⟨wr.heap.size, 0, none⟩ 1 1 [.int .i64 tto] rfl rfl ?hnews ?h1 (by omega) ?h63 ?hbytes ?hbase (wr.heap.size + 1) ?hH ?_))
            case hnews => exact news_one _ _ _ _ (by simp)
            case h1 => intro u hu; simp at hu; subst hu; rfl
            case h63 => unfold maxLen; omega
            case hbytes => omega
            case hbase => simp; omega
            case hH => simp
            intro g gc w1 hown hgrow hat hlt2
            have hfar : w1.cell? ⟨w.heap.size, 2, none⟩ = some (.slice (some ⟨b, o, none⟩) alts.length cap) := by
              rw [hgrow.cell_far ⟨w.heap.size, 2, none⟩ (by simp; omega) (fun e => hne.out e.symm), World.cell?_alloc_lt _ _ _ hz]; exact q2
            have hs3 := hgrow.size
            simp at hs3
            have HOW : Hid (OwnInts w1 w.heap.size (.slice (some ⟨g, 0, none⟩) (j + 1) gc) (pre ++ [tto])) := by
              show w1.ownsRow _ _ _ _ _ _
              rw [List.length_append, HN.out, intsV, List.map_append]; exact hown
            have HNE : Hid ((Value.slice (some ⟨g, 0, none⟩) (j + 1) gc).ownBlock ≠ some w.heap.size) := by
              intro e
              have e' : g = w.heap.size := by simpa [Value.ownBlock] using e
              rcases hat with h | h
              · exact hne.out (by rw [h, e'])
              · omega
            have hbf : Below w.heap.size w w1 := by
              refine Below.grown (hb.alloc (by omega) _) hgrow (by simp; omega) ?_
              intro g' hg'
              rcases HO.out.2 with ⟨rfl, _⟩ | ⟨g2, cap2, cur, rfl, hbb, _⟩
              · cases hg'
              · simp [Value.ownBlock] at hg'; omega
            clear hown hgrow hat
            go_wp2
            exact ⟨⟨j + 1, _, by omega, rfl, by go_num, by rw [HL.out]; exact HOW, HNE, hbf, hfar, by omega⟩, by simp [intOf]; omega⟩
          · have HFin : Hid (OwnInts wr w.heap.size u5 (alts.map (·.to))) := by
              have := ho.out; rw [List.take_of_length_le (by omega)] at this; exact this
            go_wp2
            go_ret
            exact ⟨⟨_, rfl, by rw [HS.out]; exact HFin.out⟩, hb⟩
      · have b17 : (op == 17) = false := by simp [h17]
        have HS : Hid (succI op a alts k = [(k : Int) + 1]) := by show _ = _; unfold succI; rw [if_neg h19, if_neg h18, if_neg h17]
        clear h17 h18 h19
        go_enter Tryz.func140, Tryz.ntmps140
        go_wp2_with (first | (at_builtin; refine wpList_append_lies _ rfl _ _ _ rfl w.heap.size 3 i (.int .i64 0) 1 8 Tryz.underlying140 hi HI.out.1 HI.out.2.1 HI.out.2.2 rfl (by omega) (.slice none 0 0) 0 [] rfl ⟨rfl, Or.inl ⟨rfl, rfl⟩⟩ ⟨w.heap.size + 1, 0, none⟩ 1 1 [.int .i64 ((k : Int) + 1)] rfl rfl ?hnews ?h1 (by omega) ?h63 ?hbytes ?hbase (w.heap.size + 1 + 1) ?hH ?_))
        case hnews => exact news_one _ _ _ _ (by simp)
        case h1 => intro u hu; simp at hu; subst hu; rfl
        case h63 => unfold maxLen; omega
        case hbytes => omega
        case hbase => simp; omega
        case hH => simp
        intro g gc w1 hown hgrow hat hlt
        go_wp2
        go_ret
        refine ⟨⟨_, rfl, by rw [HS.out]; exact hown⟩, ?_⟩
        refine Below.grown ?_ hgrow (by simp; omega) (by intro k hk; cases hk)
        exact ((Below.refl _ _).alloc (Nat.le_refl _) _).alloc (by simp) _

end Go.Proofs.YtdpodpjdcfjfgaaGreatDoor

namespace Go.Proofs.YtdpodpjdcfjfgaaGreatDoor
open Go.RowKit

def okd (d : Int) : Prop := d = -1 ∨ d = -2 ∨ (0 ≤ d ∧ d ≤ 1000)
def joinI (x y : Int) : Int := if x = -1 then y else if x = -2 ∨ y = -2 ∨ x ≠ y then -2 else y
theorem joinI_le_left (x y : Int) : leI x (joinI x y) := by unfold joinI leI; split <;> (try split) <;> omega
theorem joinI_le_right (x y : Int) : leI y (joinI x y) := by unfold joinI leI; split <;> (try split) <;> omega
theorem joinI_lub {x y g : Int} (hy : y ≠ -1) (h1 : leI x g) (h2 : leI y g) : leI (joinI x y) g := by unfold joinI leI at *; split <;> (try split) <;> omega
theorem joinI_okd {x y : Int} (h2 : okd y) : okd (joinI x y) := by unfold joinI okd at *; split <;> (try split) <;> omega
theorem joinI_rk {x y : Int} (hy : y ≠ -1) (h : joinI x y ≠ x) : rk x < rk (joinI x y) := by
  unfold joinI at *
  by_cases h1 : x = -1
  · subst h1; rw [if_pos rfl]; unfold rk; rw [if_pos rfl, if_neg hy]; split <;> omega
  · rw [if_neg h1] at h ⊢
    by_cases h2 : x = -2 ∨ y = -2 ∨ x ≠ y
    · rw [if_pos h2] at h ⊢
      unfold rk; rw [if_neg h1, if_neg (by omega)]; simp
    · rw [if_neg h2] at h; omega

/-- what holds of the reference's table all the while -/
structure RInv (code : List LIns) (d0 : Int) (dep : List Int) : Prop where
  len : dep.length = code.length
  start : leI d0 (dep.getD 0 0)
  below : ∀ g, PostFix code d0 g → ∀ i, leI (dep.getD i 0) (g.getD i 0)
  ok : ∀ i, i < dep.length → okd (dep.getD i 0)
theorem RInv.first {code : List LIns} {d0 : Int} {dep : List Int} (hd : 0 ≤ d0) (hd2 : d0 ≤ 1000) (hl : dep.length = code.length) (hp : 0 < code.length) (ha : ∀ i, i < dep.length → dep.getD i 0 = -1) : RInv code d0 (dep.set 0 d0) := by
  have h0 : dep.getD 0 0 = -1 := ha 0 (by omega)
  have e : reachL dep [] 0 d0 = (dep.set 0 d0, [0]) := by unfold reachL; rw [h0, if_neg (by omega), if_pos rfl]; rfl
  have h := Inv.first hd hl hp ha
  rw [e] at h
  refine ⟨h.len, h.start, h.below, fun i hi => ?_⟩
  rw [List.length_set] at hi
  rw [getD_set _ _ _ _ (by omega)]
  by_cases e : i = 0
  · rw [if_pos e]; exact Or.inr (Or.inr ⟨hd, hd2⟩)
  · rw [if_neg e, ha i hi]; exact Or.inl rfl

theorem RInv.step {code : List LIns} {d0 : Int} {dep : List Int} (h : RInv code d0 dep) (at_ : Nat) (ha : at_ < code.length) (s : Nat) (hs : s ∈ succs code[at_] at_) (hsl : s < code.length) (v : Int) (hv : outI code[at_] (dep.getD at_ 0) = v) (hv1 : v ≠ -1) (hv2 : okd v) :
    RInv code d0 (dep.set s (joinI (dep.getD s 0) v)) ∧ (joinI (dep.getD s 0) v ≠ dep.getD s 0 → ranks dep < ranks (dep.set s (joinI (dep.getD s 0) v))) ∧ ranks dep ≤ ranks (dep.set s (joinI (dep.getD s 0) v)) := by
  have hs' : s < dep.length := by rw [h.len]; exact hsl
  have hr := ranks_set dep s (joinI (dep.getD s 0) v) hs'
  refine ⟨⟨by simp [h.len], ?_, fun g hg i => ?_, fun i hi => ?_⟩, fun hne => ?_, ?_⟩
  · rw [getD_set _ _ _ _ hs']
    by_cases e : 0 = s
    · rw [if_pos e, ← e]; exact h.start.trans (joinI_le_left _ _)
    · rw [if_neg e]; exact h.start
  · rw [getD_set _ _ _ _ hs']
    by_cases e : i = s
    · rw [if_pos e, e]
      refine joinI_lub hv1 (h.below g hg s) ?_
      rw [← hv]
      exact (outI_mono _ (h.below g hg at_)).trans (hg.step at_ ha s hs)
    · rw [if_neg e]; exact h.below g hg i
  · rw [List.length_set] at hi
    rw [getD_set _ _ _ _ hs']
    by_cases e : i = s
    · rw [if_pos e]; exact joinI_okd hv2
    · rw [if_neg e]; exact h.ok i hi
  · have := joinI_rk hv1 hne; omega
  · by_cases e : joinI (dep.getD s 0) v = dep.getD s 0
    · rw [e] at hr ⊢; omega
    · have := joinI_rk hv1 e; omega
theorem set_same (dep : List Int) (s : Nat) (hs : s < dep.length) : dep.set s (dep.getD s 0) = dep := by
  apply List.ext_getElem (by simp)
  intro i h1 h2
  by_cases e : s = i
  · subst e; simp [List.getD, hs]
  · simp [e]
theorem joinI_same {x y : Int} (h : joinI x y = x) : leI y x := by rw [← h]; exact (by rw [h]; exact h ▸ joinI_le_right x y)

/-- the three cells of one depth -/
def dvI (d : Int) : Int := if d = -1 ∨ d = -2 then 0 else d
structure DepsAt (w : World) (E : Nat) (dep : List Int) : Prop where
  c0 : ∀ i (h : i < dep.length), w.cell? ⟨E, i * 3, none⟩ = some (.bool (dep[i] != -1))
  c1 : ∀ i (h : i < dep.length), w.cell? ⟨E, i * 3 + 1, none⟩ = some (.bool (dep[i] == -2))
  c2 : ∀ i (h : i < dep.length), w.cell? ⟨E, i * 3 + 2, none⟩ = some (.int .i64 (dvI dep[i]))
  fr : ∀ i, i < dep.length * 3 → w.frozen? ⟨E, i, none⟩ = false
  lt : E < w.heap.size
theorem DepsAt.keep {w w' : World} {E : Nat} {dep : List Int} (hb : Below w.heap.size w w') (h : DepsAt w E dep) : DepsAt w' E dep :=
  ⟨fun i hi => cell_keep hb (h.c0 i hi), fun i hi => cell_keep hb (h.c1 i hi), fun i hi => cell_keep hb (h.c2 i hi), fun i hi => by rw [(bcell hb).2 _ _ h.lt]; exact h.fr i hi, Nat.lt_of_lt_of_le h.lt hb.size⟩
theorem DepsAt.stored {w : World} {E : Nat} {dep : List Int} (h : DepsAt w E dep) (s : Nat) (hs : s < dep.length) (d : Int) :
    DepsAt (((w.setCell ⟨E, s * 3, none⟩ (.bool (d != -1))).setCell ⟨E, s * 3 + 1, none⟩ (.bool (d == -2))).setCell ⟨E, s * 3 + 2, none⟩ (.int .i64 (dvI d))) E (dep.set s d) := by
  have hlt := h.lt
  refine ⟨fun i hi => ?_, fun i hi => ?_, fun i hi => ?_, fun i hi => ?_, by simp [World.setCell]; exact hlt⟩
  · rw [List.length_set] at hi
    rw [World.cell?_setCell_other _ _ _ _ (by intro e; have := congrArg Addr.off e; simp only at this; omega), World.cell?_setCell_other _ _ _ _ (by intro e; have := congrArg Addr.off e; simp only at this; omega)]
    by_cases e : s = i
    · subst e; rw [World.cell?_setCell_same _ _ _ (h.c0 s hs)]; simp
    · rw [World.cell?_setCell_other _ _ _ _ (by intro e2; have := congrArg Addr.off e2; simp only at this; omega), h.c0 i hi]; simp [e]
  · rw [List.length_set] at hi
    rw [World.cell?_setCell_other _ _ _ _ (by intro e; have := congrArg Addr.off e; simp only at this; omega)]
    by_cases e : s = i
    · subst e; rw [World.cell?_setCell_same _ _ _ (u := .bool (dep[s] == -2)) (by rw [World.cell?_setCell_other _ _ _ _ (by intro e; have := congrArg Addr.off e; simp only at this; omega)]; exact h.c1 s hs)]; simp
    · rw [World.cell?_setCell_other _ _ _ _ (by intro e2; have := congrArg Addr.off e2; simp only at this; omega), World.cell?_setCell_other _ _ _ _ (by intro e2; have := congrArg Addr.off e2; simp only at this; omega), h.c1 i hi]; simp [e]
  · rw [List.length_set] at hi
    by_cases e : s = i
    · subst e; rw [World.cell?_setCell_same _ _ _ (u := .int .i64 (dvI dep[s])) (by rw [World.cell?_setCell_other _ _ _ _ (by intro e; have := congrArg Addr.off e; simp only at this; omega), World.cell?_setCell_other _ _ _ _ (by intro e; have := congrArg Addr.off e; simp only at this; omega)]; exact h.c2 s hs)]; simp
    · rw [World.cell?_setCell_other _ _ _ _ (by intro e2; have := congrArg Addr.off e2; simp only at this; omega), World.cell?_setCell_other _ _ _ _ (by intro e2; have := congrArg Addr.off e2; simp only at this; omega), World.cell?_setCell_other _ _ _ _ (by intro e2; have := congrArg Addr.off e2; simp only at this; omega), h.c2 i hi]; simp [e]
  · rw [List.length_set] at hi
    simp only [World.frozen?_setCell]; exact h.fr i hi

/-- what a slice of ints of its own holds, laid open -/
def IntsIn (w : World) (lo : Nat) (q : Option Addr) (l : List Int) : Prop := ∀ j (h : j < l.length), ∃ tb, q = some ⟨tb, 0, none⟩ ∧ lo ≤ tb ∧ tb < w.heap.size ∧ w.cell? ⟨tb, j, none⟩ = some (.int .i64 l[j])
theorem OwnInts.open {w : World} {base : Nat} {v : Value} {l : List Int} (h : OwnInts w base v l) : ∃ q c, v = .slice q l.length c ∧ IntsIn w base q l := by
  rcases h.2 with ⟨e, h0⟩ | ⟨g, cap, cur, e, hg, hh, hn, hc, hs, ht⟩
  · have h0' : l.length = 0 := h0
    refine ⟨none, 0, by rw [e, h0'], fun j hj => absurd hj (by omega)⟩
  · refine ⟨_, cap, e, fun j hj => ⟨g, rfl, hg, ?_, ?_⟩⟩
    · rcases Nat.lt_or_ge g w.heap.size with hlt | hge
      · exact hlt
      · rw [Array.getElem?_eq_none hge] at hh; cases hh
    · have h' : w.ownsRow base 3 1 (.slice (some ⟨g, 0, none⟩) l.length cap) l.length (intsV l) := by rw [← e]; exact h
      rw [h'.cellAt j (by omega)]; simp [intsV, hj]
theorem IntsIn.far {w w' : World} {lo : Nat} {q : Option Addr} {l : List Int} (h : IntsIn w lo q l) (hs : w.heap.size ≤ w'.heap.size) (hk : ∀ tb j, lo ≤ tb → tb < w.heap.size → w'.cell? ⟨tb, j, none⟩ = w.cell? ⟨tb, j, none⟩) : IntsIn w' lo q l := by
  intro j hj
  obtain ⟨tb, e, h1, h2, h3⟩ := h j hj
  exact ⟨tb, e, h1, by omega, by rw [hk tb j h1 h2]; exact h3⟩

end Go.Proofs.YtdpodpjdcfjfgaaGreatDoor
