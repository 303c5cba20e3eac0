/- Part 3 of the texts that the proof of FnBestBase is built on. -/
import Derived.Test.YtpiodcmkdehifaaVl2
namespace Go.Vl
set_option linter.unusedVariables false
set_option linter.unusedSimpArgs false
open Go.Proofs

theorem VB.bd {b : List (List Int)} (h : VB b) {i : Nat} {x : Int} (hx : x ∈ b.getD i []) : 0 ≤ x ∧ x < i := by
  rcases Nat.lt_or_ge i b.length with hi | hi
  · rcases Nat.eq_zero_or_pos i with rfl | h0
    · rw [h.2.2.1] at hx; cases hx
    · have := (h.2.2.2 i hi h0).2.2.2 x hx; omega
  · simp [List.getD, List.getElem?_eq_none hi] at hx
theorem VB.bd' {b : List (List Int)} (h : VB b) : ∀ i x, x ∈ b.getD i [] → 0 ≤ x ∧ x < (i : Int) := fun _ _ => h.bd
theorem mkB_drop (l : List Int) (j : Nat) (m : List Bool) (h : j < l.length) : mkB (l.drop j) m = mkB (l.drop (j+1)) (m.set (l.getD j 0).toNat true) := by
  rw [List.drop_eq_getElem_cons h]
  have : l.getD j 0 = l[j] := by simp [List.getD, List.getElem?_eq_getElem h]
  rw [this]; rfl
theorem goB_t {b : List (List Int)} {i : Int} {m : List Bool} (h : 0 < i) (hm : m.getD i.toNat false = true) : goB b i.toNat m = goB b (i-1).toNat (mkB (b.getD i.toNat []) m) := by
  have e : i.toNat = (i-1).toNat + 1 := by omega
  rw [e] at hm ⊢
  show goB b (i-1).toNat (stB b _ m) = _
  unfold stB; rw [if_pos hm]
theorem goB_f {b : List (List Int)} {i : Int} {m : List Bool} (h : 0 < i) (hm : m.getD i.toNat false = false) : goB b i.toNat m = goB b (i-1).toNat m := by
  have e : i.toNat = (i-1).toNat + 1 := by omega
  rw [e] at hm ⊢
  show goB b (i-1).toNat (stB b _ m) = _
  unfold stB; rw [if_neg (by rw [hm]; simp)]
theorem goC_s {b : List (List Int)} {i : Int} {m : List Bool} (h : 0 ≤ i) : goC b (i+1).toNat m = goC b (i-1+1).toNat (stB b i.toNat m) := by
  rw [show (i+1).toNat = i.toNat + 1 by omega, show (i-1+1).toNat = i.toNat by omega]; rfl
/-- The classes above a class; none where there is no such class. -/
def abvR (b : List (List Int)) (c : Int) : List Int := if VB b ∧ 0 ≤ c ∧ c < b.length then abvL b c.toNat else []
theorem abvR_of {b : List (List Int)} {n : Nat} (h : VB b) (hn : n < b.length) : abvR b n = abvL b n := by
  unfold abvR; rw [if_pos ⟨h, by omega, by omega⟩]; rfl
theorem abvR_no {b : List (List Int)} {c : Int} (h : ¬ (VB b ∧ 0 ≤ c ∧ c < b.length)) : abvR b c = [] := if_neg h

theorem hasClass_sat {nl0 : Option Bool} {bases : List (List Int)} {c : Int} (hbases : bases.length < 1000000000) (hlbases : ∀ l ∈ bases, l.length < 1000000000)  : SatAt Try.prog 42 [.pv false (.sl nl0 1 (bases.map ints)), i64 c] [] (fun res rows => res = [bo (decide (VB bases ∧ 0 ≤ c ∧ c < bases.length))] ∧ rows = []) := by
  refine sat_entry (ts := [4]) Try.func42 rfl rfl (by decide) (Nat.le_of_ble_eq_true rfl) fun C hC => ?_
  rw [Try.ntmps42]
  replace hC : C.nb = 0 := hC
  refine vc_seq fun K1 hK1 => ?_
  refine vc_region ?_
  refine vo_assign_pv rfl rfl ?_
  refine vo_nil ?_
  refine hK1 _ ?_
  refine vc_seq fun K2 hK2 => ?_
  refine vc_region ?_
  refine vo_move_pv rfl rfl ?_
  refine vo_call0 Try.func52 rfl rfl rfl rfl (implValidBases_sat hbases hlbases) ?_
  rintro _ _ ⟨rfl, rfl⟩
  refine ⟨rfl, rfl, .inl rfl, ?_⟩
  refine vo_move_pv rfl rfl ?_
  refine vo_split 7 rfl (fun hg1 => ?_) (fun hg1 => ?_)
  · try simp only [decide_eq_true_eq, decide_eq_false_iff_not, beq_iff_eq, bne_iff_ne, beq_eq_false_iff_ne, bne_eq_false_iff_eq, Bool.not_eq_true, Bool.not_eq_false, Bool.not_eq_eq_eq_not, Bool.not_true, Bool.not_false, List.length_map, Int.not_lt, Int.not_le, ne_eq, Decidable.not_not] at hg1
    refine vo_guard_on rfl rfl rfl ?_
    refine vo_move_pv rfl rfl ?_
    refine vo_guard_on rfl rfl rfl ?_
    refine vo_binI rfl rfl rfl rfl trivial ?_
    refine vo_pick_t rfl rfl ?_
    refine vo_move_pv rfl rfl ?_
    refine vo_split 11 rfl (fun hg2 => ?_) (fun hg2 => ?_)
    · try simp only [decide_eq_true_eq, decide_eq_false_iff_not, beq_iff_eq, bne_iff_ne, beq_eq_false_iff_ne, bne_eq_false_iff_eq, Bool.not_eq_true, Bool.not_eq_false, Bool.not_eq_eq_eq_not, Bool.not_true, Bool.not_false, List.length_map, Int.not_lt, Int.not_le, ne_eq, Decidable.not_not] at hg2
      refine vo_guard_on rfl rfl rfl ?_
      refine vo_move_pv rfl rfl ?_
      refine vo_guard_on rfl rfl rfl ?_
      refine vo_move_pv rfl rfl ?_
      refine vo_guard_on rfl rfl rfl ?_
      refine vo_len_pv rfl rfl Try.underlying23 ?_
      refine vo_guard_on rfl rfl rfl ?_
      refine vo_binI rfl rfl rfl rfl trivial ?_
      refine vo_pick_t rfl rfl ?_
      refine vo_assign_pv rfl rfl ?_
      refine vo_nil ?_
      refine hK2 _ ?_
      refine vc_ret ?_
      change retPv _ _ _ _ _
      refine retPv_mk rfl rfl rfl ⟨?_, rfl⟩
      refine (congrArg (fun b => [bo b]) (?_ : _ = _) : [bo _] = [bo _])
      exact decide_eq_decide.2 ⟨fun h => ⟨hg1, hg2, by simpa using h⟩, fun h => by simpa using h.2.2⟩
    · try simp only [decide_eq_true_eq, decide_eq_false_iff_not, beq_iff_eq, bne_iff_ne, beq_eq_false_iff_ne, bne_eq_false_iff_eq, Bool.not_eq_true, Bool.not_eq_false, Bool.not_eq_eq_eq_not, Bool.not_true, Bool.not_false, List.length_map, Int.not_lt, Int.not_le, ne_eq, Decidable.not_not] at hg2
      refine vo_guard_off rfl rfl rfl rfl rfl ?_
      refine vo_guard_off rfl rfl rfl rfl rfl ?_
      refine vo_guard_off rfl rfl rfl rfl rfl ?_
      refine vo_guard_off rfl rfl rfl rfl rfl ?_
      refine vo_pick_f rfl rfl ?_
      refine vo_assign_pv rfl rfl ?_
      refine vo_nil ?_
      refine hK2 _ ?_
      refine vc_ret ?_
      change retPv _ _ _ _ _
      refine retPv_mk rfl rfl rfl ⟨?_, rfl⟩
      refine (congrArg (fun b => [bo b]) (?_ : _ = _) : [bo _] = [bo _])
      exact bF fun h => by have := h.2.1; omega
  · try simp only [decide_eq_true_eq, decide_eq_false_iff_not, beq_iff_eq, bne_iff_ne, beq_eq_false_iff_ne, bne_eq_false_iff_eq, Bool.not_eq_true, Bool.not_eq_false, Bool.not_eq_eq_eq_not, Bool.not_true, Bool.not_false, List.length_map, Int.not_lt, Int.not_le, ne_eq, Decidable.not_not] at hg1
    refine vo_guard_off rfl rfl rfl rfl rfl ?_
    refine vo_guard_off rfl rfl rfl rfl rfl ?_
    refine vo_pick_f rfl rfl ?_
    refine vo_move_pv rfl rfl ?_
    refine vo_guard_off rfl rfl rfl rfl rfl ?_
    refine vo_guard_off rfl rfl rfl rfl rfl ?_
    refine vo_guard_off rfl rfl rfl rfl rfl ?_
    refine vo_guard_off rfl rfl rfl rfl rfl ?_
    refine vo_pick_f rfl rfl ?_
    refine vo_assign_pv rfl rfl ?_
    refine vo_nil ?_
    refine hK2 _ ?_
    refine vc_ret ?_
    change retPv _ _ _ _ _
    refine retPv_mk rfl rfl rfl ⟨?_, rfl⟩
    refine (congrArg (fun b => [bo b]) (?_ : _ = _) : [bo _] = [bo _])
    exact bF fun h => hg1 h.1


theorem indicesOf_sat {nl0 : Option Bool} {marks : List Bool} (hmarks : marks.length < 1000000000)  : SatAt Try.prog 43 [.pv false (.sl nl0 1 (marks.map boolP))] [] (fun res rows => ∃ nl, res = [.ref 0] ∧ rows = [Row.own 3 1 nl true ((idxB marks).map intP)]) := by
  refine sat_entry_g (ts := [2]) Try.func43 rfl rfl (by decide) (Nat.le_of_ble_eq_true rfl) fun C hC => ?_
  rw [Try.ntmps43]
  replace hC : C.nb = 0 := hC
  refine vc_seq fun K1 hK1 => ?_
  refine vc_region ?_
  refine vo_assign_pv rfl rfl ?_
  refine vo_nil ?_
  refine hK1 _ ?_
  refine vc_seq fun K2 hK2 => ?_
  refine vc_region ?_
  refine vo_assign_pv rfl rfl ?_
  refine vo_nil ?_
  refine hK2 _ ?_
  refine vc_seq fun K3 hK3 => ?_
  refine vc_seq fun K4 hK4 => ?_
  refine vc_region ?_
  refine vo_move_pv rfl rfl ?_
  refine vo_len_pv rfl rfl Try.underlying56 ?_
  refine vo_move_pv rfl rfl ?_
  refine vo_nil ?_
  refine hK4 _ ?_
  refine vc_block ?_
  refine vc_own_nil 3 E30 rfl ?_
  refine vc_stN ?_
  refine vc_loop [3, 6, 7, 8] (fun mz vs rows => ∃ (k : Nat), mz = marks.length - k ∧ (k ≤ marks.length) ∧ vs = [.ref 0, .pv false (.sl nl0 1 (marks.map boolP)), i64 (marks.map boolP).length, i64 k] ∧ rows = [Row.own 3 1 none true ((idxT marks k).map intP)]) (marks.length) (le_len hC rfl) ⟨rfl, rfl⟩ ⟨0, rfl, Nat.zero_le _, rfl, rfl⟩ ?_
  rintro mz vs rows - - ⟨k, rfl, hk, rfl, rfl⟩
  have hL := idxT_len marks k
  refine vc_seq fun K5 hK5 => ?_
  refine vc_region ?_
  refine vo_binI rfl rfl rfl rfl trivial ?_
  refine vo_nil ?_
  refine hK5 _ ?_
  refine vc_seq fun K6 hK6 => ?_
  refine vc_cond rfl (fun hc1 => ?_) (fun hc1 => ?_)
  · try simp only [decide_eq_true_eq, decide_eq_false_iff_not, beq_iff_eq, bne_iff_ne, beq_eq_false_iff_ne, bne_eq_false_iff_eq, Bool.not_eq_true, Bool.not_eq_false, Bool.not_eq_eq_eq_not, Bool.not_true, Bool.not_false, List.length_map, Int.not_lt, Int.not_le, ne_eq, Decidable.not_not] at hc1
    refine vc_skip ?_
    refine hK6 _ ?_
    refine vc_seq fun K7 hK7 => ?_
    refine vc_block ?_
    refine vc_seq fun K8 hK8 => ?_
    refine vc_region ?_
    refine vo_move_pv rfl rfl ?_
    refine vo_index_pv (.bool false) rfl rfl rfl E56.und inf4 sz4 sd sd ?_
    simp only [Int.toNat_natCast, Int.toNat_zero, getD_ints, getD_intss, getD_bools, getD_bytes, PV.cells]
    refine vo_load_adr rfl rfl Try.underlying4 rfl ?_
    refine vo_assign_pv rfl rfl ?_
    refine vo_assign_pv rfl rfl ?_
    refine vo_nil ?_
    refine hK8 _ ?_
    refine vc_seq fun K9 hK9 => ?_
    refine vc_region ?_
    refine vo_move_pv rfl rfl ?_
    refine vo_nil ?_
    refine hK9 _ ?_
    refine vc_cond rfl (fun hc2 => ?_) (fun hc2 => ?_)
    · try simp only [decide_eq_true_eq, decide_eq_false_iff_not, beq_iff_eq, bne_iff_ne, beq_eq_false_iff_ne, bne_eq_false_iff_eq, Bool.not_eq_true, Bool.not_eq_false, Bool.not_eq_eq_eq_not, Bool.not_true, Bool.not_false, List.length_map, Int.not_lt, Int.not_le, ne_eq, Decidable.not_not] at hc2
      refine vc_region ?_
      refine vo_move_ref rfl rfl ?_
      refine vo_move_pv rfl rfl ?_
      refine vo_buildSlice E30 rfl rfl rfl rfl rfl ?_
      refine vo_append E30 rfl (by omega) rfl rfl rfl sd sd ?_
      refine vo_stN ?_
      try simp only [app_ints, app_intss, app_bools]
      refine vo_assign_ref rfl rfl ?_
      refine vo_nil ?_
      refine hK7 _ ?_
      refine vc_region ?_
      refine vo_binI rfl rfl rfl rfl sd ?_
      refine vo_move_pv rfl rfl ?_
      refine vo_nil ?_
      change again _ _ _ _ _ _
      refine again_mk rfl rfl rfl rfl ⟨_, ?_, k + 1, rfl, ?_, rfl, (congrArg (fun l => [Row.own 3 1 none true (List.map intP l)]) (show idxT marks k ++ [((k : Nat) : Int)] = idxT marks (k+1) by rw [idxT_succ, if_pos (by assumption)]))⟩
      · omega
      · omega
    · try simp only [decide_eq_true_eq, decide_eq_false_iff_not, beq_iff_eq, bne_iff_ne, beq_eq_false_iff_ne, bne_eq_false_iff_eq, Bool.not_eq_true, Bool.not_eq_false, Bool.not_eq_eq_eq_not, Bool.not_true, Bool.not_false, List.length_map, Int.not_lt, Int.not_le, ne_eq, Decidable.not_not] at hc2
      refine vc_skip ?_
      refine hK7 _ ?_
      refine vc_region ?_
      refine vo_binI rfl rfl rfl rfl sd ?_
      refine vo_move_pv rfl rfl ?_
      refine vo_nil ?_
      change again _ _ _ _ _ _
      refine again_mk rfl rfl rfl rfl ⟨_, ?_, k + 1, rfl, ?_, rfl, (congrArg (fun l => [Row.own 3 1 none true (List.map intP l)]) (show idxT marks k = idxT marks (k+1) by rw [idxT_succ, if_neg (Bool.eq_false_iff.1 (by assumption))]))⟩
      · omega
      · omega
  · try simp only [decide_eq_true_eq, decide_eq_false_iff_not, beq_iff_eq, bne_iff_ne, beq_eq_false_iff_ne, bne_eq_false_iff_eq, Bool.not_eq_true, Bool.not_eq_false, Bool.not_eq_eq_eq_not, Bool.not_true, Bool.not_false, List.length_map, Int.not_lt, Int.not_le, ne_eq, Decidable.not_not] at hc1
    refine vc_exit ?_
    refine hK3 _ ?_
    refine vc_seq fun K10 hK10 => ?_
    refine vc_region ?_
    refine vo_move_ref rfl rfl ?_
    refine vo_assign_ref rfl rfl ?_
    refine vo_nil ?_
    refine hK10 _ ?_
    refine vc_ret ?_
    change retG _ _ _ _ _
    refine retG_one 0 hC rfl rfl rfl rfl rfl ?_
    exact ⟨_, rfl, rows_eq (g := intP) (by rw [show k = marks.length by omega]; rfl)⟩


theorem implAboveOf_sat {nl0 : Option Bool} {bases : List (List Int)} {c : Int} (hbases : bases.length < 1000000000) (hlbases : ∀ l ∈ bases, l.length < 1000000000)  : SatAt Try.prog 14 [.pv false (.sl nl0 1 (bases.map ints)), i64 c] [] (fun res rows => ∃ nl, res = [.ref 0] ∧ rows = [Row.own 3 1 nl true ((abvR bases c).map intP)]) := by
  refine sat_entry_g (ts := [4]) Try.func14 rfl rfl (by decide) (Nat.le_of_ble_eq_true rfl) fun C hC => ?_
  rw [Try.ntmps14]
  replace hC : C.nb = 0 := hC
  refine vc_seq fun K1 hK1 => ?_
  refine vc_region ?_
  refine vo_assign_pv rfl rfl ?_
  refine vo_nil ?_
  refine hK1 _ ?_
  refine vc_seq fun K2 hK2 => ?_
  refine vc_seq fun K3 hK3 => ?_
  refine vc_region ?_
  refine vo_move_pv rfl rfl ?_
  refine vo_move_pv rfl rfl ?_
  refine vo_call0 Try.func42 rfl rfl rfl rfl (hasClass_sat hbases hlbases) ?_
  rintro _ _ ⟨rfl, rfl⟩
  refine ⟨rfl, rfl, .inl rfl, ?_⟩
  refine vo_not rfl rfl ?_
  refine vo_nil ?_
  refine hK3 _ ?_
  refine vc_cond rfl (fun hc1 => ?_) (fun hc1 => ?_)
  · try simp only [decide_eq_true_eq, decide_eq_false_iff_not, beq_iff_eq, bne_iff_ne, beq_eq_false_iff_ne, bne_eq_false_iff_eq, Bool.not_eq_true, Bool.not_eq_false, Bool.not_eq_eq_eq_not, Bool.not_true, Bool.not_false, List.length_map, Int.not_lt, Int.not_le, ne_eq, Decidable.not_not] at hc1
    refine vc_seq fun K4 hK4 => ?_
    refine vc_region ?_
    refine vo_assign_pv rfl rfl ?_
    refine vo_nil ?_
    refine hK4 _ ?_
    refine vc_own_nil 4 E30 rfl ?_
    refine vc_ret ?_
    change retG _ _ _ _ _
    refine retG_one 0 hC rfl rfl rfl rfl rfl ?_
    exact ⟨_, rfl, rows_eq (g := intP) ((abvR_no hc1).symm)⟩
  · try simp only [decide_eq_true_eq, decide_eq_false_iff_not, beq_iff_eq, bne_iff_ne, beq_eq_false_iff_ne, bne_eq_false_iff_eq, Bool.not_eq_true, Bool.not_eq_false, Bool.not_eq_eq_eq_not, Bool.not_true, Bool.not_false, List.length_map, Int.not_lt, Int.not_le, ne_eq, Decidable.not_not] at hc1
    obtain ⟨hv, h0, h1⟩ := hc1
    obtain ⟨n, rfl⟩ := Int.eq_ofNat_of_zero_le h0
    have hn : n < bases.length := by omega
    refine vc_skip ?_
    refine hK2 _ ?_
    refine vc_seq fun K5 hK5 => ?_
    refine vc_region ?_
    refine vo_move_pv rfl rfl ?_
    refine vo_len_pv rfl rfl Try.underlying23 ?_
    refine vo_make E56 rfl rfl rfl sd sd sd ?_
    refine vo_assign_ref rfl rfl ?_
    refine vo_nil ?_
    refine hK5 _ ?_
    refine vc_seq fun K6 hK6 => ?_
    refine vc_region ?_
    refine vo_move_ref rfl rfl ?_
    refine vo_move_pv rfl rfl ?_
    refine vo_index_ref rfl rfl rfl rfl E56.und inf4 sz4 sd sd ?_
    try simp only [Int.toNat_natCast]
    refine vo_store_own rfl rfl rfl inf4 sz4 (by decide) rfl sd ?_
    try simp only [set_ints, set_intss, set_bools, rep_bools, rep_ints, Int.toNat_natCast, Int.toNat_zero]
    refine vo_nil ?_
    refine hK6 _ ?_
    refine vc_seq fun K7 hK7 => ?_
    refine vc_seq fun K8 hK8 => ?_
    refine vc_region ?_
    refine vo_move_pv rfl rfl ?_
    refine vo_assign_pv rfl rfl ?_
    refine vo_nil ?_
    refine hK8 _ ?_
    refine vc_block ?_
    refine vc_stN ?_
    refine vc_loop [0, 5, 6] (fun mz vs rows => ∃ (i : Int) (m : List Bool), mz = i.toNat ∧ (0 ≤ i ∧ i < bases.length) ∧ (goB bases i.toNat m = abvB bases n) ∧ (m.length = bases.length) ∧ vs = [.pv false (.sl nl0 1 (bases.map ints)), .ref 0, i64 i] ∧ rows = [Row.own 4 1 (some false) true ((m).map boolP)]) (n) (le_len hC rfl) ⟨rfl, rfl⟩ ⟨n, (List.replicate bases.length false).set n true, rfl, (by omega), rfl, (by simp), rfl, (by simp only [List.length_map])⟩ ?_
    rintro mz vs rows - - ⟨i, m, rfl, hi, hg, hl, rfl, rfl⟩
    refine vc_seq fun K9 hK9 => ?_
    refine vc_seq fun K10 hK10 => ?_
    refine vc_region ?_
    refine vo_move_pv rfl rfl ?_
    refine vo_binI rfl rfl rfl rfl trivial ?_
    refine vo_nil ?_
    refine hK10 _ ?_
    refine vc_cond rfl (fun hc2 => ?_) (fun hc2 => ?_)
    · try simp only [decide_eq_true_eq, decide_eq_false_iff_not, beq_iff_eq, bne_iff_ne, beq_eq_false_iff_ne, bne_eq_false_iff_eq, Bool.not_eq_true, Bool.not_eq_false, Bool.not_eq_eq_eq_not, Bool.not_true, Bool.not_false, List.length_map, Int.not_lt, Int.not_le, ne_eq, Decidable.not_not] at hc2
      refine vc_skip ?_
      refine hK9 _ ?_
      refine vc_seq fun K11 hK11 => ?_
      refine vc_block ?_
      refine vc_seq fun K12 hK12 => ?_
      refine vc_region ?_
      refine vo_move_ref rfl rfl ?_
      refine vo_move_pv rfl rfl ?_
      refine vo_index_ref rfl rfl rfl rfl E56.und inf4 sz4 sd sd ?_
      try simp only [Int.toNat_natCast]
      refine vo_load_own rfl rfl rfl Try.underlying4 rfl sd (getD_bools _ _) rfl ?_
      try simp only [Int.toNat_natCast]
      refine vo_nil ?_
      refine hK12 _ ?_
      refine vc_cond rfl (fun hc3 => ?_) (fun hc3 => ?_)
      · try simp only [decide_eq_true_eq, decide_eq_false_iff_not, beq_iff_eq, bne_iff_ne, beq_eq_false_iff_ne, bne_eq_false_iff_eq, Bool.not_eq_true, Bool.not_eq_false, Bool.not_eq_eq_eq_not, Bool.not_true, Bool.not_false, List.length_map, Int.not_lt, Int.not_le, ne_eq, Decidable.not_not] at hc3
        refine vc_seq fun K13 hK13 => ?_
        refine vc_region ?_
        refine vo_move_pv rfl rfl ?_
        refine vo_move_pv rfl rfl ?_
        refine vo_index_pv (.sl none 1 []) rfl rfl rfl E23.und inf30 sz30 sd sd ?_
        simp only [Int.toNat_natCast, Int.toNat_zero, getD_ints, getD_intss, getD_bools, getD_bytes, PV.cells]
        refine vo_load_adr rfl rfl Try.underlying30 rfl ?_
        refine vo_len_pv rfl rfl Try.underlying30 ?_
        refine vo_move_pv rfl rfl ?_
        refine vo_nil ?_
        refine hK13 _ ?_
        refine vc_block ?_
        refine vc_stN ?_
        refine vc_loop [0, 5, 6, 31, 32, 33] (fun mz vs rows => ∃ (j : Nat) (m2 : List Bool), mz = (bases.getD i.toNat []).length - j ∧ (j ≤ (bases.getD i.toNat []).length) ∧ (mkB ((bases.getD i.toNat []).drop j) m2 = mkB (bases.getD i.toNat []) m) ∧ (m2.length = bases.length) ∧ vs = [.pv false (.sl nl0 1 (bases.map ints)), .ref 0, i64 i, .pv false (.sl none 1 ((bases.getD i.toNat []).map intP)), i64 ((bases.getD i.toNat []).map intP).length, i64 j] ∧ rows = [Row.own 4 1 (some false) true ((m2).map boolP)]) ((bases.getD i.toNat []).length) (le_len hC rfl) ⟨rfl, rfl⟩ ⟨0, m, rfl, Nat.zero_le _, rfl, hl, rfl, rfl⟩ ?_
        rintro mz vs rows - - ⟨j, m2, rfl, hk, hm2, hl2, rfl, rfl⟩
        have hLb := lens hlbases i.toNat (by omega)
        refine vc_seq fun K14 hK14 => ?_
        refine vc_region ?_
        refine vo_binI rfl rfl rfl rfl trivial ?_
        refine vo_nil ?_
        refine hK14 _ ?_
        refine vc_seq fun K15 hK15 => ?_
        refine vc_cond rfl (fun hc4 => ?_) (fun hc4 => ?_)
        · try simp only [decide_eq_true_eq, decide_eq_false_iff_not, beq_iff_eq, bne_iff_ne, beq_eq_false_iff_ne, bne_eq_false_iff_eq, Bool.not_eq_true, Bool.not_eq_false, Bool.not_eq_eq_eq_not, Bool.not_true, Bool.not_false, List.length_map, Int.not_lt, Int.not_le, ne_eq, Decidable.not_not] at hc4
          have hb := hv.bd (getD_mem (show j < (bases.getD i.toNat []).length by omega) 0)
          refine vc_skip ?_
          refine hK15 _ ?_
          refine vc_seq fun K16 hK16 => ?_
          refine vc_block ?_
          refine vc_seq fun K17 hK17 => ?_
          refine vc_region ?_
          refine vo_index_pv (.int .i64 0) rfl rfl rfl E30.und inf3 sz3 sd sd ?_
          simp only [Int.toNat_natCast, Int.toNat_zero, getD_ints, getD_intss, getD_bools, getD_bytes, PV.cells]
          refine vo_load_adr rfl rfl Try.underlying3 rfl ?_
          refine vo_assign_pv rfl rfl ?_
          refine vo_nil ?_
          refine hK17 _ ?_
          refine vc_region ?_
          refine vo_move_ref rfl rfl ?_
          refine vo_move_pv rfl rfl ?_
          refine vo_index_ref rfl rfl rfl rfl E56.und inf4 sz4 sd sd ?_
          try simp only [Int.toNat_natCast]
          refine vo_store_own rfl rfl rfl inf4 sz4 (by decide) rfl sd ?_
          try simp only [set_ints, set_intss, set_bools, rep_bools, rep_ints, Int.toNat_natCast, Int.toNat_zero]
          refine vo_nil ?_
          refine hK16 _ ?_
          refine vc_region ?_
          refine vo_binI rfl rfl rfl rfl sd ?_
          refine vo_move_pv rfl rfl ?_
          refine vo_nil ?_
          change again _ _ _ _ _ _
          refine again_mk rfl rfl rfl rfl ⟨_, ?_, j + 1, m2.set ((bases.getD i.toNat []).getD j 0).toNat true, rfl, ?_, ?_, ?_, rfl, rfl⟩
          · omega
          · omega
          · exact (mkB_drop _ _ _ (by omega)).symm.trans hm2
          · simpa using hl2
        · try simp only [decide_eq_true_eq, decide_eq_false_iff_not, beq_iff_eq, bne_iff_ne, beq_eq_false_iff_ne, bne_eq_false_iff_eq, Bool.not_eq_true, Bool.not_eq_false, Bool.not_eq_eq_eq_not, Bool.not_true, Bool.not_false, List.length_map, Int.not_lt, Int.not_le, ne_eq, Decidable.not_not] at hc4
          refine vc_exit ?_
          refine hK11 _ ?_
          refine vc_region ?_
          refine vo_move_pv rfl rfl ?_
          refine vo_binI rfl rfl rfl rfl sd ?_
          refine vo_assign_pv rfl rfl ?_
          refine vo_nil ?_
          change again _ _ _ _ _ _
          refine again_mk rfl rfl rfl rfl ⟨_, ?_, i - 1, m2, rfl, ?_, ?_, ?_, rfl, rfl⟩
          · omega
          · omega
          · rw [← hg, goB_t hc2 hc3, ← hm2, List.drop_eq_nil_of_le (by omega)]; rfl
          · exact hl2
      · try simp only [decide_eq_true_eq, decide_eq_false_iff_not, beq_iff_eq, bne_iff_ne, beq_eq_false_iff_ne, bne_eq_false_iff_eq, Bool.not_eq_true, Bool.not_eq_false, Bool.not_eq_eq_eq_not, Bool.not_true, Bool.not_false, List.length_map, Int.not_lt, Int.not_le, ne_eq, Decidable.not_not] at hc3
        refine vc_skip ?_
        refine hK11 _ ?_
        refine vc_region ?_
        refine vo_move_pv rfl rfl ?_
        refine vo_binI rfl rfl rfl rfl sd ?_
        refine vo_assign_pv rfl rfl ?_
        refine vo_nil ?_
        change again _ _ _ _ _ _
        refine again_mk rfl rfl rfl rfl ⟨_, ?_, i - 1, m, rfl, ?_, ?_, ?_, rfl, rfl⟩
        · omega
        · omega
        · rw [← hg, goB_f hc2 hc3]
        · exact hl
    · try simp only [decide_eq_true_eq, decide_eq_false_iff_not, beq_iff_eq, bne_iff_ne, beq_eq_false_iff_ne, bne_eq_false_iff_eq, Bool.not_eq_true, Bool.not_eq_false, Bool.not_eq_eq_eq_not, Bool.not_true, Bool.not_false, List.length_map, Int.not_lt, Int.not_le, ne_eq, Decidable.not_not] at hc2
      refine vc_exit ?_
      refine hK7 _ ?_
      refine vc_seq fun K18 hK18 => ?_
      refine vc_region ?_
      refine vo_move_ref rfl rfl ?_
      refine vo_call [] Try.func43 rfl rfl rfl rfl rfl rfl rfl (indicesOf_sat (marks := m) (by omega)) ?_
      rintro _ _ ⟨nl9, rfl, rfl⟩
      refine ⟨Nat.le_of_ble_eq_true rfl, ⟨rfl, rfl, rfl⟩, .inr ⟨rfl, rfl⟩, ?_⟩
      refine vo_stN ?_
      refine vo_assign_ref rfl rfl ?_
      refine vo_nil ?_
      refine hK18 _ ?_
      refine vc_ret ?_
      change retG _ _ _ _ _
      refine retG_one 1 hC rfl rfl rfl rfl rfl ?_
      exact ⟨_, rfl, rows_eq (g := intP) (by rw [abvR_of hv hn, abvL, ← hg, show i = 0 by omega]; rfl)⟩


theorem above_sat {nl0 : Option Bool} {bases : List (List Int)} {n : Nat} (hbases : bases.length < 1000000000) (hlbases : ∀ l ∈ bases, l.length < 1000000000) (hv : VB bases) (hn : n < bases.length) : SatAt Try.prog 45 [.pv false (.sl nl0 1 (bases.map ints)), i64 n] [] (fun res rows => ∃ nl, res = [.ref 0] ∧ rows = [Row.own 3 1 nl true ((abvL bases n).map intP)]) := by
  refine sat_entry_g (ts := [4]) Try.func45 rfl rfl (by decide) (Nat.le_of_ble_eq_true rfl) fun C hC => ?_
  rw [Try.ntmps45]
  replace hC : C.nb = 0 := hC
  refine vc_seq fun K1 hK1 => ?_
  refine vc_region ?_
  refine vo_assign_pv rfl rfl ?_
  refine vo_nil ?_
  refine hK1 _ ?_
  refine vc_seq fun K2 hK2 => ?_
  refine vc_region ?_
  refine vo_move_pv rfl rfl ?_
  refine vo_len_pv rfl rfl Try.underlying23 ?_
  refine vo_make E56 rfl rfl rfl sd sd sd ?_
  refine vo_assign_ref rfl rfl ?_
  refine vo_nil ?_
  refine hK2 _ ?_
  refine vc_seq fun K3 hK3 => ?_
  refine vc_region ?_
  refine vo_move_ref rfl rfl ?_
  refine vo_move_pv rfl rfl ?_
  refine vo_index_ref rfl rfl rfl rfl E56.und inf4 sz4 sd sd ?_
  try simp only [Int.toNat_natCast]
  refine vo_store_own rfl rfl rfl inf4 sz4 (by decide) rfl sd ?_
  try simp only [set_ints, set_intss, set_bools, rep_bools, rep_ints, Int.toNat_natCast, Int.toNat_zero]
  refine vo_nil ?_
  refine hK3 _ ?_
  refine vc_seq fun K4 hK4 => ?_
  refine vc_seq fun K5 hK5 => ?_
  refine vc_region ?_
  refine vo_move_pv rfl rfl ?_
  refine vo_assign_pv rfl rfl ?_
  refine vo_nil ?_
  refine hK5 _ ?_
  refine vc_block ?_
  refine vc_stN ?_
  refine vc_loop [0, 5, 6] (fun mz vs rows => ∃ (i : Int) (m : List Bool), mz = (i+1).toNat ∧ (-1 ≤ i ∧ i < bases.length) ∧ (goC bases (i+1).toNat m = abvB bases n) ∧ (m.length = bases.length) ∧ vs = [.pv false (.sl nl0 1 (bases.map ints)), .ref 0, i64 i] ∧ rows = [Row.own 4 1 (some false) true ((m).map boolP)]) (n+1) (le_len hC rfl) ⟨rfl, rfl⟩ ⟨n, (List.replicate bases.length false).set n true, rfl, (by omega), (goC_goB hv.2.2.1 n _), (by simp), rfl, (by simp only [List.length_map])⟩ ?_
  rintro mz vs rows - - ⟨i, m, rfl, hi, hg, hl, rfl, rfl⟩
  refine vc_seq fun K6 hK6 => ?_
  refine vc_seq fun K7 hK7 => ?_
  refine vc_region ?_
  refine vo_move_pv rfl rfl ?_
  refine vo_binI rfl rfl rfl rfl trivial ?_
  refine vo_nil ?_
  refine hK7 _ ?_
  refine vc_cond rfl (fun hc1 => ?_) (fun hc1 => ?_)
  · try simp only [decide_eq_true_eq, decide_eq_false_iff_not, beq_iff_eq, bne_iff_ne, beq_eq_false_iff_ne, bne_eq_false_iff_eq, Bool.not_eq_true, Bool.not_eq_false, Bool.not_eq_eq_eq_not, Bool.not_true, Bool.not_false, List.length_map, Int.not_lt, Int.not_le, ne_eq, Decidable.not_not] at hc1
    refine vc_skip ?_
    refine hK6 _ ?_
    refine vc_seq fun K8 hK8 => ?_
    refine vc_block ?_
    refine vc_seq fun K9 hK9 => ?_
    refine vc_region ?_
    refine vo_assign_pv rfl rfl ?_
    refine vo_nil ?_
    refine hK9 _ ?_
    refine vc_block ?_
    refine vc_stN ?_
    refine vc_loop [0, 5, 6, 7] (fun mz vs rows => ∃ (j : Nat) (m2 : List Bool), mz = (bases.getD i.toNat []).length - j ∧ (j ≤ (bases.getD i.toNat []).length) ∧ (m.getD i.toNat false = true → mkB ((bases.getD i.toNat []).drop j) m2 = mkB (bases.getD i.toNat []) m) ∧ (m.getD i.toNat false = false → m2 = m) ∧ (m2.length = bases.length) ∧ (m2.getD i.toNat false = m.getD i.toNat false) ∧ vs = [.pv false (.sl nl0 1 (bases.map ints)), .ref 0, i64 i, i64 j] ∧ rows = [Row.own 4 1 (some false) true ((m2).map boolP)]) ((bases.getD i.toNat []).length) (le_len hC rfl) ⟨rfl, rfl⟩ ⟨0, m, rfl, Nat.zero_le _, (fun _ => rfl), (fun _ => rfl), hl, rfl, rfl, rfl⟩ ?_
    rintro mz vs rows - - ⟨j, m2, rfl, hk, hm2, hm3, hl2, hs, rfl, rfl⟩
    have hLb := lens hlbases i.toNat (by omega)
    refine vc_seq fun K10 hK10 => ?_
    refine vc_seq fun K11 hK11 => ?_
    refine vc_region ?_
    refine vo_move_pv rfl rfl ?_
    refine vo_move_pv rfl rfl ?_
    refine vo_move_pv rfl rfl ?_
    refine vo_index_pv (.sl none 1 []) rfl rfl rfl E23.und inf30 sz30 sd sd ?_
    simp only [Int.toNat_natCast, Int.toNat_zero, getD_ints, getD_intss, getD_bools, getD_bytes, PV.cells]
    refine vo_load_adr rfl rfl Try.underlying30 rfl ?_
    refine vo_len_pv rfl rfl Try.underlying30 ?_
    refine vo_binI rfl rfl rfl rfl trivial ?_
    refine vo_move_pv rfl rfl ?_
    refine vo_split 28 rfl (fun hg2 => ?_) (fun hg2 => ?_)
    · try simp only [decide_eq_true_eq, decide_eq_false_iff_not, beq_iff_eq, bne_iff_ne, beq_eq_false_iff_ne, bne_eq_false_iff_eq, Bool.not_eq_true, Bool.not_eq_false, Bool.not_eq_eq_eq_not, Bool.not_true, Bool.not_false, List.length_map, Int.not_lt, Int.not_le, ne_eq, Decidable.not_not] at hg2
      have hb := hv.bd (getD_mem (show j < (bases.getD i.toNat []).length by omega) 0)
      refine vo_guard_on rfl rfl rfl ?_
      refine vo_move_ref rfl rfl ?_
      refine vo_guard_on rfl rfl rfl ?_
      refine vo_move_pv rfl rfl ?_
      refine vo_guard_on rfl rfl rfl ?_
      refine vo_index_ref rfl rfl rfl rfl E56.und inf4 sz4 sd sd ?_
      try simp only [Int.toNat_natCast]
      refine vo_guard_on rfl rfl rfl ?_
      refine vo_load_own rfl rfl rfl Try.underlying4 rfl sd (getD_bools _ _) rfl ?_
      try simp only [Int.toNat_natCast]
      refine vo_pick_t rfl rfl ?_
      refine vo_nil ?_
      refine hK11 _ ?_
      refine vc_cond rfl (fun hc3 => ?_) (fun hc3 => ?_)
      · try simp only [decide_eq_true_eq, decide_eq_false_iff_not, beq_iff_eq, bne_iff_ne, beq_eq_false_iff_ne, bne_eq_false_iff_eq, Bool.not_eq_true, Bool.not_eq_false, Bool.not_eq_eq_eq_not, Bool.not_true, Bool.not_false, List.length_map, Int.not_lt, Int.not_le, ne_eq, Decidable.not_not] at hc3
        refine vc_skip ?_
        refine hK10 _ ?_
        refine vc_seq fun K12 hK12 => ?_
        refine vc_block ?_
        refine vc_region ?_
        refine vo_move_ref rfl rfl ?_
        refine vo_move_pv rfl rfl ?_
        refine vo_move_pv rfl rfl ?_
        refine vo_index_pv (.sl none 1 []) rfl rfl rfl E23.und inf30 sz30 sd sd ?_
        simp only [Int.toNat_natCast, Int.toNat_zero, getD_ints, getD_intss, getD_bools, getD_bytes, PV.cells]
        refine vo_load_adr rfl rfl Try.underlying30 rfl ?_
        refine vo_move_pv rfl rfl ?_
        refine vo_index_pv (.int .i64 0) rfl rfl rfl E30.und inf3 sz3 sd sd ?_
        simp only [Int.toNat_natCast, Int.toNat_zero, getD_ints, getD_intss, getD_bools, getD_bytes, PV.cells]
        refine vo_load_adr rfl rfl Try.underlying3 rfl ?_
        refine vo_index_ref rfl rfl rfl rfl E56.und inf4 sz4 sd sd ?_
        try simp only [Int.toNat_natCast]
        refine vo_store_own rfl rfl rfl inf4 sz4 (by decide) rfl sd ?_
        try simp only [set_ints, set_intss, set_bools, rep_bools, rep_ints, Int.toNat_natCast, Int.toNat_zero]
        refine vo_nil ?_
        refine hK12 _ ?_
        refine vc_region ?_
        refine vo_move_pv rfl rfl ?_
        refine vo_binI rfl rfl rfl rfl sd ?_
        refine vo_assign_pv rfl rfl ?_
        refine vo_nil ?_
        change again _ _ _ _ _ _
        refine again_mk rfl rfl rfl rfl ⟨_, ?_, j + 1, m2.set ((bases.getD i.toNat []).getD j 0).toNat true, rfl, ?_, ?_, ?_, ?_, ?_, rfl, rfl⟩
        · omega
        · omega
        · intro h; exact (mkB_drop _ _ _ (by omega)).symm.trans (hm2 h)
        · intro h; rw [← hs, hc3] at h; cases h
        · simpa using hl2
        · rw [getD_set_b, if_neg (by omega)]; exact hs
      · try simp only [decide_eq_true_eq, decide_eq_false_iff_not, beq_iff_eq, bne_iff_ne, beq_eq_false_iff_ne, bne_eq_false_iff_eq, Bool.not_eq_true, Bool.not_eq_false, Bool.not_eq_eq_eq_not, Bool.not_true, Bool.not_false, List.length_map, Int.not_lt, Int.not_le, ne_eq, Decidable.not_not] at hc3
        refine vc_exit ?_
        refine hK8 _ ?_
        refine vc_region ?_
        refine vo_move_pv rfl rfl ?_
        refine vo_binI rfl rfl rfl rfl sd ?_
        refine vo_assign_pv rfl rfl ?_
        refine vo_nil ?_
        change again _ _ _ _ _ _
        refine again_mk rfl rfl rfl rfl ⟨_, ?_, i - 1, m2, rfl, ?_, ?_, ?_, rfl, rfl⟩
        · omega
        · omega
        · have e : stB bases i.toNat m = m2 := by unfold stB; rw [if_neg (by rw [← hs, hc3]; simp), hm3 (by rw [← hs, hc3])]
          rw [← hg, goC_s (m := m) (by omega), e]
        · exact hl2
    · try simp only [decide_eq_true_eq, decide_eq_false_iff_not, beq_iff_eq, bne_iff_ne, beq_eq_false_iff_ne, bne_eq_false_iff_eq, Bool.not_eq_true, Bool.not_eq_false, Bool.not_eq_eq_eq_not, Bool.not_true, Bool.not_false, List.length_map, Int.not_lt, Int.not_le, ne_eq, Decidable.not_not] at hg2
      refine vo_guard_off rfl rfl rfl rfl rfl ?_
      refine vo_guard_off rfl rfl rfl rfl rfl ?_
      refine vo_guard_off rfl rfl rfl rfl rfl ?_
      refine vo_guard_off rfl rfl rfl rfl rfl ?_
      refine vo_pick_f rfl rfl ?_
      refine vo_nil ?_
      refine hK11 _ ?_
      refine vc_cond_f rfl ?_
      refine vc_exit ?_
      refine hK8 _ ?_
      refine vc_region ?_
      refine vo_move_pv rfl rfl ?_
      refine vo_binI rfl rfl rfl rfl sd ?_
      refine vo_assign_pv rfl rfl ?_
      refine vo_nil ?_
      change again _ _ _ _ _ _
      refine again_mk rfl rfl rfl rfl ⟨_, ?_, i - 1, m2, rfl, ?_, ?_, ?_, rfl, rfl⟩
      · omega
      · omega
      · have e : stB bases i.toNat m = m2 := by
          unfold stB
          split
          · rename_i h; rw [← hm2 h, List.drop_eq_nil_of_le (by omega)]; rfl
          · rename_i h; rw [hm3 (Bool.eq_false_iff.2 h)]
        rw [← hg, goC_s (m := m) (by omega), e]
      · exact hl2
  · try simp only [decide_eq_true_eq, decide_eq_false_iff_not, beq_iff_eq, bne_iff_ne, beq_eq_false_iff_ne, bne_eq_false_iff_eq, Bool.not_eq_true, Bool.not_eq_false, Bool.not_eq_eq_eq_not, Bool.not_true, Bool.not_false, List.length_map, Int.not_lt, Int.not_le, ne_eq, Decidable.not_not] at hc1
    refine vc_exit ?_
    refine hK4 _ ?_
    refine vc_seq fun K13 hK13 => ?_
    refine vc_region ?_
    refine vo_buildSlice E30 rfl rfl rfl rfl rfl ?_
    refine vo_assign_ref rfl rfl ?_
    refine vo_nil ?_
    refine hK13 _ ?_
    refine vc_seq fun K14 hK14 => ?_
    refine vc_seq fun K15 hK15 => ?_
    refine vc_region ?_
    refine vo_assign_pv rfl rfl ?_
    refine vo_nil ?_
    refine hK15 _ ?_
    refine vc_block ?_
    refine vc_stN ?_
    refine vc_loop [0, 5, 8, 9] (fun mz vs rows => ∃ (k : Nat), mz = bases.length - k ∧ (k ≤ bases.length) ∧ vs = [.pv false (.sl nl0 1 (bases.map ints)), .ref 0, .ref 1, i64 k] ∧ rows = [Row.own 4 1 (some false) true ((m).map boolP), Row.own 3 1 (some false) true ((idxT m k).map intP)]) (bases.length) (le_len hC rfl) ⟨rfl, rfl⟩ ⟨0, rfl, Nat.zero_le _, rfl, rfl⟩ ?_
    rintro mz vs rows - - ⟨k, rfl, hk, rfl, rfl⟩
    have hL := idxT_len m k
    refine vc_seq fun K16 hK16 => ?_
    refine vc_seq fun K17 hK17 => ?_
    refine vc_region ?_
    refine vo_move_pv rfl rfl ?_
    refine vo_move_pv rfl rfl ?_
    refine vo_len_pv rfl rfl Try.underlying23 ?_
    refine vo_binI rfl rfl rfl rfl trivial ?_
    refine vo_nil ?_
    refine hK17 _ ?_
    refine vc_cond rfl (fun hc4 => ?_) (fun hc4 => ?_)
    · try simp only [decide_eq_true_eq, decide_eq_false_iff_not, beq_iff_eq, bne_iff_ne, beq_eq_false_iff_ne, bne_eq_false_iff_eq, Bool.not_eq_true, Bool.not_eq_false, Bool.not_eq_eq_eq_not, Bool.not_true, Bool.not_false, List.length_map, Int.not_lt, Int.not_le, ne_eq, Decidable.not_not] at hc4
      refine vc_skip ?_
      refine hK16 _ ?_
      refine vc_seq fun K18 hK18 => ?_
      refine vc_block ?_
      refine vc_seq fun K19 hK19 => ?_
      refine vc_region ?_
      refine vo_move_ref rfl rfl ?_
      refine vo_move_pv rfl rfl ?_
      refine vo_index_ref rfl rfl rfl rfl E56.und inf4 sz4 sd sd ?_
      try simp only [Int.toNat_natCast]
      refine vo_load_own rfl rfl rfl Try.underlying4 rfl sd (getD_bools _ _) rfl ?_
      try simp only [Int.toNat_natCast]
      refine vo_nil ?_
      refine hK19 _ ?_
      refine vc_cond rfl (fun hc5 => ?_) (fun hc5 => ?_)
      · try simp only [decide_eq_true_eq, decide_eq_false_iff_not, beq_iff_eq, bne_iff_ne, beq_eq_false_iff_ne, bne_eq_false_iff_eq, Bool.not_eq_true, Bool.not_eq_false, Bool.not_eq_eq_eq_not, Bool.not_true, Bool.not_false, List.length_map, Int.not_lt, Int.not_le, ne_eq, Decidable.not_not] at hc5
        refine vc_region ?_
        refine vo_move_ref rfl rfl ?_
        refine vo_move_pv rfl rfl ?_
        refine vo_buildSlice E30 rfl rfl rfl rfl rfl ?_
        refine vo_append E30 rfl (by omega) rfl rfl rfl sd sd ?_
        refine vo_stN ?_
        try simp only [app_ints, app_intss, app_bools]
        refine vo_assign_ref rfl rfl ?_
        refine vo_nil ?_
        refine hK18 _ ?_
        refine vc_region ?_
        refine vo_move_pv rfl rfl ?_
        refine vo_binI rfl rfl rfl rfl sd ?_
        refine vo_assign_pv rfl rfl ?_
        refine vo_nil ?_
        change again _ _ _ _ _ _
        refine again_mk rfl rfl rfl rfl ⟨_, ?_, k + 1, rfl, ?_, rfl, (congrArg (fun l => [Row.own 4 1 (some false) true ((m).map boolP), Row.own 3 1 (some false) true (List.map intP l)]) (show idxT m k ++ [((k : Nat) : Int)] = idxT m (k+1) by rw [idxT_succ, if_pos (by assumption)]))⟩
        · omega
        · omega
      · try simp only [decide_eq_true_eq, decide_eq_false_iff_not, beq_iff_eq, bne_iff_ne, beq_eq_false_iff_ne, bne_eq_false_iff_eq, Bool.not_eq_true, Bool.not_eq_false, Bool.not_eq_eq_eq_not, Bool.not_true, Bool.not_false, List.length_map, Int.not_lt, Int.not_le, ne_eq, Decidable.not_not] at hc5
        refine vc_skip ?_
        refine hK18 _ ?_
        refine vc_region ?_
        refine vo_move_pv rfl rfl ?_
        refine vo_binI rfl rfl rfl rfl sd ?_
        refine vo_assign_pv rfl rfl ?_
        refine vo_nil ?_
        change again _ _ _ _ _ _
        refine again_mk rfl rfl rfl rfl ⟨_, ?_, k + 1, rfl, ?_, rfl, (congrArg (fun l => [Row.own 4 1 (some false) true ((m).map boolP), Row.own 3 1 (some false) true (List.map intP l)]) (show idxT m k = idxT m (k+1) by rw [idxT_succ, if_neg (Bool.eq_false_iff.1 (by assumption))]))⟩
        · omega
        · omega
    · try simp only [decide_eq_true_eq, decide_eq_false_iff_not, beq_iff_eq, bne_iff_ne, beq_eq_false_iff_ne, bne_eq_false_iff_eq, Bool.not_eq_true, Bool.not_eq_false, Bool.not_eq_eq_eq_not, Bool.not_true, Bool.not_false, List.length_map, Int.not_lt, Int.not_le, ne_eq, Decidable.not_not] at hc4
      refine vc_exit ?_
      refine hK14 _ ?_
      refine vc_seq fun K20 hK20 => ?_
      refine vc_region ?_
      refine vo_move_ref rfl rfl ?_
      refine vo_assign_ref rfl rfl ?_
      refine vo_nil ?_
      refine hK20 _ ?_
      refine vc_ret ?_
      change retG _ _ _ _ _
      refine retG_one 1 hC rfl rfl rfl rfl rfl ?_
      exact ⟨_, rfl, rows_eq (g := intP) (by rw [abvL, idxB, abvB_len, ← hg, show (i+1).toNat = 0 by omega, show k = bases.length by omega]; rfl)⟩

end Go.Vl

namespace Go.Vl
set_option linter.unusedVariables false
set_option linter.unusedSimpArgs false
open Go.Proofs

theorem row1_eq {el : TypeId} {e : Nat} {nl : Option Bool} {f : Bool} {xs ys : List PV} (h : xs = ys) : [Row.own el e nl f xs] = [Row.own el e nl f ys] := by rw [h]
theorem fill_set {α : Type} (f : α → PV) (a : List α) (k : Nat) (h : k < a.length) (d : α) (z : PV) : ((a.take k).map f ++ List.replicate (a.length - k) z).set k (f (a.getD k d)) = (a.take (k+1)).map f ++ List.replicate (a.length - (k+1)) z := by
  have e : a.getD k d = a[k] := by simp [List.getD, List.getElem?_eq_getElem h]
  rw [e, List.take_succ_eq_append_getElem h, List.map_append, List.set_append_right _ _ (by simp; omega), show a.length - k = (a.length - (k+1)) + 1 by omega, List.replicate_succ]
  simp [show min k a.length = k by omega]
theorem fill_set0 {α : Type} (a : List α) (k : Nat) (h : k < a.length) (d : α) (z : α) : ((a.take k) ++ List.replicate (a.length - k) z).set k (a.getD k d) = (a.take (k+1)) ++ List.replicate (a.length - (k+1)) z := by
  have e : a.getD k d = a[k] := by simp [List.getD, List.getElem?_eq_getElem h]
  rw [e, List.take_succ_eq_append_getElem h, List.set_append_right _ _ (by simp; omega), show a.length - k = (a.length - (k+1)) + 1 by omega, List.replicate_succ]
  simp [show min k a.length = k by omega]
  rw [List.take_succ_eq_append_getElem h, List.append_assoc]; rfl
theorem take_eq_succ {α : Type} {a b : List α} {k : Nat} (h : k < a.length) (h2 : k < b.length) (d : α) : a.take (k+1) = b.take (k+1) ↔ a.take k = b.take k ∧ a.getD k d = b.getD k d := by
  rw [List.take_succ_eq_append_getElem h, List.take_succ_eq_append_getElem h2]
  have e1 : a.getD k d = a[k] := by simp [List.getD, List.getElem?_eq_getElem h]
  have e2 : b.getD k d = b[k] := by simp [List.getD, List.getElem?_eq_getElem h2]
  rw [e1, e2]
  constructor
  · intro h3
    have := List.append_inj' h3 rfl
    exact ⟨this.1, by simpa using this.2⟩
  · rintro ⟨h3, h4⟩; rw [h3, h4]
theorem take_eq_of {α : Type} {a b : List α} (h : a = b) (k : Nat) : a.take k = b.take k := by rw [h]

theorem lens2 {b : List (List Int)} {N : Nat} (h : ∀ l ∈ b, l.length ≤ N) (k : Nat) : (b.getD k []).length ≤ N := by
  by_cases hk : k < b.length
  · exact h _ (getD_mem hk [])
  · simp [List.getD, List.getElem?_eq_none (by omega : b.length ≤ k)]

end Go.Vl

namespace Go.Vl
set_option linter.unusedVariables false
set_option linter.unusedSimpArgs false
open Go.Proofs

theorem abvR_len {b : List (List Int)} {c : Int} {N : Nat} (h : b.length < N) : (abvR b c).length < N := by
  unfold abvR; split
  · exact Nat.lt_of_le_of_lt (abvL_len b _) h
  · simp; omega
theorem abvL_len' {b : List (List Int)} {c : Nat} {N : Nat} (h : b.length < N) : (abvL b c).length < N := Nat.lt_of_le_of_lt (abvL_len b _) h
theorem abvL_le {b : List (List Int)} (hv : VB b) {c : Nat} (hc : c < b.length) {x : Int} (h : x ∈ abvL b c) : 0 ≤ x ∧ x ≤ c := by
  obtain ⟨i, rfl, h2⟩ := (mem_abvL hv.bd' hc x).1 h
  have := h2.le hv.bd'; omega
theorem abvL_refl {b : List (List Int)} (hv : VB b) {c : Nat} (hc : c < b.length) : (c : Int) ∈ abvL b c := (mem_abvL hv.bd' hc _).2 ⟨c, rfl, .refl c⟩
theorem abvL_step {b : List (List Int)} (hv : VB b) {k n : Nat} (hk : k < b.length) (hne : n ≠ k) : (n : Int) ∈ abvL b k ↔ ∃ d ∈ b.getD k [], (n : Int) ∈ abvL b d.toNat := by
  rw [mem_abvL hv.bd' hk]
  constructor
  · rintro ⟨i, h, h2⟩
    have : n = i := by omega
    subst this
    cases h2 with
    | refl => exact absurd rfl hne
    | @step _ d _ hd h3 =>
      have := hv.bd hd
      refine ⟨(d : Int), hd, ?_⟩
      rw [Int.toNat_natCast, mem_abvL hv.bd' (by omega)]
      exact ⟨n, rfl, h3⟩
  · rintro ⟨d, hd, h2⟩
    have hb := hv.bd hd
    obtain ⟨i, h3, h4⟩ := (mem_abvL hv.bd' (by omega) _).1 h2
    refine ⟨n, rfl, ?_⟩
    have : n = i := by omega
    subst this
    refine .step (d := d.toNat) ?_ h4
    rw [show ((d.toNat : Nat) : Int) = d by omega]; exact hd
theorem belB_get {b : List (List Int)} {c x : Nat} : (belB b c).getD x false = true ↔ x < b.length ∧ (c : Int) ∈ abvL b x := by
  unfold belB
  simp only [List.getD, List.getElem?_map, List.getElem?_range']
  by_cases h : x < b.length
  · simp [List.getElem?_range h, h]
  · simp [List.getElem?_eq_none (show (List.range b.length).length ≤ x by simp; omega), h]
theorem belB_len (b : List (List Int)) (c : Nat) : (belB b c).length = b.length := by simp [belB]
theorem eq_of_get {a b : List Bool} (h : a.length = b.length) (h2 : ∀ x : Nat, a.getD x false = true ↔ b.getD x false = true) : a = b := by
  apply List.ext_getElem h
  intro i h3 h4
  have := h2 i
  simp only [List.getD, List.getElem?_eq_getElem h3, List.getElem?_eq_getElem h4, Option.getD_some] at this
  exact Bool.eq_iff_iff.2 this
theorem bel_lo {b : List (List Int)} (hv : VB b) {n : Nat} (hn : n < b.length) : ∀ k, k ≤ n → idxT (belB b n) k = []
  | 0, _ => rfl
  | k+1, h => by
    rw [idxT_succ, if_neg, bel_lo hv hn k (by omega)]
    intro h2
    have := abvL_le hv (by omega) (belB_get.1 h2).2
    omega
theorem rep_get (N x : Nat) : (List.replicate N false).getD x false = false := by
  simp only [List.getD, List.getElem?_replicate]; split <;> rfl
def belR (b : List (List Int)) (c : Int) : List Int := if VB b ∧ 0 ≤ c ∧ c < b.length then belL b c.toNat else []
theorem belR_of {b : List (List Int)} {n : Nat} (h : VB b) (hn : n < b.length) : belR b n = belL b n := by
  unfold belR; rw [if_pos ⟨h, by omega, by omega⟩]; rfl
theorem belR_no {b : List (List Int)} {c : Int} (h : ¬ (VB b ∧ 0 ≤ c ∧ c < b.length)) : belR b c = [] := if_neg h
def OKLs (ls : List (List Int)) : Prop := (∀ l ∈ ls, OKL l 12) ∧ ls.length ≤ 6
instance {ls : List (List Int)} : Decidable (OKLs ls) := by unfold OKLs; infer_instance
def KeepP (long short : List Int) : Prop := OKL long 12 ∧ OKL short 12 ∧ kpN short long 0 = short.length
instance {a b : List Int} : Decidable (KeepP a b) := by unfold KeepP; infer_instance
def OC (b s : List (List Int)) : Prop := VS b s ∧ ∀ j, j < s.length → ∀ i, i < j → (s.getD i []).length > 0 → (s.getD j []).length > 0 → (i : Int) ∈ abvL b j
noncomputable instance {a b : List (List Int)} : Decidable (OC a b) := Classical.propDecidable _
theorem apart_iff {b : List (List Int)} (hv : VB b) {j k : Nat} (h : j < k) (hk : k < b.length) : (¬ (k : Int) ∈ abvR b j ∧ ¬ (j : Int) ∈ abvR b k) ↔ ¬ (j : Int) ∈ abvL b k := by
  rw [abvR_of hv hk, abvR_of hv (by omega)]
  exact ⟨fun h => h.2, fun h2 => ⟨fun h3 => by have := abvL_le hv (by omega) h3; omega, h2⟩⟩

theorem getD_at {α : Type} {l : List α} {j : Nat} (h : j < l.length) (d : α) : l.getD j d = l[j] := by simp [List.getD, List.getElem?_eq_getElem h]
theorem mark0 {b : List (List Int)} (hv : VB b) {n : Nat} (hn : n < b.length) (x : Nat) : ((List.replicate b.length false).set n true).getD x false = true ↔ x < n + 1 ∧ (n : Int) ∈ abvL b x := by
  rw [getD_set_b, rep_get]
  by_cases h : n = x
  · subst h; simp [hn, abvL_refl hv hn]
  · rw [if_neg (fun e => h e.1)]
    constructor
    · intro h2; cases h2
    · rintro ⟨h2, h3⟩
      have := abvL_le hv (by omega) h3
      omega
theorem mark_in1 {b : List (List Int)} {m m2 : List Bool} {k j : Nat} (hj : j < (b.getD k []).length) (hk : k < m2.length) (h : m2.getD k false = true)
    (hm : ∀ x, m2.getD x false = true ↔ (m.getD x false = true ∨ (x = k ∧ ∃ d ∈ (b.getD k []).take j, m.getD d.toNat false = true))) :
    ∀ x, (m2.set k true).getD x false = true ↔ (m.getD x false = true ∨ (x = k ∧ ∃ d ∈ (b.getD k []).take (j+1), m.getD d.toNat false = true)) := by
  intro x
  rw [getD_set_b]
  by_cases e : k = x
  · subst e
    rw [if_pos ⟨rfl, hk⟩]
    refine ⟨fun _ => ?_, fun _ => rfl⟩
    rcases (hm k).1 h with h1 | ⟨_, d, h1, h2⟩
    · exact .inl h1
    · refine .inr ⟨rfl, d, ?_, h2⟩
      rw [List.take_succ_eq_append_getElem hj]; exact List.mem_append_left _ h1
  · rw [if_neg (fun h => e h.1), hm x]
    simp [Ne.symm e]
theorem mark_in2 {b : List (List Int)} {m m2 : List Bool} {k j : Nat} (hj : j < (b.getD k []).length) (hk : k < m2.length) (h : m2.getD k false = false) (hb : ((b.getD k []).getD j 0).toNat ≠ k)
    (hm : ∀ x, m2.getD x false = true ↔ (m.getD x false = true ∨ (x = k ∧ ∃ d ∈ (b.getD k []).take j, m.getD d.toNat false = true))) :
    ∀ x, (m2.set k (m2.getD ((b.getD k []).getD j 0).toNat false)).getD x false = true ↔ (m.getD x false = true ∨ (x = k ∧ ∃ d ∈ (b.getD k []).take (j+1), m.getD d.toNat false = true)) := by
  intro x
  rw [getD_set_b]
  have e0 := getD_at hj 0
  by_cases e : k = x
  · subst e
    rw [if_pos ⟨rfl, hk⟩, hm]
    have hn : ¬ (m.getD k false = true ∨ (k = k ∧ ∃ d ∈ (b.getD k []).take j, m.getD d.toNat false = true)) := fun h1 => by rw [(hm k).2 h1] at h; cases h
    rw [List.take_succ_eq_append_getElem hj]
    constructor
    · rintro (h1 | ⟨h1, _⟩)
      · exact .inr ⟨rfl, _, List.mem_append_right _ (List.mem_singleton.2 rfl), by rw [← e0]; exact h1⟩
      · exact absurd h1 hb
    · rintro (h1 | ⟨_, d, h1, h2⟩)
      · exact absurd (.inl h1) hn
      · rcases List.mem_append.1 h1 with h1 | h1
        · exact absurd (.inr ⟨rfl, d, h1, h2⟩) hn
        · rw [List.mem_singleton.1 h1, ← e0] at h2; exact .inl h2
  · rw [if_neg (fun h => e h.1), hm x]
    simp [Ne.symm e]
theorem mark_step {b : List (List Int)} (hv : VB b) {n k : Nat} (hnk : n < k) (hk : k < b.length) {m m2 : List Bool} (hm : ∀ x, m.getD x false = true ↔ x < k ∧ (n : Int) ∈ abvL b x)
    (hm2 : ∀ x, m2.getD x false = true ↔ (m.getD x false = true ∨ (x = k ∧ ∃ d ∈ (b.getD k []), m.getD d.toNat false = true))) : ∀ x, m2.getD x false = true ↔ x < k + 1 ∧ (n : Int) ∈ abvL b x := by
  intro x
  rw [hm2, hm]
  constructor
  · rintro (⟨h1, h2⟩ | ⟨rfl, d, h1, h2⟩)
    · exact ⟨by omega, h2⟩
    · exact ⟨by omega, (abvL_step hv hk (by omega)).2 ⟨d, h1, ((hm _).1 h2).2⟩⟩
  · rintro ⟨h1, h2⟩
    rcases Nat.lt_or_ge x k with h | h
    · exact .inl ⟨h, h2⟩
    · have e : x = k := by omega
      subst e
      obtain ⟨d, h3, h4⟩ := (abvL_step hv hk (by omega)).1 h2
      have := hv.bd h3
      exact .inr ⟨rfl, d, h3, (hm _).2 ⟨by omega, h4⟩⟩

theorem implValidSlots_sat {nl0 : Option Bool} {bases : List (List Int)} {nl1 : Option Bool} {slots : List (List Int)} (hbases : bases.length < 1000000000) (hlbases : ∀ l ∈ bases, l.length < 1000000000) (hslots : slots.length < 1000000000) (hlslots : ∀ l ∈ slots, l.length < 1000000000)  : SatAt Try.prog 30 [.pv false (.sl nl0 1 (bases.map ints)), .pv false (.sl nl1 1 (slots.map ints))] [] (fun res rows => res = [bo (decide (VS bases slots))] ∧ rows = []) := by
  refine sat_entry (ts := [4]) Try.func30 rfl rfl (by decide) (Nat.le_of_ble_eq_true rfl) fun C hC => ?_
  rw [Try.ntmps30]
  replace hC : C.nb = 0 := hC
  refine vc_seq fun K1 hK1 => ?_
  refine vc_region ?_
  refine vo_assign_pv rfl rfl ?_
  refine vo_nil ?_
  refine hK1 _ ?_
  refine vc_seq fun K2 hK2 => ?_
  refine vc_seq fun K3 hK3 => ?_
  refine vc_region ?_
  refine vo_move_pv rfl rfl ?_
  refine vo_call0 Try.func52 rfl rfl rfl rfl (implValidBases_sat hbases hlbases) ?_
  rintro _ _ ⟨rfl, rfl⟩
  refine ⟨rfl, rfl, .inl rfl, ?_⟩
  refine vo_not rfl rfl ?_
  refine vo_move_pv rfl rfl ?_
  refine vo_split 10 rfl (fun hg1 => ?_) (fun hg1 => ?_)
  · try simp only [decide_eq_true_eq, decide_eq_false_iff_not, beq_iff_eq, bne_iff_ne, beq_eq_false_iff_ne, bne_eq_false_iff_eq, Bool.not_eq_true, Bool.not_eq_false, Bool.not_eq_eq_eq_not, Bool.not_true, Bool.not_false, List.length_map, Int.not_lt, Int.not_le, ne_eq, Decidable.not_not] at hg1
    refine vo_guard_off rfl rfl rfl rfl rfl ?_
    refine vo_guard_off rfl rfl rfl rfl rfl ?_
    refine vo_guard_off rfl rfl rfl rfl rfl ?_
    refine vo_guard_off rfl rfl rfl rfl rfl ?_
    refine vo_guard_off rfl rfl rfl rfl rfl ?_
    refine vo_pick_t rfl rfl ?_
    refine vo_move_pv rfl rfl ?_
    refine vo_guard_off rfl rfl rfl rfl rfl ?_
    refine vo_guard_off rfl rfl rfl rfl rfl ?_
    refine vo_guard_off rfl rfl rfl rfl rfl ?_
    refine vo_guard_off rfl rfl rfl rfl rfl ?_
    refine vo_guard_off rfl rfl rfl rfl rfl ?_
    refine vo_pick_t rfl rfl ?_
    refine vo_nil ?_
    refine hK3 _ ?_
    refine vc_cond_t rfl ?_
    refine vc_seq fun K4 hK4 => ?_
    refine vc_region ?_
    refine vo_assign_pv rfl rfl ?_
    refine vo_nil ?_
    refine hK4 _ ?_
    refine vc_ret ?_
    change retPv _ _ _ _ _
    refine retPv_mk rfl rfl rfl ⟨?_, rfl⟩
    refine (congrArg (fun b => [bo b]) (?_ : _ = _) : [bo _] = [bo _])
    exact bF fun h => hg1 h.1
  · try simp only [decide_eq_true_eq, decide_eq_false_iff_not, beq_iff_eq, bne_iff_ne, beq_eq_false_iff_ne, bne_eq_false_iff_eq, Bool.not_eq_true, Bool.not_eq_false, Bool.not_eq_eq_eq_not, Bool.not_true, Bool.not_false, List.length_map, Int.not_lt, Int.not_le, ne_eq, Decidable.not_not] at hg1
    have h11 := hg1.1
    refine vo_guard_on rfl rfl rfl ?_
    refine vo_move_pv rfl rfl ?_
    refine vo_guard_on rfl rfl rfl ?_
    refine vo_len_pv rfl rfl Try.underlying23 ?_
    refine vo_guard_on rfl rfl rfl ?_
    refine vo_move_pv rfl rfl ?_
    refine vo_guard_on rfl rfl rfl ?_
    refine vo_len_pv rfl rfl Try.underlying23 ?_
    refine vo_guard_on rfl rfl rfl ?_
    refine vo_binI rfl rfl rfl rfl trivial ?_
    refine vo_pick_f rfl rfl ?_
    refine vo_move_pv rfl rfl ?_
    refine vo_split 17 rfl (fun hg2 => ?_) (fun hg2 => ?_)
    · try simp only [decide_eq_true_eq, decide_eq_false_iff_not, beq_iff_eq, bne_iff_ne, beq_eq_false_iff_ne, bne_eq_false_iff_eq, Bool.not_eq_true, Bool.not_eq_false, Bool.not_eq_eq_eq_not, Bool.not_true, Bool.not_false, List.length_map, Int.not_lt, Int.not_le, ne_eq, Decidable.not_not] at hg2
      refine vo_guard_off rfl rfl rfl rfl rfl ?_
      refine vo_guard_off rfl rfl rfl rfl rfl ?_
      refine vo_guard_off rfl rfl rfl rfl rfl ?_
      refine vo_guard_off rfl rfl rfl rfl rfl ?_
      refine vo_guard_off rfl rfl rfl rfl rfl ?_
      refine vo_pick_t rfl rfl ?_
      refine vo_nil ?_
      refine hK3 _ ?_
      refine vc_cond_t rfl ?_
      refine vc_seq fun K5 hK5 => ?_
      refine vc_region ?_
      refine vo_assign_pv rfl rfl ?_
      refine vo_nil ?_
      refine hK5 _ ?_
      refine vc_ret ?_
      change retPv _ _ _ _ _
      refine retPv_mk rfl rfl rfl ⟨?_, rfl⟩
      refine (congrArg (fun b => [bo b]) (?_ : _ = _) : [bo _] = [bo _])
      exact bF fun h => by have := h.2.1; omega
    · try simp only [decide_eq_true_eq, decide_eq_false_iff_not, beq_iff_eq, bne_iff_ne, beq_eq_false_iff_ne, bne_eq_false_iff_eq, Bool.not_eq_true, Bool.not_eq_false, Bool.not_eq_eq_eq_not, Bool.not_true, Bool.not_false, List.length_map, Int.not_lt, Int.not_le, ne_eq, Decidable.not_not] at hg2
      refine vo_guard_on rfl rfl rfl ?_
      refine vo_move_pv rfl rfl ?_
      refine vo_guard_on rfl rfl rfl ?_
      refine vo_index_pv (.sl none 1 []) rfl rfl rfl E23.und inf30 sz30 sd sd ?_
      simp only [Int.toNat_natCast, Int.toNat_zero, getD_ints, getD_intss, getD_bools, getD_bytes, PV.cells]
      refine vo_guard_on rfl rfl rfl ?_
      refine vo_load_adr rfl rfl Try.underlying30 rfl ?_
      refine vo_guard_on rfl rfl rfl ?_
      refine vo_len_pv rfl rfl Try.underlying30 ?_
      refine vo_guard_on rfl rfl rfl ?_
      refine vo_binI rfl rfl rfl rfl trivial ?_
      refine vo_pick_f rfl rfl ?_
      refine vo_nil ?_
      refine hK3 _ ?_
      refine vc_cond rfl (fun hc3 => ?_) (fun hc3 => ?_)
      · try simp only [decide_eq_true_eq, decide_eq_false_iff_not, beq_iff_eq, bne_iff_ne, beq_eq_false_iff_ne, bne_eq_false_iff_eq, Bool.not_eq_true, Bool.not_eq_false, Bool.not_eq_eq_eq_not, Bool.not_true, Bool.not_false, List.length_map, Int.not_lt, Int.not_le, ne_eq, Decidable.not_not] at hc3
        refine vc_seq fun K6 hK6 => ?_
        refine vc_region ?_
        refine vo_assign_pv rfl rfl ?_
        refine vo_nil ?_
        refine hK6 _ ?_
        refine vc_ret ?_
        change retPv _ _ _ _ _
        refine retPv_mk rfl rfl rfl ⟨?_, rfl⟩
        refine (congrArg (fun b => [bo b]) (?_ : _ = _) : [bo _] = [bo _])
        exact bF fun h => by have := h.2.2.1; rw [this] at hc3; simp at hc3
      · try simp only [decide_eq_true_eq, decide_eq_false_iff_not, beq_iff_eq, bne_iff_ne, beq_eq_false_iff_ne, bne_eq_false_iff_eq, Bool.not_eq_true, Bool.not_eq_false, Bool.not_eq_eq_eq_not, Bool.not_true, Bool.not_false, List.length_map, Int.not_lt, Int.not_le, ne_eq, Decidable.not_not] at hc3
        refine vc_skip ?_
        refine hK2 _ ?_
        refine vc_seq fun K7 hK7 => ?_
        refine vc_seq fun K8 hK8 => ?_
        refine vc_region ?_
        refine vo_move_pv rfl rfl ?_
        refine vo_len_pv rfl rfl Try.underlying23 ?_
        refine vo_move_pv rfl rfl ?_
        refine vo_nil ?_
        refine hK8 _ ?_
        refine vc_block ?_
        refine vc_stN ?_
        refine vc_loopF [24, 25] [26] [.pv false (.sl nl1 1 (slots.map ints)), i64 (slots.map ints).length] _ (fun mz vs => ∃ (k : Nat), mz = slots.length - k ∧ (k ≤ slots.length) ∧ (∀ l ∈ slots.take k, OKL l 4 ∧ ∀ x ∈ l, 0 ≤ x ∧ x ≤ 9) ∧ vs = [i64 k]) (slots.length) rfl rfl (le_len hC rfl) ⟨rfl, rfl, rfl⟩ ⟨0, rfl, Nat.zero_le _, (by simp), rfl⟩ ?_
        rintro mz vs - ⟨k, rfl, hk, hf, rfl⟩
        refine vc_stN ?_
        refine vc_seq fun K9 hK9 => ?_
        refine vc_region ?_
        refine vo_binI rfl rfl rfl rfl trivial ?_
        refine vo_nil ?_
        refine hK9 _ ?_
        refine vc_seq fun K10 hK10 => ?_
        refine vc_cond rfl (fun hc4 => ?_) (fun hc4 => ?_)
        · try simp only [decide_eq_true_eq, decide_eq_false_iff_not, beq_iff_eq, bne_iff_ne, beq_eq_false_iff_ne, bne_eq_false_iff_eq, Bool.not_eq_true, Bool.not_eq_false, Bool.not_eq_eq_eq_not, Bool.not_true, Bool.not_false, List.length_map, Int.not_lt, Int.not_le, ne_eq, Decidable.not_not] at hc4
          refine vc_skip ?_
          refine hK10 _ ?_
          refine vc_seq fun K11 hK11 => ?_
          refine vc_block ?_
          refine vc_seq fun K12 hK12 => ?_
          refine vc_region ?_
          refine vo_index_pv (.sl none 1 []) rfl rfl rfl E23.und inf30 sz30 sd sd ?_
          simp only [Int.toNat_natCast, Int.toNat_zero, getD_ints, getD_intss, getD_bools, getD_bytes, PV.cells]
          refine vo_load_adr rfl rfl Try.underlying30 rfl ?_
          refine vo_assign_pv rfl rfl ?_
          refine vo_nil ?_
          refine hK12 _ ?_
          refine vc_seq fun K13 hK13 => ?_
          refine vc_region ?_
          refine vo_move_pv rfl rfl ?_
          refine vo_call0 Try.func53 rfl rfl rfl rfl (isList_sat (lens hlslots _ (by omega))) ?_
          rintro _ _ ⟨rfl, rfl⟩
          refine ⟨rfl, rfl, .inl rfl, ?_⟩
          refine vo_not rfl rfl ?_
          refine vo_move_pv rfl rfl ?_
          refine vo_split 33 rfl (fun hg5 => ?_) (fun hg5 => ?_)
          · try simp only [decide_eq_true_eq, decide_eq_false_iff_not, beq_iff_eq, bne_iff_ne, beq_eq_false_iff_ne, bne_eq_false_iff_eq, Bool.not_eq_true, Bool.not_eq_false, Bool.not_eq_eq_eq_not, Bool.not_true, Bool.not_false, List.length_map, Int.not_lt, Int.not_le, ne_eq, Decidable.not_not] at hg5
            refine vo_guard_off rfl rfl rfl rfl rfl ?_
            refine vo_guard_off rfl rfl rfl rfl rfl ?_
            refine vo_guard_off rfl rfl rfl rfl rfl ?_
            refine vo_pick_t rfl rfl ?_
            refine vo_nil ?_
            refine hK13 _ ?_
            refine vc_cond_t rfl ?_
            refine vc_seq fun K14 hK14 => ?_
            refine vc_region ?_
            refine vo_assign_pv rfl rfl ?_
            refine vo_nil ?_
            refine hK14 _ ?_
            refine vc_ret ?_
            change retPv _ _ _ _ _
            refine retPv_mk rfl rfl rfl ⟨?_, rfl⟩
            refine (congrArg (fun b => [bo b]) (?_ : _ = _) : [bo _] = [bo _])
            exact bF fun h => by have := h.2.2.2 _ (getD_mem (show k < slots.length by omega) []); exact absurd this.1 (by assumption)
          · try simp only [decide_eq_true_eq, decide_eq_false_iff_not, beq_iff_eq, bne_iff_ne, beq_eq_false_iff_ne, bne_eq_false_iff_eq, Bool.not_eq_true, Bool.not_eq_false, Bool.not_eq_eq_eq_not, Bool.not_true, Bool.not_false, List.length_map, Int.not_lt, Int.not_le, ne_eq, Decidable.not_not] at hg5
            refine vo_guard_on rfl rfl rfl ?_
            refine vo_move_pv rfl rfl ?_
            refine vo_guard_on rfl rfl rfl ?_
            refine vo_call0 Try.func54 rfl rfl rfl rfl (areUpTo_sat (lens hlslots _ (by omega))) ?_
            rintro _ _ ⟨rfl, rfl⟩
            refine ⟨rfl, rfl, .inl rfl, ?_⟩
            refine vo_guard_on rfl rfl rfl ?_
            refine vo_not rfl rfl ?_
            refine vo_pick_f rfl rfl ?_
            refine vo_nil ?_
            refine hK13 _ ?_
            refine vc_cond rfl (fun hc6 => ?_) (fun hc6 => ?_)
            · try simp only [decide_eq_true_eq, decide_eq_false_iff_not, beq_iff_eq, bne_iff_ne, beq_eq_false_iff_ne, bne_eq_false_iff_eq, Bool.not_eq_true, Bool.not_eq_false, Bool.not_eq_eq_eq_not, Bool.not_true, Bool.not_false, List.length_map, Int.not_lt, Int.not_le, ne_eq, Decidable.not_not] at hc6
              refine vc_seq fun K15 hK15 => ?_
              refine vc_region ?_
              refine vo_assign_pv rfl rfl ?_
              refine vo_nil ?_
              refine hK15 _ ?_
              refine vc_ret ?_
              change retPv _ _ _ _ _
              refine retPv_mk rfl rfl rfl ⟨?_, rfl⟩
              refine (congrArg (fun b => [bo b]) (?_ : _ = _) : [bo _] = [bo _])
              exact bF fun h => by have := h.2.2.2 _ (getD_mem (show k < slots.length by omega) []); exact absurd this.2 (by assumption)
            · try simp only [decide_eq_true_eq, decide_eq_false_iff_not, beq_iff_eq, bne_iff_ne, beq_eq_false_iff_ne, bne_eq_false_iff_eq, Bool.not_eq_true, Bool.not_eq_false, Bool.not_eq_eq_eq_not, Bool.not_true, Bool.not_false, List.length_map, Int.not_lt, Int.not_le, ne_eq, Decidable.not_not] at hc6
              refine vc_skip ?_
              refine hK11 _ ?_
              refine vc_region ?_
              refine vo_binI rfl rfl rfl rfl sd ?_
              refine vo_move_pv rfl rfl ?_
              refine vo_nil ?_
              change againF _ _ _ _ _ _ _ _ _
              refine againF_mk rfl rfl rfl rfl rfl rfl ⟨_, ?_, k + 1, rfl, ?_, ?_, rfl⟩
              · omega
              · omega
              · exact (all_take_succ (by omega) []).2 ⟨hf, by assumption, by assumption⟩
        · try simp only [decide_eq_true_eq, decide_eq_false_iff_not, beq_iff_eq, bne_iff_ne, beq_eq_false_iff_ne, bne_eq_false_iff_eq, Bool.not_eq_true, Bool.not_eq_false, Bool.not_eq_eq_eq_not, Bool.not_true, Bool.not_false, List.length_map, Int.not_lt, Int.not_le, ne_eq, Decidable.not_not] at hc4
          refine vc_exit ?_
          refine hK7 _ ?_
          refine vc_seq fun K16 hK16 => ?_
          refine vc_region ?_
          refine vo_assign_pv rfl rfl ?_
          refine vo_nil ?_
          refine hK16 _ ?_
          refine vc_ret ?_
          change retPv _ _ _ _ _
          refine retPv_mk rfl rfl rfl ⟨?_, rfl⟩
          refine (congrArg (fun b => [bo b]) (?_ : _ = _) : [bo _] = [bo _])
          rw [take_all (by omega)] at hf; exact bT ⟨hg1, by omega, List.length_eq_zero_iff.1 (by omega), hf⟩


theorem validSlots_sat {nl0 : Option Bool} {bases : List (List Int)} {nl1 : Option Bool} {slots : List (List Int)} (hbases : bases.length < 1000000000) (hlbases : ∀ l ∈ bases, l.length < 1000000000) (hslots : slots.length < 1000000000) (hlslots : ∀ l ∈ slots, l.length < 1000000000)  : SatAt Try.prog 58 [.pv false (.sl nl0 1 (bases.map ints)), .pv false (.sl nl1 1 (slots.map ints))] [] (fun res rows => res = [bo (decide (VS bases slots))] ∧ rows = []) := by
  refine sat_entry (ts := [4]) Try.func58 rfl rfl (by decide) (Nat.le_of_ble_eq_true rfl) fun C hC => ?_
  rw [Try.ntmps58]
  replace hC : C.nb = 0 := hC
  refine vc_seq fun K1 hK1 => ?_
  refine vc_region ?_
  refine vo_assign_pv rfl rfl ?_
  refine vo_nil ?_
  refine hK1 _ ?_
  refine vc_seq fun K2 hK2 => ?_
  refine vc_seq fun K3 hK3 => ?_
  refine vc_region ?_
  refine vo_assign_pv rfl rfl ?_
  refine vo_nil ?_
  refine hK3 _ ?_
  refine vc_block ?_
  refine vc_stN ?_
  refine vc_loopF [0, 1] [5] [.pv false (.sl nl0 1 (bases.map ints)), .pv false (.sl nl1 1 (slots.map ints))] _ (fun mz vs => ∃ (k : Nat), mz = slots.length - k ∧ (k ≤ slots.length) ∧ (∀ l ∈ slots.take k, OKL l 4 ∧ ∀ x ∈ l, 0 ≤ x ∧ x ≤ 9) ∧ vs = [i64 k]) (slots.length) rfl rfl (le_len hC rfl) ⟨rfl, rfl, rfl⟩ ⟨0, rfl, Nat.zero_le _, (by simp), rfl⟩ ?_
  rintro mz vs - ⟨k, rfl, hk, hf, rfl⟩
  refine vc_stN ?_
  refine vc_seq fun K4 hK4 => ?_
  refine vc_seq fun K5 hK5 => ?_
  refine vc_region ?_
  refine vo_move_pv rfl rfl ?_
  refine vo_move_pv rfl rfl ?_
  refine vo_len_pv rfl rfl Try.underlying23 ?_
  refine vo_binI rfl rfl rfl rfl trivial ?_
  refine vo_nil ?_
  refine hK5 _ ?_
  refine vc_cond rfl (fun hc1 => ?_) (fun hc1 => ?_)
  · try simp only [decide_eq_true_eq, decide_eq_false_iff_not, beq_iff_eq, bne_iff_ne, beq_eq_false_iff_ne, bne_eq_false_iff_eq, Bool.not_eq_true, Bool.not_eq_false, Bool.not_eq_eq_eq_not, Bool.not_true, Bool.not_false, List.length_map, Int.not_lt, Int.not_le, ne_eq, Decidable.not_not] at hc1
    refine vc_skip ?_
    refine hK4 _ ?_
    refine vc_seq fun K6 hK6 => ?_
    refine vc_block ?_
    refine vc_seq fun K7 hK7 => ?_
    refine vc_region ?_
    refine vo_move_pv rfl rfl ?_
    refine vo_move_pv rfl rfl ?_
    refine vo_index_pv (.sl none 1 []) rfl rfl rfl E23.und inf30 sz30 sd sd ?_
    simp only [Int.toNat_natCast, Int.toNat_zero, getD_ints, getD_intss, getD_bools, getD_bytes, PV.cells]
    refine vo_load_adr rfl rfl Try.underlying30 rfl ?_
    refine vo_len_pv rfl rfl Try.underlying30 ?_
    refine vo_binI rfl rfl rfl rfl trivial ?_
    refine vo_move_pv rfl rfl ?_
    refine vo_split 18 rfl (fun hg2 => ?_) (fun hg2 => ?_)
    · try simp only [decide_eq_true_eq, decide_eq_false_iff_not, beq_iff_eq, bne_iff_ne, beq_eq_false_iff_ne, bne_eq_false_iff_eq, Bool.not_eq_true, Bool.not_eq_false, Bool.not_eq_eq_eq_not, Bool.not_true, Bool.not_false, List.length_map, Int.not_lt, Int.not_le, ne_eq, Decidable.not_not] at hg2
      refine vo_guard_off rfl rfl rfl rfl rfl ?_
      refine vo_guard_off rfl rfl rfl rfl rfl ?_
      refine vo_guard_off rfl rfl rfl rfl rfl ?_
      refine vo_guard_off rfl rfl rfl rfl rfl ?_
      refine vo_guard_off rfl rfl rfl rfl rfl ?_
      refine vo_guard_off rfl rfl rfl rfl rfl ?_
      refine vo_pick_t rfl rfl ?_
      refine vo_move_pv rfl rfl ?_
      refine vo_guard_off rfl rfl rfl rfl rfl ?_
      refine vo_guard_off rfl rfl rfl rfl rfl ?_
      refine vo_guard_off rfl rfl rfl rfl rfl ?_
      refine vo_guard_off rfl rfl rfl rfl rfl ?_
      refine vo_guard_off rfl rfl rfl rfl rfl ?_
      refine vo_guard_off rfl rfl rfl rfl rfl ?_
      refine vo_pick_t rfl rfl ?_
      refine vo_nil ?_
      refine hK7 _ ?_
      refine vc_cond_t rfl ?_
      refine vc_seq fun K8 hK8 => ?_
      refine vc_region ?_
      refine vo_assign_pv rfl rfl ?_
      refine vo_nil ?_
      refine hK8 _ ?_
      refine vc_ret ?_
      change retPv _ _ _ _ _
      refine retPv_mk rfl rfl rfl ⟨?_, rfl⟩
      refine (congrArg (fun b => [bo b]) (?_ : _ = _) : [bo _] = [bo _])
      exact bF fun h => by have := h.2.2.2 _ (getD_mem (show k < slots.length by omega) []); have := this.1.1; omega
    · try simp only [decide_eq_true_eq, decide_eq_false_iff_not, beq_iff_eq, bne_iff_ne, beq_eq_false_iff_ne, bne_eq_false_iff_eq, Bool.not_eq_true, Bool.not_eq_false, Bool.not_eq_eq_eq_not, Bool.not_true, Bool.not_false, List.length_map, Int.not_lt, Int.not_le, ne_eq, Decidable.not_not] at hg2
      refine vo_guard_on rfl rfl rfl ?_
      refine vo_move_pv rfl rfl ?_
      refine vo_guard_on rfl rfl rfl ?_
      refine vo_move_pv rfl rfl ?_
      refine vo_guard_on rfl rfl rfl ?_
      refine vo_index_pv (.sl none 1 []) rfl rfl rfl E23.und inf30 sz30 sd sd ?_
      simp only [Int.toNat_natCast, Int.toNat_zero, getD_ints, getD_intss, getD_bools, getD_bytes, PV.cells]
      refine vo_guard_on rfl rfl rfl ?_
      refine vo_load_adr rfl rfl Try.underlying30 rfl ?_
      refine vo_guard_on rfl rfl rfl ?_
      refine vo_call0 Try.func68 rfl rfl rfl rfl (different_sat (lens hlslots _ (by omega))) ?_
      rintro _ _ ⟨rfl, rfl⟩
      refine ⟨rfl, rfl, .inl rfl, ?_⟩
      refine vo_guard_on rfl rfl rfl ?_
      refine vo_not rfl rfl ?_
      refine vo_pick_f rfl rfl ?_
      refine vo_move_pv rfl rfl ?_
      refine vo_split 26 rfl (fun hg3 => ?_) (fun hg3 => ?_)
      · try simp only [decide_eq_true_eq, decide_eq_false_iff_not, beq_iff_eq, bne_iff_ne, beq_eq_false_iff_ne, bne_eq_false_iff_eq, Bool.not_eq_true, Bool.not_eq_false, Bool.not_eq_eq_eq_not, Bool.not_true, Bool.not_false, List.length_map, Int.not_lt, Int.not_le, ne_eq, Decidable.not_not] at hg3
        refine vo_guard_off rfl rfl rfl rfl rfl ?_
        refine vo_guard_off rfl rfl rfl rfl rfl ?_
        refine vo_guard_off rfl rfl rfl rfl rfl ?_
        refine vo_guard_off rfl rfl rfl rfl rfl ?_
        refine vo_guard_off rfl rfl rfl rfl rfl ?_
        refine vo_guard_off rfl rfl rfl rfl rfl ?_
        refine vo_pick_t rfl rfl ?_
        refine vo_nil ?_
        refine hK7 _ ?_
        refine vc_cond_t rfl ?_
        refine vc_seq fun K9 hK9 => ?_
        refine vc_region ?_
        refine vo_assign_pv rfl rfl ?_
        refine vo_nil ?_
        refine hK9 _ ?_
        refine vc_ret ?_
        change retPv _ _ _ _ _
        refine retPv_mk rfl rfl rfl ⟨?_, rfl⟩
        refine (congrArg (fun b => [bo b]) (?_ : _ = _) : [bo _] = [bo _])
        exact bF fun h => by have := h.2.2.2 _ (getD_mem (show k < slots.length by omega) []); exact absurd this.1.2 (by assumption)
      · try simp only [decide_eq_true_eq, decide_eq_false_iff_not, beq_iff_eq, bne_iff_ne, beq_eq_false_iff_ne, bne_eq_false_iff_eq, Bool.not_eq_true, Bool.not_eq_false, Bool.not_eq_eq_eq_not, Bool.not_true, Bool.not_false, List.length_map, Int.not_lt, Int.not_le, ne_eq, Decidable.not_not] at hg3
        refine vo_guard_on rfl rfl rfl ?_
        refine vo_move_pv rfl rfl ?_
        refine vo_guard_on rfl rfl rfl ?_
        refine vo_move_pv rfl rfl ?_
        refine vo_guard_on rfl rfl rfl ?_
        refine vo_index_pv (.sl none 1 []) rfl rfl rfl E23.und inf30 sz30 sd sd ?_
        simp only [Int.toNat_natCast, Int.toNat_zero, getD_ints, getD_intss, getD_bools, getD_bytes, PV.cells]
        refine vo_guard_on rfl rfl rfl ?_
        refine vo_load_adr rfl rfl Try.underlying30 rfl ?_
        refine vo_guard_on rfl rfl rfl ?_
        refine vo_call0 Try.func69 rfl rfl rfl rfl (allIn_sat (lens hlslots _ (by omega))) ?_
        rintro _ _ ⟨rfl, rfl⟩
        refine ⟨rfl, rfl, .inl rfl, ?_⟩
        refine vo_guard_on rfl rfl rfl ?_
        refine vo_not rfl rfl ?_
        refine vo_pick_f rfl rfl ?_
        refine vo_nil ?_
        refine hK7 _ ?_
        refine vc_cond rfl (fun hc4 => ?_) (fun hc4 => ?_)
        · try simp only [decide_eq_true_eq, decide_eq_false_iff_not, beq_iff_eq, bne_iff_ne, beq_eq_false_iff_ne, bne_eq_false_iff_eq, Bool.not_eq_true, Bool.not_eq_false, Bool.not_eq_eq_eq_not, Bool.not_true, Bool.not_false, List.length_map, Int.not_lt, Int.not_le, ne_eq, Decidable.not_not] at hc4
          refine vc_seq fun K10 hK10 => ?_
          refine vc_region ?_
          refine vo_assign_pv rfl rfl ?_
          refine vo_nil ?_
          refine hK10 _ ?_
          refine vc_ret ?_
          change retPv _ _ _ _ _
          refine retPv_mk rfl rfl rfl ⟨?_, rfl⟩
          refine (congrArg (fun b => [bo b]) (?_ : _ = _) : [bo _] = [bo _])
          exact bF fun h => by have := h.2.2.2 _ (getD_mem (show k < slots.length by omega) []); exact absurd this.2 (by assumption)
        · try simp only [decide_eq_true_eq, decide_eq_false_iff_not, beq_iff_eq, bne_iff_ne, beq_eq_false_iff_ne, bne_eq_false_iff_eq, Bool.not_eq_true, Bool.not_eq_false, Bool.not_eq_eq_eq_not, Bool.not_true, Bool.not_false, List.length_map, Int.not_lt, Int.not_le, ne_eq, Decidable.not_not] at hc4
          refine vc_skip ?_
          refine hK6 _ ?_
          refine vc_region ?_
          refine vo_move_pv rfl rfl ?_
          refine vo_binI rfl rfl rfl rfl sd ?_
          refine vo_assign_pv rfl rfl ?_
          refine vo_nil ?_
          change againF _ _ _ _ _ _ _ _ _
          refine againF_mk rfl rfl rfl rfl rfl rfl ⟨_, ?_, k + 1, rfl, ?_, ?_, rfl⟩
          · omega
          · omega
          · exact (all_take_succ (by omega) []).2 ⟨hf, ⟨by omega, by assumption⟩, by assumption⟩
  · try simp only [decide_eq_true_eq, decide_eq_false_iff_not, beq_iff_eq, bne_iff_ne, beq_eq_false_iff_ne, bne_eq_false_iff_eq, Bool.not_eq_true, Bool.not_eq_false, Bool.not_eq_eq_eq_not, Bool.not_true, Bool.not_false, List.length_map, Int.not_lt, Int.not_le, ne_eq, Decidable.not_not] at hc1
    refine vc_exit ?_
    refine hK2 _ ?_
    refine vc_seq fun K11 hK11 => ?_
    refine vc_region ?_
    refine vo_move_pv rfl rfl ?_
    refine vo_call0 Try.func70 rfl rfl rfl rfl (specValidBases0_sat hbases hlbases) ?_
    rintro _ _ ⟨rfl, rfl⟩
    refine ⟨rfl, rfl, .inl rfl, ?_⟩
    refine vo_move_pv rfl rfl ?_
    refine vo_split 36 rfl (fun hg5 => ?_) (fun hg5 => ?_)
    · try simp only [decide_eq_true_eq, decide_eq_false_iff_not, beq_iff_eq, bne_iff_ne, beq_eq_false_iff_ne, bne_eq_false_iff_eq, Bool.not_eq_true, Bool.not_eq_false, Bool.not_eq_eq_eq_not, Bool.not_true, Bool.not_false, List.length_map, Int.not_lt, Int.not_le, ne_eq, Decidable.not_not] at hg5
      have h11 := hg5.1
      refine vo_guard_on rfl rfl rfl ?_
      refine vo_move_pv rfl rfl ?_
      refine vo_guard_on rfl rfl rfl ?_
      refine vo_len_pv rfl rfl Try.underlying23 ?_
      refine vo_guard_on rfl rfl rfl ?_
      refine vo_move_pv rfl rfl ?_
      refine vo_guard_on rfl rfl rfl ?_
      refine vo_len_pv rfl rfl Try.underlying23 ?_
      refine vo_guard_on rfl rfl rfl ?_
      refine vo_binI rfl rfl rfl rfl trivial ?_
      refine vo_pick_t rfl rfl ?_
      refine vo_move_pv rfl rfl ?_
      refine vo_split 43 rfl (fun hg6 => ?_) (fun hg6 => ?_)
      · try simp only [decide_eq_true_eq, decide_eq_false_iff_not, beq_iff_eq, bne_iff_ne, beq_eq_false_iff_ne, bne_eq_false_iff_eq, Bool.not_eq_true, Bool.not_eq_false, Bool.not_eq_eq_eq_not, Bool.not_true, Bool.not_false, List.length_map, Int.not_lt, Int.not_le, ne_eq, Decidable.not_not] at hg6
        refine vo_guard_on rfl rfl rfl ?_
        refine vo_move_pv rfl rfl ?_
        refine vo_guard_on rfl rfl rfl ?_
        refine vo_index_pv (.sl none 1 []) rfl rfl rfl E23.und inf30 sz30 sd sd ?_
        simp only [Int.toNat_natCast, Int.toNat_zero, getD_ints, getD_intss, getD_bools, getD_bytes, PV.cells]
        refine vo_guard_on rfl rfl rfl ?_
        refine vo_load_adr rfl rfl Try.underlying30 rfl ?_
        refine vo_guard_on rfl rfl rfl ?_
        refine vo_len_pv rfl rfl Try.underlying30 ?_
        refine vo_guard_on rfl rfl rfl ?_
        refine vo_binI rfl rfl rfl rfl trivial ?_
        refine vo_pick_t rfl rfl ?_
        refine vo_assign_pv rfl rfl ?_
        refine vo_nil ?_
        refine hK11 _ ?_
        refine vc_ret ?_
        change retPv _ _ _ _ _
        refine retPv_mk rfl rfl rfl ⟨?_, rfl⟩
        refine (congrArg (fun b => [bo b]) (?_ : _ = _) : [bo _] = [bo _])
        rw [take_all (by omega)] at hf; exact decide_eq_decide.2 ⟨fun h => ⟨by assumption, by omega, List.length_eq_zero_iff.1 (by simp at h; simp [h]), hf⟩, fun h => by rw [h.2.2.1]; simp⟩
      · try simp only [decide_eq_true_eq, decide_eq_false_iff_not, beq_iff_eq, bne_iff_ne, beq_eq_false_iff_ne, bne_eq_false_iff_eq, Bool.not_eq_true, Bool.not_eq_false, Bool.not_eq_eq_eq_not, Bool.not_true, Bool.not_false, List.length_map, Int.not_lt, Int.not_le, ne_eq, Decidable.not_not] at hg6
        refine vo_guard_off rfl rfl rfl rfl rfl ?_
        refine vo_guard_off rfl rfl rfl rfl rfl ?_
        refine vo_guard_off rfl rfl rfl rfl rfl ?_
        refine vo_guard_off rfl rfl rfl rfl rfl ?_
        refine vo_guard_off rfl rfl rfl rfl rfl ?_
        refine vo_pick_f rfl rfl ?_
        refine vo_assign_pv rfl rfl ?_
        refine vo_nil ?_
        refine hK11 _ ?_
        refine vc_ret ?_
        change retPv _ _ _ _ _
        refine retPv_mk rfl rfl rfl ⟨?_, rfl⟩
        refine (congrArg (fun b => [bo b]) (?_ : _ = _) : [bo _] = [bo _])
        exact bF fun h => by have := h.2.1; omega
    · try simp only [decide_eq_true_eq, decide_eq_false_iff_not, beq_iff_eq, bne_iff_ne, beq_eq_false_iff_ne, bne_eq_false_iff_eq, Bool.not_eq_true, Bool.not_eq_false, Bool.not_eq_eq_eq_not, Bool.not_true, Bool.not_false, List.length_map, Int.not_lt, Int.not_le, ne_eq, Decidable.not_not] at hg5
      refine vo_guard_off rfl rfl rfl rfl rfl ?_
      refine vo_guard_off rfl rfl rfl rfl rfl ?_
      refine vo_guard_off rfl rfl rfl rfl rfl ?_
      refine vo_guard_off rfl rfl rfl rfl rfl ?_
      refine vo_guard_off rfl rfl rfl rfl rfl ?_
      refine vo_pick_f rfl rfl ?_
      refine vo_move_pv rfl rfl ?_
      refine vo_guard_off rfl rfl rfl rfl rfl ?_
      refine vo_guard_off rfl rfl rfl rfl rfl ?_
      refine vo_guard_off rfl rfl rfl rfl rfl ?_
      refine vo_guard_off rfl rfl rfl rfl rfl ?_
      refine vo_guard_off rfl rfl rfl rfl rfl ?_
      refine vo_pick_f rfl rfl ?_
      refine vo_assign_pv rfl rfl ?_
      refine vo_nil ?_
      refine hK11 _ ?_
      refine vc_ret ?_
      change retPv _ _ _ _ _
      refine retPv_mk rfl rfl rfl ⟨?_, rfl⟩
      refine (congrArg (fun b => [bo b]) (?_ : _ = _) : [bo _] = [bo _])
      exact bF fun h => absurd h.1 (by assumption)


theorem isBelow_sat {nl0 : Option Bool} {bases : List (List Int)} {a : Int} {b : Int} (hbases : bases.length < 1000000000) (hlbases : ∀ l ∈ bases, l.length < 1000000000)  : SatAt Try.prog 62 [.pv false (.sl nl0 1 (bases.map ints)), i64 a, i64 b] [] (fun res rows => res = [bo (decide (b ∈ abvR bases a))] ∧ rows = []) := by
  refine sat_entry (ts := [6]) Try.func62 rfl rfl (by decide) (Nat.le_of_ble_eq_true rfl) fun C hC => ?_
  rw [Try.ntmps62]
  replace hC : C.nb = 0 := hC
  refine vc_seq fun K1 hK1 => ?_
  refine vc_region ?_
  refine vo_assign_pv rfl rfl ?_
  refine vo_nil ?_
  refine hK1 _ ?_
  refine vc_seq fun K2 hK2 => ?_
  refine vc_region ?_
  refine vo_move_pv rfl rfl ?_
  refine vo_move_pv rfl rfl ?_
  refine vo_call [] Try.func14 rfl rfl rfl rfl rfl rfl rfl (implAboveOf_sat hbases hlbases) ?_
  rintro _ _ ⟨nl9, rfl, rfl⟩
  refine ⟨Nat.le_of_ble_eq_true rfl, ⟨rfl, rfl, rfl⟩, .inl rfl, ?_⟩
  refine vo_stN ?_
  refine vo_move_pv rfl rfl ?_
  refine vo_call0 Try.func64 rfl rfl rfl rfl (Contains_sat (s := abvR bases a) (abvR_len hbases)) ?_
  rintro _ _ ⟨rfl, rfl⟩
  refine ⟨rfl, rfl, .inr rfl, ?_⟩
  refine vo_assign_pv rfl rfl ?_
  refine vo_nil ?_
  refine hK2 _ ?_
  refine vc_ret ?_
  change retPv _ _ _ _ _
  refine retPv_mk rfl rfl rfl ⟨?_, rfl⟩
  refine (congrArg (fun b => [bo b]) (?_ : _ = _) : [bo _] = [bo _])
  rfl


theorem areApart_sat {nl0 : Option Bool} {bases : List (List Int)} {a : Int} {b : Int} (hbases : bases.length < 1000000000) (hlbases : ∀ l ∈ bases, l.length < 1000000000)  : SatAt Try.prog 51 [.pv false (.sl nl0 1 (bases.map ints)), i64 a, i64 b] [] (fun res rows => res = [bo (decide (¬ b ∈ abvR bases a ∧ ¬ a ∈ abvR bases b))] ∧ rows = []) := by
  refine sat_entry (ts := [6]) Try.func51 rfl rfl (by decide) (Nat.le_of_ble_eq_true rfl) fun C hC => ?_
  rw [Try.ntmps51]
  replace hC : C.nb = 0 := hC
  refine vc_seq fun K1 hK1 => ?_
  refine vc_region ?_
  refine vo_assign_pv rfl rfl ?_
  refine vo_nil ?_
  refine hK1 _ ?_
  refine vc_seq fun K2 hK2 => ?_
  refine vc_region ?_
  refine vo_move_pv rfl rfl ?_
  refine vo_move_pv rfl rfl ?_
  refine vo_move_pv rfl rfl ?_
  refine vo_call0 Try.func62 rfl rfl rfl rfl (isBelow_sat hbases hlbases) ?_
  rintro _ _ ⟨rfl, rfl⟩
  refine ⟨rfl, rfl, .inl rfl, ?_⟩
  refine vo_not rfl rfl ?_
  refine vo_move_pv rfl rfl ?_
  refine vo_split 12 rfl (fun hg1 => ?_) (fun hg1 => ?_)
  · try simp only [decide_eq_true_eq, decide_eq_false_iff_not, beq_iff_eq, bne_iff_ne, beq_eq_false_iff_ne, bne_eq_false_iff_eq, Bool.not_eq_true, Bool.not_eq_false, Bool.not_eq_eq_eq_not, Bool.not_true, Bool.not_false, List.length_map, Int.not_lt, Int.not_le, ne_eq, Decidable.not_not] at hg1
    refine vo_guard_on rfl rfl rfl ?_
    refine vo_move_pv rfl rfl ?_
    refine vo_guard_on rfl rfl rfl ?_
    refine vo_move_pv rfl rfl ?_
    refine vo_guard_on rfl rfl rfl ?_
    refine vo_move_pv rfl rfl ?_
    refine vo_guard_on rfl rfl rfl ?_
    refine vo_call0 Try.func62 rfl rfl rfl rfl (isBelow_sat hbases hlbases) ?_
    rintro _ _ ⟨rfl, rfl⟩
    refine ⟨rfl, rfl, .inl rfl, ?_⟩
    refine vo_guard_on rfl rfl rfl ?_
    refine vo_not rfl rfl ?_
    refine vo_pick_t rfl rfl ?_
    refine vo_assign_pv rfl rfl ?_
    refine vo_nil ?_
    refine hK2 _ ?_
    refine vc_ret ?_
    change retPv _ _ _ _ _
    refine retPv_mk rfl rfl rfl ⟨?_, rfl⟩
    refine (congrArg (fun b => [bo b]) (?_ : _ = _) : [bo _] = [bo _])
    simp_all
  · try simp only [decide_eq_true_eq, decide_eq_false_iff_not, beq_iff_eq, bne_iff_ne, beq_eq_false_iff_ne, bne_eq_false_iff_eq, Bool.not_eq_true, Bool.not_eq_false, Bool.not_eq_eq_eq_not, Bool.not_true, Bool.not_false, List.length_map, Int.not_lt, Int.not_le, ne_eq, Decidable.not_not] at hg1
    refine vo_guard_off rfl rfl rfl rfl rfl ?_
    refine vo_guard_off rfl rfl rfl rfl rfl ?_
    refine vo_guard_off rfl rfl rfl rfl rfl ?_
    refine vo_guard_off rfl rfl rfl rfl rfl ?_
    refine vo_guard_off rfl rfl rfl rfl rfl ?_
    refine vo_pick_f rfl rfl ?_
    refine vo_assign_pv rfl rfl ?_
    refine vo_nil ?_
    refine hK2 _ ?_
    refine vc_ret ?_
    change retPv _ _ _ _ _
    refine retPv_mk rfl rfl rfl ⟨?_, rfl⟩
    refine (congrArg (fun b => [bo b]) (?_ : _ = _) : [bo _] = [bo _])
    simp_all


theorem implBelowOf_sat {nl0 : Option Bool} {bases : List (List Int)} {c : Int} (hbases : bases.length < 1000000000) (hlbases : ∀ l ∈ bases, l.length < 1000000000)  : SatAt Try.prog 26 [.pv false (.sl nl0 1 (bases.map ints)), i64 c] [] (fun res rows => ∃ nl, res = [.ref 0] ∧ rows = [Row.own 3 1 nl true ((belR bases c).map intP)]) := by
  refine sat_entry_g (ts := [4]) Try.func26 rfl rfl (by decide) (Nat.le_of_ble_eq_true rfl) fun C hC => ?_
  rw [Try.ntmps26]
  replace hC : C.nb = 0 := hC
  refine vc_seq fun K1 hK1 => ?_
  refine vc_region ?_
  refine vo_assign_pv rfl rfl ?_
  refine vo_nil ?_
  refine hK1 _ ?_
  refine vc_seq fun K2 hK2 => ?_
  refine vc_seq fun K3 hK3 => ?_
  refine vc_region ?_
  refine vo_move_pv rfl rfl ?_
  refine vo_move_pv rfl rfl ?_
  refine vo_call0 Try.func42 rfl rfl rfl rfl (hasClass_sat hbases hlbases) ?_
  rintro _ _ ⟨rfl, rfl⟩
  refine ⟨rfl, rfl, .inl rfl, ?_⟩
  refine vo_not rfl rfl ?_
  refine vo_nil ?_
  refine hK3 _ ?_
  refine vc_cond rfl (fun hc1 => ?_) (fun hc1 => ?_)
  · try simp only [decide_eq_true_eq, decide_eq_false_iff_not, beq_iff_eq, bne_iff_ne, beq_eq_false_iff_ne, bne_eq_false_iff_eq, Bool.not_eq_true, Bool.not_eq_false, Bool.not_eq_eq_eq_not, Bool.not_true, Bool.not_false, List.length_map, Int.not_lt, Int.not_le, ne_eq, Decidable.not_not] at hc1
    refine vc_seq fun K4 hK4 => ?_
    refine vc_region ?_
    refine vo_assign_pv rfl rfl ?_
    refine vo_nil ?_
    refine hK4 _ ?_
    refine vc_own_nil 4 E30 rfl ?_
    refine vc_ret ?_
    change retG _ _ _ _ _
    refine retG_one 0 hC rfl rfl rfl rfl rfl ?_
    exact ⟨_, rfl, rows_eq (g := intP) ((belR_no hc1).symm)⟩
  · try simp only [decide_eq_true_eq, decide_eq_false_iff_not, beq_iff_eq, bne_iff_ne, beq_eq_false_iff_ne, bne_eq_false_iff_eq, Bool.not_eq_true, Bool.not_eq_false, Bool.not_eq_eq_eq_not, Bool.not_true, Bool.not_false, List.length_map, Int.not_lt, Int.not_le, ne_eq, Decidable.not_not] at hc1
    obtain ⟨hv, h0, h1⟩ := hc1
    obtain ⟨n, rfl⟩ := Int.eq_ofNat_of_zero_le h0
    have hn : n < bases.length := by omega
    refine vc_skip ?_
    refine hK2 _ ?_
    refine vc_seq fun K5 hK5 => ?_
    refine vc_region ?_
    refine vo_move_pv rfl rfl ?_
    refine vo_len_pv rfl rfl Try.underlying23 ?_
    refine vo_make E56 rfl rfl rfl sd sd sd ?_
    refine vo_assign_ref rfl rfl ?_
    refine vo_nil ?_
    refine hK5 _ ?_
    refine vc_seq fun K6 hK6 => ?_
    refine vc_region ?_
    refine vo_move_ref rfl rfl ?_
    refine vo_move_pv rfl rfl ?_
    refine vo_index_ref rfl rfl rfl rfl E56.und inf4 sz4 sd sd ?_
    try simp only [Int.toNat_natCast]
    refine vo_store_own rfl rfl rfl inf4 sz4 (by decide) rfl sd ?_
    try simp only [set_ints, set_intss, set_bools, rep_bools, rep_ints, Int.toNat_natCast, Int.toNat_zero]
    refine vo_nil ?_
    refine hK6 _ ?_
    refine vc_seq fun K7 hK7 => ?_
    refine vc_seq fun K8 hK8 => ?_
    refine vc_region ?_
    refine vo_move_pv rfl rfl ?_
    refine vo_binI rfl rfl rfl rfl sd ?_
    refine vo_assign_pv rfl rfl ?_
    refine vo_nil ?_
    refine hK8 _ ?_
    refine vc_block ?_
    refine vc_stN ?_
    refine vc_loop [0, 5, 6] (fun mz vs rows => ∃ (k : Nat) (m : List Bool), mz = bases.length - k ∧ (n < k ∧ k ≤ bases.length) ∧ (m.length = bases.length) ∧ (∀ x, m.getD x false = true ↔ x < k ∧ (n : Int) ∈ abvL bases x) ∧ vs = [.pv false (.sl nl0 1 (bases.map ints)), .ref 0, i64 k] ∧ rows = [Row.own 4 1 (some false) true ((m).map boolP)]) (bases.length - (n + 1)) (le_len hC rfl) ⟨rfl, rfl⟩ ⟨n + 1, (List.replicate bases.length false).set n true, rfl, (by omega), (by simp), (mark0 hv hn), rfl, (by simp only [List.length_map])⟩ ?_
    rintro mz vs rows - - ⟨k, m, rfl, hk, hl, hm, rfl, rfl⟩
    refine vc_seq fun K9 hK9 => ?_
    refine vc_seq fun K10 hK10 => ?_
    refine vc_region ?_
    refine vo_move_pv rfl rfl ?_
    refine vo_move_pv rfl rfl ?_
    refine vo_len_pv rfl rfl Try.underlying23 ?_
    refine vo_binI rfl rfl rfl rfl trivial ?_
    refine vo_nil ?_
    refine hK10 _ ?_
    refine vc_cond rfl (fun hc2 => ?_) (fun hc2 => ?_)
    · try simp only [decide_eq_true_eq, decide_eq_false_iff_not, beq_iff_eq, bne_iff_ne, beq_eq_false_iff_ne, bne_eq_false_iff_eq, Bool.not_eq_true, Bool.not_eq_false, Bool.not_eq_eq_eq_not, Bool.not_true, Bool.not_false, List.length_map, Int.not_lt, Int.not_le, ne_eq, Decidable.not_not] at hc2
      refine vc_skip ?_
      refine hK9 _ ?_
      refine vc_seq fun K11 hK11 => ?_
      refine vc_block ?_
      refine vc_seq fun K12 hK12 => ?_
      refine vc_region ?_
      refine vo_move_pv rfl rfl ?_
      refine vo_move_pv rfl rfl ?_
      refine vo_index_pv (.sl none 1 []) rfl rfl rfl E23.und inf30 sz30 sd sd ?_
      simp only [Int.toNat_natCast, Int.toNat_zero, getD_ints, getD_intss, getD_bools, getD_bytes, PV.cells]
      refine vo_load_adr rfl rfl Try.underlying30 rfl ?_
      refine vo_len_pv rfl rfl Try.underlying30 ?_
      refine vo_move_pv rfl rfl ?_
      refine vo_nil ?_
      refine hK12 _ ?_
      refine vc_block ?_
      refine vc_stN ?_
      refine vc_loop [0, 5, 6, 30, 31, 32] (fun mz vs rows => ∃ (j : Nat) (m2 : List Bool), mz = (bases.getD k []).length - j ∧ (j ≤ (bases.getD k []).length) ∧ (m2.length = bases.length) ∧ (∀ x, m2.getD x false = true ↔ (m.getD x false = true ∨ (x = k ∧ ∃ d ∈ (bases.getD k []).take j, m.getD d.toNat false = true))) ∧ vs = [.pv false (.sl nl0 1 (bases.map ints)), .ref 0, i64 k, .pv false (.sl none 1 ((bases.getD k []).map intP)), i64 ((bases.getD k []).map intP).length, i64 j] ∧ rows = [Row.own 4 1 (some false) true ((m2).map boolP)]) ((bases.getD k []).length) (le_len hC rfl) ⟨rfl, rfl⟩ ⟨0, m, rfl, Nat.zero_le _, hl, (by simp), rfl, rfl⟩ ?_
      rintro mz vs rows - - ⟨j, m2, rfl, hk, hl2, hm2, rfl, rfl⟩
      have hLb := lens hlbases k (by omega)
      refine vc_seq fun K13 hK13 => ?_
      refine vc_region ?_
      refine vo_binI rfl rfl rfl rfl trivial ?_
      refine vo_nil ?_
      refine hK13 _ ?_
      refine vc_seq fun K14 hK14 => ?_
      refine vc_cond rfl (fun hc3 => ?_) (fun hc3 => ?_)
      · try simp only [decide_eq_true_eq, decide_eq_false_iff_not, beq_iff_eq, bne_iff_ne, beq_eq_false_iff_ne, bne_eq_false_iff_eq, Bool.not_eq_true, Bool.not_eq_false, Bool.not_eq_eq_eq_not, Bool.not_true, Bool.not_false, List.length_map, Int.not_lt, Int.not_le, ne_eq, Decidable.not_not] at hc3
        have hb := hv.bd (getD_mem (show j < (bases.getD k []).length by omega) 0)
        refine vc_skip ?_
        refine hK14 _ ?_
        refine vc_seq fun K15 hK15 => ?_
        refine vc_block ?_
        refine vc_seq fun K16 hK16 => ?_
        refine vc_region ?_
        refine vo_index_pv (.int .i64 0) rfl rfl rfl E30.und inf3 sz3 sd sd ?_
        simp only [Int.toNat_natCast, Int.toNat_zero, getD_ints, getD_intss, getD_bools, getD_bytes, PV.cells]
        refine vo_load_adr rfl rfl Try.underlying3 rfl ?_
        refine vo_assign_pv rfl rfl ?_
        refine vo_nil ?_
        refine hK16 _ ?_
        refine vc_region ?_
        refine vo_move_ref rfl rfl ?_
        refine vo_move_pv rfl rfl ?_
        refine vo_move_ref rfl rfl ?_
        refine vo_move_pv rfl rfl ?_
        refine vo_index_ref rfl rfl rfl rfl E56.und inf4 sz4 sd sd ?_
        try simp only [Int.toNat_natCast]
        refine vo_load_own rfl rfl rfl Try.underlying4 rfl sd (getD_bools _ _) rfl ?_
        try simp only [Int.toNat_natCast]
        refine vo_move_pv rfl rfl ?_
        refine vo_split 42 rfl (fun hg4 => ?_) (fun hg4 => ?_)
        · try simp only [decide_eq_true_eq, decide_eq_false_iff_not, beq_iff_eq, bne_iff_ne, beq_eq_false_iff_ne, bne_eq_false_iff_eq, Bool.not_eq_true, Bool.not_eq_false, Bool.not_eq_eq_eq_not, Bool.not_true, Bool.not_false, List.length_map, Int.not_lt, Int.not_le, ne_eq, Decidable.not_not] at hg4
          refine vo_guard_off rfl rfl rfl rfl rfl ?_
          refine vo_guard_off rfl rfl rfl rfl rfl ?_
          refine vo_guard_off rfl rfl rfl rfl rfl ?_
          refine vo_guard_off rfl rfl rfl rfl rfl ?_
          refine vo_pick_t rfl rfl ?_
          refine vo_index_ref rfl rfl rfl rfl E56.und inf4 sz4 sd sd ?_
          try simp only [Int.toNat_natCast]
          refine vo_store_own rfl rfl rfl inf4 sz4 (by decide) rfl sd ?_
          try simp only [set_ints, set_intss, set_bools, rep_bools, rep_ints, Int.toNat_natCast, Int.toNat_zero]
          refine vo_nil ?_
          refine hK15 _ ?_
          refine vc_region ?_
          refine vo_binI rfl rfl rfl rfl sd ?_
          refine vo_move_pv rfl rfl ?_
          refine vo_nil ?_
          change again _ _ _ _ _ _
          refine again_mk rfl rfl rfl rfl ⟨_, ?_, j + 1, m2.set k true, rfl, ?_, ?_, ?_, rfl, rfl⟩
          · omega
          · omega
          · simpa using hl2
          · exact mark_in1 (by omega) (by omega) (by assumption) hm2
        · try simp only [decide_eq_true_eq, decide_eq_false_iff_not, beq_iff_eq, bne_iff_ne, beq_eq_false_iff_ne, bne_eq_false_iff_eq, Bool.not_eq_true, Bool.not_eq_false, Bool.not_eq_eq_eq_not, Bool.not_true, Bool.not_false, List.length_map, Int.not_lt, Int.not_le, ne_eq, Decidable.not_not] at hg4
          refine vo_guard_on rfl rfl rfl ?_
          refine vo_move_ref rfl rfl ?_
          refine vo_guard_on rfl rfl rfl ?_
          refine vo_move_pv rfl rfl ?_
          refine vo_guard_on rfl rfl rfl ?_
          refine vo_index_ref rfl rfl rfl rfl E56.und inf4 sz4 sd sd ?_
          try simp only [Int.toNat_natCast]
          refine vo_guard_on rfl rfl rfl ?_
          refine vo_load_own rfl rfl rfl Try.underlying4 rfl sd (getD_bools _ _) rfl ?_
          try simp only [Int.toNat_natCast]
          refine vo_pick_f rfl rfl ?_
          refine vo_index_ref rfl rfl rfl rfl E56.und inf4 sz4 sd sd ?_
          try simp only [Int.toNat_natCast]
          refine vo_store_own rfl rfl rfl inf4 sz4 (by decide) rfl sd ?_
          try simp only [set_ints, set_intss, set_bools, rep_bools, rep_ints, Int.toNat_natCast, Int.toNat_zero]
          refine vo_nil ?_
          refine hK15 _ ?_
          refine vc_region ?_
          refine vo_binI rfl rfl rfl rfl sd ?_
          refine vo_move_pv rfl rfl ?_
          refine vo_nil ?_
          change again _ _ _ _ _ _
          refine again_mk rfl rfl rfl rfl ⟨_, ?_, j + 1, m2.set k (m2.getD ((bases.getD k []).getD j 0).toNat false), rfl, ?_, ?_, ?_, rfl, rfl⟩
          · omega
          · omega
          · simpa using hl2
          · exact mark_in2 (by omega) (by omega) (by assumption) (by omega) hm2
      · try simp only [decide_eq_true_eq, decide_eq_false_iff_not, beq_iff_eq, bne_iff_ne, beq_eq_false_iff_ne, bne_eq_false_iff_eq, Bool.not_eq_true, Bool.not_eq_false, Bool.not_eq_eq_eq_not, Bool.not_true, Bool.not_false, List.length_map, Int.not_lt, Int.not_le, ne_eq, Decidable.not_not] at hc3
        refine vc_exit ?_
        refine hK11 _ ?_
        refine vc_region ?_
        refine vo_move_pv rfl rfl ?_
        refine vo_binI rfl rfl rfl rfl sd ?_
        refine vo_assign_pv rfl rfl ?_
        refine vo_nil ?_
        change again _ _ _ _ _ _
        refine again_mk rfl rfl rfl rfl ⟨_, ?_, k + 1, m2, rfl, ?_, ?_, ?_, rfl, rfl⟩
        · omega
        · omega
        · exact hl2
        · exact mark_step hv (by omega) (by omega) hm (by rwa [take_all (by omega)] at hm2)
    · try simp only [decide_eq_true_eq, decide_eq_false_iff_not, beq_iff_eq, bne_iff_ne, beq_eq_false_iff_ne, bne_eq_false_iff_eq, Bool.not_eq_true, Bool.not_eq_false, Bool.not_eq_eq_eq_not, Bool.not_true, Bool.not_false, List.length_map, Int.not_lt, Int.not_le, ne_eq, Decidable.not_not] at hc2
      refine vc_exit ?_
      refine hK7 _ ?_
      refine vc_seq fun K17 hK17 => ?_
      refine vc_region ?_
      refine vo_move_ref rfl rfl ?_
      refine vo_call [] Try.func43 rfl rfl rfl rfl rfl rfl rfl (indicesOf_sat (marks := m) (by omega)) ?_
      rintro _ _ ⟨nl9, rfl, rfl⟩
      refine ⟨Nat.le_of_ble_eq_true rfl, ⟨rfl, rfl, rfl⟩, .inr ⟨rfl, rfl⟩, ?_⟩
      refine vo_stN ?_
      refine vo_assign_ref rfl rfl ?_
      refine vo_nil ?_
      refine hK17 _ ?_
      refine vc_ret ?_
      change retG _ _ _ _ _
      refine retG_one 1 hC rfl rfl rfl rfl rfl ?_
      exact ⟨_, rfl, rows_eq (g := intP) (by rw [belR_of hv hn, belL, show m = belB bases n from eq_of_get (by rw [hl, belB_len]) fun x => by rw [hm, belB_get, show k = bases.length by omega]])⟩

end Go.Vl

namespace Go.Vl
set_option linter.unusedVariables false
set_option linter.unusedSimpArgs false
open Go.Proofs

theorem VB.take {b : List (List Int)} {k : Nat} (h : VB b) (h1 : 1 ≤ k) (h2 : k ≤ b.length) : VB (b.take k) := by
  obtain ⟨a1, a2, a3, a4⟩ := h
  have e : ∀ i, i < k → (b.take k).getD i [] = b.getD i [] := fun i hi => by simp [List.getD, List.getElem?_take, hi]
  have l : (b.take k).length = k := by rw [List.length_take]; omega
  exact ⟨by omega, by omega, by rw [e 0 (by omega)]; exact a3, fun i hi h0 => by rw [e i (by omega)]; exact a4 i (by omega) h0⟩
theorem VS_set {b s : List (List Int)} (h : VS b s) (i : Nat) : VS b (s.set i []) := by
  obtain ⟨a1, a2, a3, a4⟩ := h
  refine ⟨a1, by rw [List.length_set]; exact a2, ?_, fun l hl => ?_⟩
  · simp only [List.getD, List.getElem?_set] at a3 ⊢
    split
    · split <;> rfl
    · exact a3
  · rcases List.mem_or_eq_of_mem_set hl with h | rfl
    · exact a4 l h
    · exact ⟨⟨by simp, List.nodup_nil⟩, by simp⟩
theorem VS_take1 {b s : List (List Int)} (h : VS b s) : VS (b.take 1) (s.take 1) := by
  obtain ⟨a1, a2, a3, a4⟩ := h
  have h1 := a1.1
  refine ⟨a1.take (Nat.le_refl 1) h1, by simp; omega, ?_, fun l hl => a4 l (List.mem_of_mem_take hl)⟩
  simp only [List.getD, List.getElem?_take] at a3 ⊢
  simpa using a3
theorem pw_lt {l : List Int} (h : l.Pairwise (· < ·)) {i j : Nat} (hij : i < j) (hj : j < l.length) : l.getD i 0 < l.getD j 0 := by
  have h1 : l.getD i 0 = l[i] := by simp [List.getD, List.getElem?_eq_getElem (show i < l.length by omega)]
  have h2 : l.getD j 0 = l[j] := by simp [List.getD, List.getElem?_eq_getElem hj]
  rw [h1, h2]; exact List.pairwise_iff_getElem.1 h i j (by omega) hj hij
theorem abvR_ne {b : List (List Int)} {c : Int} (h : abvR b c ≠ []) : VB b ∧ 0 ≤ c ∧ c < b.length := by
  by_cases h1 : VB b ∧ 0 ≤ c ∧ c < b.length
  · exact h1
  · exact absurd (abvR_no h1) h
theorem abvR_mem {b : List (List Int)} {c x : Int} (h : x ∈ abvR b c) : (VB b ∧ 0 ≤ c ∧ c < b.length) ∧ 0 ≤ x ∧ x ≤ c ∧ Abv b c.toNat x.toNat := by
  have h1 := abvR_ne (List.ne_nil_of_mem h)
  obtain ⟨n, rfl⟩ := Int.eq_ofNat_of_zero_le h1.2.1
  rw [abvR_of h1.1 (by omega)] at h
  have h2 := abvL_le h1.1 (by omega) h
  obtain ⟨i, rfl, h3⟩ := (mem_abvL h1.1.bd' (by omega) x).1 h
  exact ⟨h1, h2.1, h2.2, h3⟩
theorem abvR_of_Abv {b : List (List Int)} (hv : VB b) {c x : Nat} (hc : c < b.length) (h : Abv b c x) : (x : Int) ∈ abvR b c := by
  rw [abvR_of hv hc]; exact (mem_abvL hv.bd' hc _).2 ⟨x, rfl, h⟩
theorem abvR_trans {b : List (List Int)} {c x y : Int} (h : x ∈ abvR b c) (h2 : y ∈ abvR b x) : y ∈ abvR b c := by
  obtain ⟨a1, a2, a3, a4⟩ := abvR_mem h
  obtain ⟨b1, b2, b3, b4⟩ := abvR_mem h2
  have := abvR_of_Abv a1.1 (c := c.toNat) (x := y.toNat) (by omega) (a4.trans b4)
  rwa [show ((c.toNat : Nat) : Int) = c by omega, show ((y.toNat : Nat) : Int) = y by omega] at this
theorem abvR_self {b : List (List Int)} {c : Int} (hv : VB b) (h0 : 0 ≤ c) (h1 : c < b.length) : c ∈ abvR b c := by
  have := abvR_of_Abv hv (c := c.toNat) (by omega) (.refl _)
  rwa [show ((c.toNat : Nat) : Int) = c by omega] at this
theorem abvR_base {b : List (List Int)} {c : Int} (hv : VB b) (h0 : 0 ≤ c) (h1 : c < b.length) : ∀ x ∈ b.getD c.toNat [], x ∈ abvR b c := by
  intro x hx
  have hb := hv.bd hx
  have := abvR_of_Abv hv (c := c.toNat) (x := x.toNat) (by omega) (.step (d := x.toNat) (by rw [show ((x.toNat : Nat) : Int) = x by omega]; exact hx) (.refl _))
  rwa [show ((c.toNat : Nat) : Int) = c by omega, show ((x.toNat : Nat) : Int) = x by omega] at this
theorem abvR_asc (b : List (List Int)) (c : Int) : (abvR b c).Pairwise (· < ·) := by
  unfold abvR; split
  · exact abvL_asc _ _
  · exact List.Pairwise.nil
theorem Abv_root {b : List (List Int)} (hv : VB b) : ∀ c : Nat, c < b.length → Abv b c 0 := by
  intro c
  induction c using Nat.strongRecOn with
  | ind c ih =>
    intro hc
    rcases Nat.eq_zero_or_pos c with rfl | h0
    · exact .refl 0
    · have h1 := (hv.2.2.2 c hc h0).1
      obtain ⟨x, hx⟩ := List.exists_mem_of_ne_nil _ h1
      have hb := hv.bd hx
      exact .step (d := x.toNat) (by rw [show ((x.toNat : Nat) : Int) = x by omega]; exact hx) (ih x.toNat (by omega) (by omega))
theorem abvR_zero {b : List (List Int)} {c : Int} (hv : VB b) (h0 : 0 ≤ c) (h1 : c < b.length) : (abvR b c).getD 0 0 = 0 := by
  have hm := abvR_of_Abv hv (c := c.toNat) (by omega) (Abv_root hv c.toNat (by omega))
  rw [show ((c.toNat : Nat) : Int) = c by omega] at hm
  obtain ⟨i, hi, he⟩ := List.getElem_of_mem hm
  have hd : (abvR b c).getD i 0 = 0 := by simp [List.getD, List.getElem?_eq_getElem hi, he]
  rcases Nat.eq_zero_or_pos i with rfl | h2
  · exact hd
  · have h3 := pw_lt (abvR_asc b c) h2 hi
    have h4 := (abvR_mem (getD_mem (show 0 < (abvR b c).length by omega) 0)).2.1
    omega
theorem belR_mem {b : List (List Int)} {c : Int} (h : belR b c ≠ []) {k : Nat} (hk : k < b.length) : ((k : Int) ∈ belR b c ↔ c ∈ abvR b k) := by
  by_cases h1 : VB b ∧ 0 ≤ c ∧ c < b.length
  · obtain ⟨n, rfl⟩ := Int.eq_ofNat_of_zero_le h1.2.1
    rw [belR_of h1.1 (by omega), abvR_of h1.1 hk, belL, idxB, mem_idxT]
    constructor
    · rintro ⟨i, h2, h3, h4⟩
      have : i = k := by omega
      subst this
      exact (belB_get.1 h4).2
    · intro h2
      exact ⟨k, rfl, by rw [belB_len]; exact hk, belB_get.2 ⟨hk, h2⟩⟩
  · exact absurd (belR_no h1) h
theorem belR_asc (b : List (List Int)) (c : Int) : (belR b c).Pairwise (· < ·) := by
  unfold belR; split
  · exact idxT_asc _ _
  · exact List.Pairwise.nil
theorem belR_len {b : List (List Int)} {c : Int} {N : Nat} (h : b.length < N) : (belR b c).length < N := by
  unfold belR; split
  · have := idxT_len (belB b c.toNat) (belB b c.toNat).length
    rw [belB_len] at this
    unfold belL idxB; rw [belB_len]; omega
  · simp; omega
theorem set_lens {B : List (List Int)} {l : List Int} {i N : Nat} (h : ∀ x ∈ B, x.length ≤ N) (hl : l.length ≤ N) : ∀ x ∈ B.set i l, x.length ≤ N := by
  intro x hx
  rcases List.mem_or_eq_of_mem_set hx with hx | rfl
  · exact h x hx
  · exact hl
theorem app_lens {B : List (List Int)} {l : List Int} {N : Nat} (h : ∀ x ∈ B, x.length ≤ N) (hl : l.length ≤ N) : ∀ x ∈ B ++ [l], x.length ≤ N := by
  intro x hx
  rcases List.mem_append.1 hx with hx | hx
  · exact h x hx
  · rw [List.mem_singleton.1 hx]; exact hl

end Go.Vl

namespace Go.Vl
set_option linter.unusedVariables false
set_option linter.unusedSimpArgs false
open Go.Proofs

/- Layouts: the lowest of some solid classes, and the layout of each class. -/
theorem ilt_ge (a b : Int) : a < b ∨ b ≤ a := by omega
theorem abvR_anti {b : List (List Int)} {x y : Int} (h : x ∈ abvR b y) (h2 : y ∈ abvR b x) : x = y := by
  have h3 := (abvR_mem h).2
  have h4 := (abvR_mem h2).2
  omega
theorem abvR_slf {b : List (List Int)} {x c : Int} (h : x ∈ abvR b c) : x ∈ abvR b x := by
  have h1 := abvR_mem h
  exact abvR_self h1.1.1 h1.2.1 (by omega)
theorem abvR_root {b : List (List Int)} {c : Int} (hv : VB b) (h0 : 0 ≤ c) (h1 : c < b.length) : 0 ∈ abvR b c := by
  have := abvR_of_Abv hv (c := c.toNat) (by omega) (Abv_root hv c.toNat (by omega))
  rwa [show ((c.toNat : Nat) : Int) = c by omega] at this
/-- The lowest of classes, as it is found one by one; -1 where two are apart. -/
def solF (b : List (List Int)) (best : Int) : List Int → Int
  | [] => best
  | t :: r => if t < 0 then -1 else if best ∈ abvR b t then solF b t r else if t ∈ abvR b best then solF b best r else -1
theorem solF_pos {b : List (List Int)} : ∀ (L : List Int) (best : Int), best ∈ abvR b best → 0 ≤ solF b best L → (solF b best L = best ∨ solF b best L ∈ L) ∧ best ∈ abvR b (solF b best L) ∧ ∀ t ∈ L, t ∈ abvR b (solF b best L)
  | [], best, hb, _ => ⟨.inl rfl, hb, by simp⟩
  | t :: r, best, hb, h => by
    unfold solF at h ⊢
    by_cases h1 : t < 0
    · rw [if_pos h1] at h; omega
    · rw [if_neg h1] at h ⊢
      by_cases h2 : best ∈ abvR b t
      · rw [if_pos h2] at h ⊢
        have ht : t ∈ abvR b t := by
          have h3 := (abvR_mem h2).1
          exact abvR_self h3.1 h3.2.1 h3.2.2
        obtain ⟨a1, a2, a3⟩ := solF_pos r t ht h
        refine ⟨.inr ?_, abvR_trans a2 h2, fun x hx => ?_⟩
        · rcases a1 with a1 | a1
          · rw [a1]; exact List.mem_cons_self
          · exact List.mem_cons_of_mem _ a1
        · rcases List.mem_cons.1 hx with rfl | hx
          · exact a2
          · exact a3 x hx
      · rw [if_neg h2] at h ⊢
        by_cases h3 : t ∈ abvR b best
        · rw [if_pos h3] at h ⊢
          obtain ⟨a1, a2, a3⟩ := solF_pos r best hb h
          refine ⟨?_, a2, fun x hx => ?_⟩
          · rcases a1 with a1 | a1
            · exact .inl a1
            · exact .inr (List.mem_cons_of_mem _ a1)
          · rcases List.mem_cons.1 hx with rfl | hx
            · exact abvR_trans a2 h3
            · exact a3 x hx
        · rw [if_neg h3] at h; omega
theorem solF_ok {b : List (List Int)} : ∀ (L : List Int) (best : Int), 0 ≤ best → (∀ t ∈ L, 0 ≤ t) → (∀ x ∈ best :: L, ∀ y ∈ best :: L, x ∈ abvR b y ∨ y ∈ abvR b x) → 0 ≤ solF b best L
  | [], best, hb, _, _ => hb
  | t :: r, best, hb, h, h2 => by
    unfold solF
    have ht := h t List.mem_cons_self
    rw [if_neg (by omega)]
    split
    · exact solF_ok r t ht (fun x hx => h x (List.mem_cons_of_mem _ hx)) (fun x hx y hy => h2 x (List.mem_cons_of_mem _ hx) y (List.mem_cons_of_mem _ hy))
    · rename_i h3
      rcases h2 best List.mem_cons_self t (List.mem_cons_of_mem _ List.mem_cons_self) with h4 | h4
      · exact absurd h4 h3
      · rw [if_pos h4]
        refine solF_ok r best hb (fun x hx => h x (List.mem_cons_of_mem _ hx)) (fun x hx y hy => h2 x ?_ y ?_)
        · rcases List.mem_cons.1 hx with rfl | hx
          · exact List.mem_cons_self
          · exact List.mem_cons_of_mem _ (List.mem_cons_of_mem _ hx)
        · rcases List.mem_cons.1 hy with rfl | hy
          · exact List.mem_cons_self
          · exact List.mem_cons_of_mem _ (List.mem_cons_of_mem _ hy)
theorem solF_drop {b : List (List Int)} {best : Int} {l : List Int} {k : Nat} (h : k < l.length) : solF b best (l.drop k) = if l.getD k 0 < 0 then -1 else if best ∈ abvR b (l.getD k 0) then solF b (l.getD k 0) (l.drop (k+1)) else if l.getD k 0 ∈ abvR b best then solF b best (l.drop (k+1)) else -1 := by
  rw [List.drop_eq_getElem_cons h, ← getD_at h 0]; rfl
/-- The first of classes that is below all. -/
def fbaF (b : List (List Int)) (all : List Int) : List Int → Int → Int
  | [], _ => -1
  | a :: r, i => if ∀ y ∈ all, y ∈ abvR b a then i else fbaF b all r (i+1)
theorem fbaF_drop {b : List (List Int)} {all l : List Int} {k : Nat} (h : k < l.length) : fbaF b all (l.drop k) k = if ∀ y ∈ all, y ∈ abvR b (l.getD k 0) then (k : Int) else fbaF b all (l.drop (k+1)) (k+1) := by
  rw [List.drop_eq_getElem_cons h, ← getD_at h 0]; rfl
theorem fbaF_pos {b : List (List Int)} {all : List Int} : ∀ (l : List Int) (i : Int), 0 ≤ i → 0 ≤ fbaF b all l i → i ≤ fbaF b all l i ∧ fbaF b all l i < i + l.length ∧ ∀ y ∈ all, y ∈ abvR b (l.getD (fbaF b all l i - i).toNat 0)
  | [], i, hi, h => by simp [fbaF] at h
  | a :: r, i, hi, h => by
    unfold fbaF at h ⊢
    split
    · rename_i h1
      refine ⟨Int.le_refl _, by simp; omega, ?_⟩
      rw [show (i - i).toNat = 0 by omega]; exact h1
    · rename_i h1
      rw [if_neg h1] at h
      obtain ⟨a1, a2, a3⟩ := fbaF_pos r (i+1) (by omega) h
      refine ⟨by omega, by simp; omega, ?_⟩
      rw [show (fbaF b all r (i+1) - i).toNat = (fbaF b all r (i+1) - (i+1)).toNat + 1 by omega]
      exact a3
theorem fbaF_neg {b : List (List Int)} {all : List Int} : ∀ (l : List Int) (i : Int), 0 ≤ i → fbaF b all l i < 0 → ∀ a ∈ l, ¬ ∀ y ∈ all, y ∈ abvR b a
  | [], i, hi, h => by simp
  | a :: r, i, hi, h => by
    unfold fbaF at h
    split at h
    · omega
    · rename_i h1
      intro x hx
      rcases List.mem_cons.1 hx with rfl | hx
      · exact h1
      · exact fbaF_neg r (i+1) (by omega) h x hx
def fba (b : List (List Int)) (l : List Int) : Int := fbaF b l l 0
/-- The solid classes. -/
def solS (b : List (List Int)) (o l own : List Int) (c : Int) : Int :=
  if solF b 0 (l.map fun x => o.getD x.toNat 0) < 0 then -1 else if own = [] then solF b 0 (l.map fun x => o.getD x.toNat 0) else c
def solT (b s : List (List Int)) : Nat → List Int
  | 0 => []
  | n+1 => solT b s n ++ [solS b (solT b s n) (b.getD n []) (s.getD n []) n]
def solM (b s : List (List Int)) (c : Nat) : Int := solS b (solT b s c) (b.getD c []) (s.getD c []) c
theorem solT_len (b s : List (List Int)) : ∀ n, (solT b s n).length = n
  | 0 => rfl
  | n+1 => by rw [solT, List.length_append, solT_len b s n]; rfl
theorem solT_get (b s : List (List Int)) : ∀ (n k : Nat), k < n → (solT b s n).getD k 0 = solM b s k
  | n+1, k, h => by
    rw [solT]
    by_cases hk : k < n
    · rw [← solT_get b s n k hk]; simp only [List.getD]; rw [List.getElem?_append_left (by rw [solT_len]; exact hk)]
    · have : k = n := by omega
      subst this
      simp only [List.getD]; rw [List.getElem?_append_right (by rw [solT_len]; exact Nat.le_refl _), solT_len, Nat.sub_self]; rfl
/-- The solid classes of the bases of a class. -/
def solL (b s : List (List Int)) (c : Nat) : List Int := (b.getD c []).map fun x => solM b s x.toNat
theorem solL_eq {b : List (List Int)} (hv : VB b) (s : List (List Int)) (c : Nat) : ((b.getD c []).map fun x => (solT b s c).getD x.toNat 0) = solL b s c := by
  refine List.map_congr_left fun x hx => ?_
  have := hv.bd hx
  exact solT_get b s c _ (by omega)
theorem solM_eq {b : List (List Int)} (hv : VB b) (s : List (List Int)) (c : Nat) : solM b s c = if solF b 0 (solL b s c) < 0 then -1 else if s.getD c [] = [] then solF b 0 (solL b s c) else c := by
  unfold solM solS
  rw [solL_eq hv]
/-- What is known of the solid class of a class. -/
def hasS (s : List (List Int)) (x : Int) : Prop := s.getD x.toNat [] ≠ []
structure SolG (b s : List (List Int)) (c : Nat) (m : Int) : Prop where
  above : m ∈ abvR b c
  slots : m = 0 ∨ hasS s m
  all : ∀ x ∈ abvR b c, hasS s x → x ∈ abvR b m
  line : ∀ x ∈ abvR b c, ∀ y ∈ abvR b c, hasS s x → hasS s y → x ∈ abvR b y ∨ y ∈ abvR b x
theorem abvR_cases {b : List (List Int)} (hv : VB b) {c : Nat} {x : Int} (h : x ∈ abvR b c) : x = c ∨ ∃ d ∈ b.getD c [], x ∈ abvR b d := by
  obtain ⟨⟨_, h1, h2⟩, h3, h4, h5⟩ := abvR_mem h
  by_cases he : x = c
  · exact .inl he
  · right
    have hc : c < b.length := by omega
    have hx : x = (x.toNat : Int) := by omega
    rw [hx, abvR_of hv hc, abvL_step hv hc (by omega)] at h
    obtain ⟨d, hd, h6⟩ := h
    have hb := hv.bd hd
    refine ⟨d, hd, ?_⟩
    have := abvR_of hv (n := d.toNat) (by omega)
    rw [show ((d.toNat : Nat) : Int) = d by omega] at this
    rw [this, hx]; exact h6
theorem abvR_up {b : List (List Int)} (hv : VB b) {c : Nat} (hc : c < b.length) {d x : Int} (hd : d ∈ b.getD c []) (h : x ∈ abvR b d) : x ∈ abvR b c :=
  abvR_trans (abvR_base hv (by omega) (by omega) d (by rw [Int.toNat_natCast]; exact hd)) h
theorem solL_mem {b s : List (List Int)} {c : Nat} {t : Int} : t ∈ solL b s c ↔ ∃ d ∈ b.getD c [], solM b s d.toNat = t := List.mem_map
theorem solM_le {b s : List (List Int)} (hv : VB b) (hs : VS b s) : ∀ c : Nat, c < b.length → -1 ≤ solM b s c ∧ (0 ≤ solM b s c → SolG b s c (solM b s c)) := by
  intro c
  induction c using Nat.strongRecOn with
  | ind c ih =>
    intro hc
    have hself : (c : Int) ∈ abvR b c := abvR_self hv (by omega) (by omega)
    have h0c : (0 : Int) ∈ abvR b c := abvR_root hv (by omega) (by omega)
    have h00 : (0 : Int) ∈ abvR b 0 := abvR_self hv (by omega) (by omega)
    rw [solM_eq hv]
    by_cases hneg : solF b 0 (solL b s c) < 0
    · rw [if_pos hneg]; exact ⟨by omega, fun h => by omega⟩
    · rw [if_neg hneg]
      obtain ⟨p1, p2, p3⟩ := solF_pos (solL b s c) 0 h00 (by omega)
      generalize hr : solF b 0 (solL b s c) = r at hneg p1 p2 p3
      have hIH : ∀ d ∈ b.getD c [], SolG b s d.toNat (solM b s d.toNat) ∧ solM b s d.toNat ∈ abvR b r ∧ ((d.toNat : Nat) : Int) = d := by
        intro d hd
        have hb := hv.bd hd
        have hm := p3 _ (solL_mem.2 ⟨d, hd, rfl⟩)
        exact ⟨(ih d.toNat (by omega) (by omega)).2 (abvR_mem hm).2.1, hm, by omega⟩
      -- all with slots above a base are above r
      have hall : ∀ d ∈ b.getD c [], ∀ x ∈ abvR b d, hasS s x → x ∈ abvR b r := by
        intro d hd x hx h1
        obtain ⟨g, hm, e⟩ := hIH d hd
        rw [← e] at hx
        exact abvR_trans hm (g.all x hx h1)
      -- r lies above a base, or there is none
      have hrc : c ≠ 0 → ∃ d ∈ b.getD c [], solM b s d.toNat = r := by
        intro hc0
        rcases p1 with p1 | p1
        · obtain ⟨d, hd⟩ := List.exists_mem_of_ne_nil _ (hv.2.2.2 c hc (by omega)).1
          obtain ⟨g, hm, e⟩ := hIH d hd
          rw [p1] at hm
          have := (abvR_mem hm).2
          exact ⟨d, hd, by omega⟩
        · exact solL_mem.1 p1
      have hline : ∀ x ∈ abvR b r, ∀ y ∈ abvR b r, hasS s x → hasS s y → x ∈ abvR b y ∨ y ∈ abvR b x := by
        intro x hx y hy h1 h2
        by_cases hc0 : c = 0
        · subst hc0
          have : r = 0 := by
            rcases p1 with p1 | p1
            · exact p1
            · obtain ⟨d, hd, _⟩ := solL_mem.1 p1
              rw [hv.2.2.1] at hd; cases hd
          subst this
          have h3 := (abvR_mem hx).2
          have h4 := (abvR_mem hy).2
          have : x = y := by omega
          subst this
          exact .inl (abvR_slf hx)
        · obtain ⟨d, hd, e⟩ := hrc hc0
          obtain ⟨g, hm, e2⟩ := hIH d hd
          rw [e] at g
          exact g.line x (abvR_trans g.above hx) y (abvR_trans g.above hy) h1 h2
      by_cases hown : s.getD c [] = []
      · rw [if_pos hown]
        refine ⟨by omega, fun _ => ?_⟩
        have hx' : ∀ x ∈ abvR b c, hasS s x → x ∈ abvR b r := by
          intro x hx h1
          rcases abvR_cases hv hx with e | ⟨d, hd, h2⟩
          · exfalso; apply h1; rw [e, Int.toNat_natCast]; exact hown
          · exact hall d hd x h2 h1
        refine ⟨?_, ?_, hx', fun x hx y hy h1 h2 => hline x (hx' x hx h1) y (hx' y hy h2) h1 h2⟩
        · by_cases hc0 : c = 0
          · rcases p1 with p1 | p1
            · rw [p1]; exact h0c
            · obtain ⟨d, hd, _⟩ := solL_mem.1 p1
              rw [hc0, hv.2.2.1] at hd; cases hd
          · obtain ⟨d, hd, e⟩ := hrc hc0
            obtain ⟨g, hm, e2⟩ := hIH d hd
            rw [e] at g
            have g2 := g.above
            rw [e2] at g2
            exact abvR_up hv hc hd g2
        · rcases p1 with p1 | p1
          · exact .inl p1
          · obtain ⟨d, hd, e⟩ := solL_mem.1 p1
            obtain ⟨g, hm, e2⟩ := hIH d hd
            rw [e] at g; exact g.slots
      · rw [if_neg hown]
        refine ⟨by omega, fun _ => ?_⟩
        have hslf : hasS s c := by unfold hasS; rw [Int.toNat_natCast]; exact hown
        refine ⟨hself, .inr hslf, fun x hx _ => hx, fun x hx y hy h1 h2 => ?_⟩
        rcases abvR_cases hv hx with e | ⟨d, hd, h3⟩
        · subst e; exact .inr hy
        · rcases abvR_cases hv hy with e | ⟨d2, hd2, h4⟩
          · subst e; exact .inl hx
          · exact hline x (hall d hd x h3 h1) y (hall d2 hd2 y h4 h2) h1 h2
theorem solM_G {b s : List (List Int)} (hs : VS b s) {c : Nat} (hc : c < b.length) (h : 0 ≤ solM b s c) : SolG b s c (solM b s c) := (solM_le hs.1 hs c hc).2 h
theorem solM_ge {b s : List (List Int)} (hs : VS b s) {c : Nat} (hc : c < b.length) : -1 ≤ solM b s c := (solM_le hs.1 hs c hc).1
theorem solL_pos {b s : List (List Int)} (hs : VS b s) {c : Nat} (hc : c < b.length) {t : Int} (ht : t ∈ solL b s c) (h : 0 ≤ t) : ∃ d ∈ b.getD c [], solM b s d.toNat = t ∧ 0 ≤ d ∧ d < c ∧ SolG b s d.toNat t := by
  obtain ⟨d, hd, e⟩ := solL_mem.1 ht
  have hb := hs.1.bd hd
  refine ⟨d, hd, e, hb.1, hb.2, ?_⟩
  rw [← e] at h ⊢
  exact solM_G hs (by omega) h
/-- On a line the lowest is told. -/
theorem solF_line {b s : List (List Int)} (hs : VS b s) {c : Nat} (hc : c < b.length) (hp : ∀ t ∈ solL b s c, 0 ≤ t) (hl : ∀ x ∈ solL b s c, ∀ y ∈ solL b s c, hasS s x → hasS s y → x ∈ abvR b y ∨ y ∈ abvR b x) : 0 ≤ solF b 0 (solL b s c) := by
  have hcl : ∀ x ∈ 0 :: solL b s c, x = 0 ∨ (x ∈ solL b s c ∧ hasS s x ∧ 0 ≤ x ∧ x < b.length) := by
    intro x hx
    rcases List.mem_cons.1 hx with h | h
    · exact .inl h
    · obtain ⟨d, hd, e, h1, h2, g⟩ := solL_pos hs hc h (hp x h)
      rcases g.slots with h3 | h3
      · exact .inl h3
      · have := abvR_mem g.above
        exact .inr ⟨h, h3, by omega, by omega⟩
  refine solF_ok _ _ (Int.le_refl _) hp fun x hx y hy => ?_
  rcases hcl x hx with rfl | ⟨h1, h2, h3, h4⟩
  · left
    rcases hcl y hy with rfl | ⟨h1, h2, h3, h4⟩
    · exact abvR_root hs.1 (by omega) (by omega)
    · exact abvR_root hs.1 h3 h4
  · rcases hcl y hy with rfl | ⟨g1, g2, g3, g4⟩
    · exact .inr (abvR_root hs.1 h3 h4)
    · exact hl x h1 y g1 h2 g2
/-- What is found one by one is what is below all. -/
theorem fba_sol {b s : List (List Int)} (hs : VS b s) {c : Nat} (hc : c < b.length) (hc0 : c ≠ 0) : (0 ≤ fba b (solL b s c) ↔ 0 ≤ solF b 0 (solL b s c)) ∧ (0 ≤ fba b (solL b s c) → fba b (solL b s c) < (b.getD c []).length ∧ (solL b s c).getD (fba b (solL b s c)).toNat 0 = solF b 0 (solL b s c)) := by
  have h00 : (0 : Int) ∈ abvR b 0 := abvR_self hs.1 (by omega) (by omega)
  have hlen : (solL b s c).length = (b.getD c []).length := List.length_map ..
  have key : 0 ≤ fba b (solL b s c) → fba b (solL b s c) < (b.getD c []).length ∧ (solL b s c).getD (fba b (solL b s c)).toNat 0 ∈ solL b s c ∧ ∀ y ∈ solL b s c, y ∈ abvR b ((solL b s c).getD (fba b (solL b s c)).toNat 0) := by
    intro h
    obtain ⟨a1, a2, a3⟩ := fbaF_pos (all := solL b s c) (solL b s c) 0 (Int.le_refl _) h
    rw [show fbaF b (solL b s c) (solL b s c) 0 - 0 = fba b (solL b s c) by unfold fba; omega] at a3
    have : fba b (solL b s c) < (b.getD c []).length := by unfold fba; omega
    exact ⟨this, getD_mem (by omega) 0, a3⟩
  have fwd : 0 ≤ fba b (solL b s c) → 0 ≤ solF b 0 (solL b s c) := by
    intro h
    obtain ⟨k1, k2, k3⟩ := key h
    have hp : ∀ t ∈ solL b s c, 0 ≤ t := fun t ht => (abvR_mem (k3 t ht)).2.1
    obtain ⟨d, hd, e, h1, h2, g⟩ := solL_pos hs hc k2 (hp _ k2)
    exact solF_line hs hc hp fun x hx y hy h3 h4 => g.line x (abvR_trans g.above (k3 x hx)) y (abvR_trans g.above (k3 y hy)) h3 h4
  refine ⟨⟨fwd, fun h => ?_⟩, fun h => ?_⟩
  · obtain ⟨p1, p2, p3⟩ := solF_pos (solL b s c) 0 h00 h
    rcases ilt_ge (fba b (solL b s c)) 0 with hn | hn
    · exfalso
      have h3 := fbaF_neg (all := solL b s c) (solL b s c) 0 (Int.le_refl _) hn
      have hmem : solF b 0 (solL b s c) ∈ solL b s c := by
        rcases p1 with p1 | p1
        · obtain ⟨d, hd⟩ := List.exists_mem_of_ne_nil _ (hs.1.2.2.2 c hc (by omega)).1
          have h4 : solM b s d.toNat ∈ solL b s c := solL_mem.2 ⟨d, hd, rfl⟩
          have h5 := p3 _ h4
          have h6 := abvR_mem h5
          have h7 : solM b s d.toNat = solF b 0 (solL b s c) := by omega
          rw [← h7]; exact h4
        · exact p1
      exact h3 _ hmem p3
    · exact hn
  · obtain ⟨k1, k2, k3⟩ := key h
    obtain ⟨p1, p2, p3⟩ := solF_pos (solL b s c) 0 h00 (fwd h)
    refine ⟨k1, ?_⟩
    have h5 := p3 _ k2
    rcases p1 with p1 | p1
    · have := abvR_mem h5; omega
    · exact abvR_anti h5 (k3 _ p1)

end Go.Vl

namespace Go.Vl
set_option linter.unusedVariables false
set_option linter.unusedSimpArgs false
open Go.Proofs

/- The fields of each class, as they are made, and as they are told. -/
theorem solM_root {b s : List (List Int)} (hs : VS b s) : solM b s 0 = 0 := by
  rw [solM_eq hs.1]
  have : solL b s 0 = [] := by unfold solL; rw [hs.1.2.2.1]; rfl
  rw [this, hs.2.2.1]; rfl
theorem solM_idem {b s : List (List Int)} (hs : VS b s) : ∀ c : Nat, c < b.length → 0 ≤ solM b s c → solM b s (solM b s c).toNat = solM b s c := by
  intro c
  induction c using Nat.strongRecOn with
  | ind c ih =>
    intro hc h
    have e := solM_eq hs.1 s c
    by_cases hneg : solF b 0 (solL b s c) < 0
    · rw [if_pos hneg] at e; omega
    · rw [if_neg hneg] at e
      by_cases hown : s.getD c [] = []
      · rw [if_pos hown] at e
        rcases (solF_pos (solL b s c) 0 (abvR_self hs.1 (by omega) (by omega)) (by omega)).1 with p1 | p1
        · rw [p1] at e; rw [e]; exact solM_root hs
        · obtain ⟨d, hd, e2⟩ := solL_mem.1 p1
          have hb := hs.1.bd hd
          rw [e, ← e2]
          exact ih d.toNat (by omega) (by omega) (by omega)
      · rw [if_neg hown] at e
        rw [e, Int.toNat_natCast]; exact e
/-- The base with whose layout a class goes on. -/
def bstM (b s : List (List Int)) (c : Nat) : Int := if c = 0 then -1 else if fba b (solL b s c) < 0 then -1 else (b.getD c []).getD (fba b (solL b s c)).toNat 0
def fldS (b s : List (List Int)) (o : List (List (Int × Int))) (c : Nat) : List (Int × Int) :=
  if bstM b s c < 0 then [] else o.getD (bstM b s c).toNat [] ++ (s.getD c []).map (fun n => ((c : Int), n))
def fldT (b s : List (List Int)) : Nat → List (List (Int × Int))
  | 0 => []
  | n+1 => fldT b s n ++ [fldS b s (fldT b s n) n]
def fldM (b s : List (List Int)) (c : Nat) : List (Int × Int) := fldS b s (fldT b s c) c
theorem fldT_len (b s : List (List Int)) : ∀ n, (fldT b s n).length = n
  | 0 => rfl
  | n+1 => by rw [fldT, List.length_append, fldT_len b s n]; rfl
theorem fldT_get (b s : List (List Int)) : ∀ (n k : Nat), k < n → (fldT b s n).getD k [] = fldM b s k
  | n+1, k, h => by
    rw [fldT]
    by_cases hk : k < n
    · rw [← fldT_get b s n k hk]; simp only [List.getD]; rw [List.getElem?_append_left (by rw [fldT_len]; exact hk)]
    · have : k = n := by omega
      subst this
      simp only [List.getD]; rw [List.getElem?_append_right (by rw [fldT_len]; exact Nat.le_refl _), fldT_len, Nat.sub_self]; rfl
theorem solL_getD {b s : List (List Int)} {c k : Nat} (h : k < (b.getD c []).length) : (solL b s c).getD k 0 = solM b s ((b.getD c []).getD k 0).toNat := by
  have e : (b.getD c []).getD k 0 = (b.getD c [])[k] := by rw [List.getD, List.getElem?_eq_getElem h]; rfl
  unfold solL
  rw [e, List.getD, List.getElem?_map, List.getElem?_eq_getElem h]; rfl
theorem solL_len (b s : List (List Int)) (c : Nat) : (solL b s c).length = (b.getD c []).length := List.length_map ..
theorem bst_spec {b s : List (List Int)} (hs : VS b s) {c : Nat} (hc : c < b.length) (hc0 : c ≠ 0) : (0 ≤ bstM b s c ↔ 0 ≤ solM b s c) ∧ (0 ≤ bstM b s c → bstM b s c ∈ b.getD c [] ∧ bstM b s c < c ∧ solM b s (bstM b s c).toNat = solF b 0 (solL b s c) ∧ 0 ≤ solF b 0 (solL b s c)) := by
  obtain ⟨f1, f2⟩ := fba_sol hs hc hc0
  have e := solM_eq hs.1 s c
  unfold bstM
  rw [if_neg hc0]
  by_cases h : fba b (solL b s c) < 0
  · rw [if_pos h]
    have : solF b 0 (solL b s c) < 0 := by
      rcases ilt_ge (solF b 0 (solL b s c)) 0 with h1 | h1
      · exact h1
      · have := f1.2 h1; omega
    rw [if_pos this] at e
    exact ⟨⟨fun h => by omega, fun h => by omega⟩, fun h => by omega⟩
  · rw [if_neg h]
    obtain ⟨g1, g2⟩ := f2 (by omega)
    have g3 := f1.1 (by omega)
    rw [if_neg (by omega)] at e
    have hm := getD_mem (show (fba b (solL b s c)).toNat < (b.getD c []).length by omega) 0
    have hb := hs.1.bd hm
    refine ⟨⟨fun _ => ?_, fun _ => hb.1⟩, fun _ => ⟨hm, hb.2, ?_, g3⟩⟩
    · rw [e]; split <;> omega
    · rw [← g2, solL_getD (by omega)]
theorem fldM_no {b s : List (List Int)} {c : Nat} (h : bstM b s c < 0) : fldM b s c = [] := if_pos h
theorem fldM_eq {b s : List (List Int)} (hs : VS b s) {c : Nat} (hc : c < b.length) (h : 0 ≤ bstM b s c) : fldM b s c = fldM b s (bstM b s c).toNat ++ (s.getD c []).map (fun n => ((c : Int), n)) := by
  have hc0 : c ≠ 0 := fun e => by unfold bstM at h; rw [if_pos e] at h; omega
  have := (bst_spec hs hc hc0).2 h
  show fldS b s _ c = _
  unfold fldS
  rw [if_neg (by omega), fldT_get b s c _ (by omega)]
/-- The classes with slots whose fields a class has. -/
def chnS (b s o : List (List Int)) (c : Nat) : List (List Int) := []
def chnT (b s : List (List Int)) : Nat → List (List Int)
  | 0 => []
  | n+1 => chnT b s n ++ [if solM b s n ≤ 0 then [] else (chnT b s n).getD (solF b 0 (solL b s (solM b s n).toNat)).toNat [] ++ [solM b s n]]
def chnM (b s : List (List Int)) (c : Nat) : List Int := if solM b s c ≤ 0 then [] else (chnT b s c).getD (solF b 0 (solL b s (solM b s c).toNat)).toNat [] ++ [solM b s c]
theorem chnT_len (b s : List (List Int)) : ∀ n, (chnT b s n).length = n
  | 0 => rfl
  | n+1 => by rw [chnT, List.length_append, chnT_len b s n]; rfl
theorem chnT_get (b s : List (List Int)) : ∀ (n k : Nat), k < n → (chnT b s n).getD k [] = chnM b s k
  | n+1, k, h => by
    rw [chnT]
    by_cases hk : k < n
    · rw [← chnT_get b s n k hk]; simp only [List.getD]; rw [List.getElem?_append_left (by rw [chnT_len]; exact hk)]
    · have : k = n := by omega
      subst this
      simp only [List.getD]; rw [List.getElem?_append_right (by rw [chnT_len]; exact Nat.le_refl _), chnT_len, Nat.sub_self]; rfl
theorem chnM_no {b s : List (List Int)} {c : Nat} (h : solM b s c ≤ 0) : chnM b s c = [] := if_pos h
/-- The lowest one below a class that is its own layout. -/
theorem low_spec {b s : List (List Int)} (hs : VS b s) {m : Nat} (hm : m < b.length) (hm0 : m ≠ 0) (h : solM b s m = m) : 0 ≤ solF b 0 (solL b s m) ∧ solF b 0 (solL b s m) < m ∧ solM b s (solF b 0 (solL b s m)).toNat = solF b 0 (solL b s m) := by
  have e := solM_eq hs.1 s m
  by_cases hneg : solF b 0 (solL b s m) < 0
  · rw [if_pos hneg] at e; omega
  · rcases (solF_pos (solL b s m) 0 (abvR_self hs.1 (by omega) (by omega)) (by omega)).1 with p1 | p1
    · rw [p1]; exact ⟨by omega, by omega, solM_root hs⟩
    · obtain ⟨d, hd, e2⟩ := solL_mem.1 p1
      have hb := hs.1.bd hd
      have hg := solM_G hs (c := d.toNat) (by omega) (by omega)
      have := abvR_mem hg.above
      refine ⟨by omega, by omega, ?_⟩
      rw [← e2]
      exact solM_idem hs d.toNat (by omega) (by omega)
theorem chnM_eq {b s : List (List Int)} (hs : VS b s) {c : Nat} (hc : c < b.length) (h : 0 < solM b s c) : chnM b s c = chnM b s (solF b 0 (solL b s (solM b s c).toNat)).toNat ++ [solM b s c] := by
  have hg := solM_G hs hc (by omega)
  have hle := abvR_mem hg.above
  have hid := solM_idem hs c hc (by omega)
  have hlow := low_spec hs (m := (solM b s c).toNat) (by omega) (by omega) (by omega)
  unfold chnM
  rw [if_neg (by omega), chnT_get b s c _ (by omega)]
  rfl
def flat (s : List (List Int)) (l : List Int) : List (Int × Int) := l.flatMap (fun x => (s.getD x.toNat []).map (fun n => (x, n)))
theorem chn_same {b s : List (List Int)} (hs : VS b s) {c d : Nat} (hc : c < b.length) (hd : d < b.length) (h : solM b s c = solM b s d) : chnM b s c = chnM b s d := by
  rcases ilt_ge 0 (solM b s c) with h1 | h1
  · rw [chnM_eq hs hc h1, chnM_eq hs hd (by omega), h]
  · rw [chnM_no h1, chnM_no (by omega)]
theorem fld_chn {b s : List (List Int)} (hs : VS b s) : ∀ c : Nat, c < b.length → 0 ≤ solM b s c → fldM b s c = flat s (chnM b s c) := by
  intro c
  induction c using Nat.strongRecOn with
  | ind c ih =>
    intro hc h
    by_cases hc0 : c = 0
    · subst hc0
      rw [chnM_no (by rw [solM_root hs]; omega), fldM_no (by unfold bstM; rw [if_pos rfl]; omega)]; rfl
    · obtain ⟨h1, h2⟩ := bst_spec hs hc hc0
      have hb := h1.2 h
      obtain ⟨g1, g2, g3, g4⟩ := h2 hb
      rw [fldM_eq hs hc hb, ih _ (by omega) (by omega) (by omega)]
      have e := solM_eq hs.1 s c
      rw [if_neg (by omega)] at e
      by_cases hown : s.getD c [] = []
      · rw [if_pos hown] at e
        rw [hown, List.map_nil, List.append_nil, chn_same hs (d := (bstM b s c).toNat) hc (by omega) (by omega)]
      · rw [if_neg hown] at e
        have e5 : (solM b s c).toNat = c := by omega
        rw [chnM_eq hs hc (by omega), e5]
        have hlow := low_spec hs hc hc0 e
        rw [chn_same hs (d := (bstM b s c).toNat) (c := (solF b 0 (solL b s c)).toNat) (by omega) (by omega) (by omega)]
        unfold flat
        rw [List.flatMap_append]
        congr 1
        simp [e]
/-- As the chain finds the lowest one. -/
def bstF (b : List (List Int)) (best : Int) : List Int → Int
  | [] => best
  | t :: r => if best ∈ abvR b t then bstF b t r else bstF b best r
theorem bstF_eq {b : List (List Int)} : ∀ (L : List Int) (best : Int), 0 ≤ solF b best L → bstF b best L = solF b best L
  | [], _, _ => rfl
  | t :: r, best, h => by
    unfold solF at h ⊢
    unfold bstF
    by_cases h1 : t < 0
    · rw [if_pos h1] at h; omega
    · rw [if_neg h1] at h ⊢
      by_cases h2 : best ∈ abvR b t
      · rw [if_pos h2] at h ⊢; rw [if_pos h2]; exact bstF_eq r t h
      · rw [if_neg h2] at h ⊢
        rw [if_neg h2]
        by_cases h3 : t ∈ abvR b best
        · rw [if_pos h3] at h ⊢; exact bstF_eq r best h
        · rw [if_neg h3] at h; omega
theorem bstF_drop {b : List (List Int)} {best : Int} {l : List Int} {k : Nat} (h : k < l.length) : bstF b best (l.drop k) = if best ∈ abvR b (l.getD k 0) then bstF b (l.getD k 0) (l.drop (k+1)) else bstF b best (l.drop (k+1)) := by
  rw [List.drop_eq_getElem_cons h, ← getD_at h 0]; rfl
theorem fldM_len {b s : List (List Int)} (hs : VS b s) : ∀ c : Nat, c < b.length → (fldM b s c).length ≤ 4 * c := by
  intro c
  induction c using Nat.strongRecOn with
  | ind c ih =>
    intro hc
    rcases ilt_ge (bstM b s c) 0 with h | h
    · rw [fldM_no h]; simp
    · have hc0 : c ≠ 0 := fun e => by unfold bstM at h; rw [if_pos e] at h; omega
      have h1 := (bst_spec hs hc hc0).2 h
      have h2 := ih (bstM b s c).toNat (by omega) (by omega)
      have h3 : (s.getD c []).length ≤ 4 := by
        have := (hs.2.2.2 _ (getD_mem (show c < s.length by have := hs.2.1; omega) [])).1.1
        omega
      rw [fldM_eq hs hc h, List.length_append, List.length_map]
      omega
theorem chnM_len {b s : List (List Int)} (hs : VS b s) : ∀ c : Nat, c < b.length → (chnM b s c).length ≤ c := by
  intro c
  induction c using Nat.strongRecOn with
  | ind c ih =>
    intro hc
    rcases ilt_ge 0 (solM b s c) with h | h
    · have hg := solM_G hs hc (by omega)
      have hle := abvR_mem hg.above
      have hid := solM_idem hs c hc (by omega)
      have hlow := low_spec hs (m := (solM b s c).toNat) (by omega) (by omega) (by omega)
      have := ih _ (show (solF b 0 (solL b s (solM b s c).toNat)).toNat < c by omega) (by omega)
      rw [chnM_eq hs hc h, List.length_append, List.length_singleton]
      omega
    · rw [chnM_no h]; simp
/-- The first base whose layout is the lowest. -/
def bbF (b s : List (List Int)) (best : Int) : List Int → Int
  | [] => best
  | d :: r => if solM b s best.toNat ≠ solM b s d.toNat ∧ solM b s best.toNat ∈ abvR b (solM b s d.toNat) then bbF b s d r else bbF b s best r
theorem bbF_drop {b s : List (List Int)} {best : Int} {l : List Int} {k : Nat} (h : k < l.length) : bbF b s best (l.drop k) = if solM b s best.toNat ≠ solM b s (l.getD k 0).toNat ∧ solM b s best.toNat ∈ abvR b (solM b s (l.getD k 0).toNat) then bbF b s (l.getD k 0) (l.drop (k+1)) else bbF b s best (l.drop (k+1)) := by
  rw [List.drop_eq_getElem_cons h, ← getD_at h 0]; rfl

end Go.Vl

namespace Go.Vl
set_option linter.unusedVariables false
set_option linter.unusedSimpArgs false
open Go.Proofs

/- The base with whose layout a class goes on, as it is told. -/
theorem bbF_spec {b s : List (List Int)} : ∀ (r : List Int) (best : Int),
    (∀ x ∈ best :: r, ∀ y ∈ best :: r, solM b s x.toNat ∈ abvR b (solM b s y.toNat) ∨ solM b s y.toNat ∈ abvR b (solM b s x.toNat)) →
    ∃ i, i < (best :: r).length ∧ (best :: r).getD i 0 = bbF b s best r ∧ (∀ y ∈ best :: r, solM b s y.toNat ∈ abvR b (solM b s (bbF b s best r).toNat)) ∧ ∀ j, j < i → solM b s ((best :: r).getD j 0).toNat ≠ solM b s (bbF b s best r).toNat
  | [], best, h => ⟨0, by simp, rfl, fun y hy => by
      rw [List.mem_singleton.1 hy]
      show solM b s best.toNat ∈ abvR b (solM b s best.toNat)
      rcases h best List.mem_cons_self best List.mem_cons_self with h | h <;> exact h, fun j hj => by omega⟩
  | d :: r, best, h => by
    have hb : best ∈ best :: d :: r := List.mem_cons_self
    have hd : d ∈ best :: d :: r := List.mem_cons_of_mem _ List.mem_cons_self
    unfold bbF
    by_cases hc : solM b s best.toNat ≠ solM b s d.toNat ∧ solM b s best.toNat ∈ abvR b (solM b s d.toNat)
    · rw [if_pos hc]
      obtain ⟨i, h1, h2, h3, h4⟩ := bbF_spec r d (fun x hx y hy => h x (List.mem_cons_of_mem _ hx) y (List.mem_cons_of_mem _ hy))
      refine ⟨i + 1, by simp at h1 ⊢; omega, by rw [← h2]; rfl, fun y hy => ?_, fun j hj => ?_⟩
      · rcases List.mem_cons.1 hy with rfl | hy
        · exact abvR_trans (h3 d List.mem_cons_self) hc.2
        · exact h3 y hy
      · cases j with
        | zero =>
          intro e
          have e : solM b s best.toNat = solM b s (bbF b s d r).toNat := e
          have h5 := h3 d List.mem_cons_self
          rw [← e] at h5
          exact hc.1 (abvR_anti h5 hc.2).symm
        | succ j => exact h4 j (by omega)
    · rw [if_neg hc]
      have hdb : solM b s d.toNat ∈ abvR b (solM b s best.toNat) := by
        rcases h d hd best hb with h1 | h1
        · exact h1
        · by_cases he : solM b s best.toNat = solM b s d.toNat
          · rw [← he] at h1 ⊢; exact h1
          · exact absurd ⟨he, h1⟩ hc
      obtain ⟨i, h1, h2, h3, h4⟩ := bbF_spec r best (fun x hx y hy => h x (by rcases List.mem_cons.1 hx with rfl | hx; exact hb; exact List.mem_cons_of_mem _ (List.mem_cons_of_mem _ hx)) y (by rcases List.mem_cons.1 hy with rfl | hy; exact hb; exact List.mem_cons_of_mem _ (List.mem_cons_of_mem _ hy)))
      have hall : ∀ y ∈ best :: d :: r, solM b s y.toNat ∈ abvR b (solM b s (bbF b s best r).toNat) := by
        intro y hy
        rcases List.mem_cons.1 hy with rfl | hy
        · exact h3 _ List.mem_cons_self
        · rcases List.mem_cons.1 hy with rfl | hy
          · exact abvR_trans (h3 _ List.mem_cons_self) hdb
          · exact h3 y (List.mem_cons_of_mem _ hy)
      cases i with
      | zero => exact ⟨0, by simp, h2, hall, fun j hj => by omega⟩
      | succ i =>
        refine ⟨i + 2, by simp at h1 ⊢; omega, by rw [← h2]; rfl, hall, fun j hj => ?_⟩
        have h5 : solM b s best.toNat ≠ solM b s (bbF b s best r).toNat := h4 0 (by omega)
        cases j with
        | zero => exact h5
        | succ j =>
          cases j with
          | zero =>
            intro e
            have e : solM b s d.toNat = solM b s (bbF b s best r).toNat := e
            rw [e] at hdb
            exact h5 (abvR_anti (h3 _ List.mem_cons_self) hdb)
          | succ j => exact h4 (j+1) (by omega)
theorem fbaF_first {b : List (List Int)} {all : List Int} : ∀ (l : List Int) (i : Int) (j : Nat), j < l.length → (∀ y ∈ all, y ∈ abvR b (l.getD j 0)) → fbaF b all l i ≤ i + j
  | [], i, j, h, _ => by simp at h
  | a :: r, i, j, h, h2 => by
    unfold fbaF
    split
    · omega
    · rename_i h3
      cases j with
      | zero => exact absurd h2 h3
      | succ j =>
        have := fbaF_first (b := b) (all := all) r (i+1) j (by simp at h; omega) h2
        omega
theorem bb_bst {b s : List (List Int)} (hs : VS b s) {c : Nat} (hc : c < b.length) (hc0 : c ≠ 0) (h : 0 ≤ solM b s c) : bbF b s ((b.getD c []).getD 0 0) ((b.getD c []).drop 1) = bstM b s c := by
  obtain ⟨h1, h2⟩ := bst_spec hs hc hc0
  have hb := h1.2 h
  obtain ⟨g1, g2, g3, g4⟩ := h2 hb
  obtain ⟨f1, f2⟩ := fba_sol hs hc hc0
  have hf := f1.2 g4
  obtain ⟨f3, f4⟩ := f2 hf
  obtain ⟨p1, p2, p3⟩ := solF_pos (solL b s c) 0 (abvR_self hs.1 (by omega) (by omega)) g4
  have hne : 0 < (b.getD c []).length := by omega
  have hl : (b.getD c []).getD 0 0 :: (b.getD c []).drop 1 = b.getD c [] := by
    cases hb2 : b.getD c [] with
    | nil => rw [hb2] at hne; simp at hne
    | cons x r => rfl
  have hmem : ∀ x ∈ b.getD c [], solM b s x.toNat ∈ solL b s c := fun x hx => solL_mem.2 ⟨x, hx, rfl⟩
  have hcl : ∀ t ∈ solL b s c, t = 0 ∨ hasS s t := by
    intro t ht
    obtain ⟨d, hd, e, q1, q2, g⟩ := solL_pos hs hc ht (abvR_mem (p3 t ht)).2.1
    exact g.slots
  have hm := solL_mem.2 ⟨_, g1, g3⟩
  obtain ⟨d, hd, e, q1, q2, g⟩ := solL_pos hs hc hm g4
  have hcmp : ∀ x ∈ b.getD c [], ∀ y ∈ b.getD c [], solM b s x.toNat ∈ abvR b (solM b s y.toNat) ∨ solM b s y.toNat ∈ abvR b (solM b s x.toNat) := by
    intro x hx y hy
    have hx1 := p3 _ (hmem x hx)
    have hy1 := p3 _ (hmem y hy)
    have hx2 := abvR_mem hx1
    have hy2 := abvR_mem hy1
    rcases hcl _ (hmem x hx) with h5 | h5
    · left; rw [h5]; exact abvR_root hs.1 hy2.2.1 (by omega)
    · rcases hcl _ (hmem y hy) with h6 | h6
      · right; rw [h6]; exact abvR_root hs.1 hx2.2.1 (by omega)
      · exact g.line _ (abvR_trans g.above hx1) _ (abvR_trans g.above hy1) h5 h6
  have hsp := bbF_spec (b := b) (s := s) ((b.getD c []).drop 1) ((b.getD c []).getD 0 0)
  rw [hl] at hsp
  obtain ⟨i, i1, i2, i3, i4⟩ := hsp hcmp
  generalize hx : bbF b s ((b.getD c []).getD 0 0) ((b.getD c []).drop 1) = x at i2 i3 i4
  have hxr : solM b s x.toNat = solF b 0 (solL b s c) := by
    have h7 := i3 _ g1
    rw [g3] at h7
    have h8 := p3 _ (hmem x (by rw [← i2]; exact getD_mem i1 0))
    exact abvR_anti h8 h7
  have hle : (fba b (solL b s c)).toNat ≤ i := by
    have := fbaF_first (b := b) (all := solL b s c) (solL b s c) 0 i (by rw [solL_len]; exact i1) (by rw [solL_getD i1, i2, hxr]; exact p3)
    have e2 : fba b (solL b s c) = fbaF b (solL b s c) (solL b s c) 0 := rfl
    omega
  have hge : ¬ (fba b (solL b s c)).toNat < i := by
    intro hlt
    refine i4 _ hlt ?_
    rw [hxr, ← f4, solL_getD (by omega)]
  unfold bstM
  rw [if_neg hc0, if_neg (by omega), show (fba b (solL b s c)).toNat = i by omega, i2]
/-- Layouts are told exactly on lines. -/
theorem sol_line {b s : List (List Int)} (hs : VS b s) : ∀ c : Nat, c < b.length → ((0 ≤ solM b s c) ↔ ∀ x ∈ abvR b c, ∀ y ∈ abvR b c, hasS s x → hasS s y → x ∈ abvR b y ∨ y ∈ abvR b x) := by
  intro c
  induction c using Nat.strongRecOn with
  | ind c ih =>
    intro hc
    refine ⟨fun h => (solM_G hs hc h).line, fun hl => ?_⟩
    have hp : ∀ d ∈ b.getD c [], 0 ≤ solM b s d.toNat ∧ ((d.toNat : Nat) : Int) = d ∧ SolG b s d.toNat (solM b s d.toNat) := by
      intro d hd
      have hb := hs.1.bd hd
      have h1 : 0 ≤ solM b s d.toNat := (ih d.toNat (by omega) (by omega)).2 fun x hx y hy h3 h4 => by
        rw [show ((d.toNat : Nat) : Int) = d by omega] at hx hy
        exact hl x (abvR_up hs.1 hc hd hx) y (abvR_up hs.1 hc hd hy) h3 h4
      exact ⟨h1, by omega, solM_G hs (by omega) h1⟩
    have h2 : 0 ≤ solF b 0 (solL b s c) := by
      refine solF_line hs hc (fun t ht => ?_) (fun x hx y hy h3 h4 => ?_)
      · obtain ⟨d, hd, e⟩ := solL_mem.1 ht
        have := (hp d hd).1
        omega
      · obtain ⟨d, hd, e⟩ := solL_mem.1 hx
        obtain ⟨d2, hd2, e2⟩ := solL_mem.1 hy
        obtain ⟨a1, a2, a3⟩ := hp d hd
        obtain ⟨b1, b2, b3⟩ := hp d2 hd2
        have h5 := a3.above
        have h6 := b3.above
        rw [a2, e] at h5
        rw [b2, e2] at h6
        exact hl x (abvR_up hs.1 hc hd h5) y (abvR_up hs.1 hc hd2 h6) h3 h4
    rw [solM_eq hs.1, if_neg (by omega)]
    split <;> omega

end Go.Vl

namespace Go.Vl
set_option linter.unusedVariables false
set_option linter.unusedSimpArgs false
open Go.Proofs

theorem solM_lt {b s : List (List Int)} (hs : VS b s) {c : Nat} (hc : c < b.length) : solM b s c < b.length := by
  rcases ilt_ge (solM b s c) 0 with h | h
  · omega
  · have := abvR_mem (solM_G hs hc h).above
    omega
theorem solF_step {b s : List (List Int)} {c k : Nat} {best : Int} (h : k < (b.getD c []).length) : solF b best ((solL b s c).drop k) = if solM b s ((b.getD c []).getD k 0).toNat < 0 then -1 else if best ∈ abvR b (solM b s ((b.getD c []).getD k 0).toNat) then solF b (solM b s ((b.getD c []).getD k 0).toNat) ((solL b s c).drop (k+1)) else if solM b s ((b.getD c []).getD k 0).toNat ∈ abvR b best then solF b best ((solL b s c).drop (k+1)) else -1 := by
  rw [solF_drop (by rw [solL_len]; exact h), solL_getD h]
theorem solF_end {b s : List (List Int)} {c k : Nat} {best : Int} (h : (b.getD c []).length ≤ k) : solF b best ((solL b s c).drop k) = best := by
  rw [List.drop_of_length_le (by rw [solL_len]; exact h)]; rfl
theorem solM_neg {b s : List (List Int)} (hs : VS b s) {c : Nat} (h : solF b 0 (solL b s c) = -1) : -1 = solM b s c := by
  rw [solM_eq hs.1, h]; rfl
theorem solM_own {b s : List (List Int)} (hs : VS b s) {c : Nat} {best : Int} (h : solF b 0 (solL b s c) = best) (hb : 0 ≤ best) (h2 : 0 < (s.getD c []).length) : (c : Int) = solM b s c := by
  rw [solM_eq hs.1, h, if_neg (by omega), if_neg (by intro e; rw [e] at h2; simp at h2)]
theorem solM_best {b s : List (List Int)} (hs : VS b s) {c : Nat} {best : Int} (h : solF b 0 (solL b s c) = best) (hb : 0 ≤ best) (h2 : ¬ 0 < (s.getD c []).length) : best = solM b s c := by
  rw [solM_eq hs.1, h, if_neg (by omega), if_pos (List.eq_nil_of_length_eq_zero (by omega))]
def solR (b s : List (List Int)) (c : Int) : Int := if VS b s ∧ 0 ≤ c ∧ c < b.length then solM b s c.toNat else -1
theorem solR_no {b s : List (List Int)} {c : Int} (h : ¬ (VS b s ∧ 0 ≤ c ∧ c < b.length)) : solR b s c = -1 := if_neg h
theorem solR_of {b s : List (List Int)} {n : Nat} (h : VS b s) (hn : n < b.length) : solR b s n = solM b s n := by
  unfold solR; rw [if_pos ⟨h, by omega, by omega⟩]; rfl
/-- The first base that is apart from one of those before it. -/
def clI (b : List (List Int)) (y : Int) : List Int → Int → Int
  | [], _ => -1
  | a :: r, i => if (0 ≤ a ∧ 0 ≤ y) ∧ ¬ y ∈ abvR b a ∧ ¬ a ∈ abvR b y then i else clI b y r (i+1)
def clK (b : List (List Int)) (L : List Int) : List Int → Nat → Int × Int
  | [], _ => (-1, -1)
  | y :: r, k => if 0 ≤ clI b y (L.take k) 0 then (clI b y (L.take k) 0, (k : Int)) else clK b L r (k+1)
theorem clI_drop {b : List (List Int)} {y : Int} {L : List Int} {k j : Nat} (h : j < k) (hk : k ≤ L.length) : clI b y ((L.take k).drop j) j = if (0 ≤ L.getD j 0 ∧ 0 ≤ y) ∧ ¬ y ∈ abvR b (L.getD j 0) ∧ ¬ L.getD j 0 ∈ abvR b y then (j : Int) else clI b y ((L.take k).drop (j+1)) (j+1) := by
  have hl : j < (L.take k).length := by rw [List.length_take]; omega
  have e : L.getD j 0 = (L.take k)[j] := by rw [List.getElem_take]; exact getD_at (by omega) 0
  rw [List.drop_eq_getElem_cons hl, e]; rfl
theorem clI_end {b : List (List Int)} {y : Int} {L : List Int} {k j : Nat} (h : k ≤ j) : clI b y ((L.take k).drop j) j = -1 := by
  rw [List.drop_of_length_le (by rw [List.length_take]; omega)]; rfl
theorem clK_drop {b : List (List Int)} {L : List Int} {k : Nat} (h : k < L.length) : clK b L (L.drop k) k = if 0 ≤ clI b (L.getD k 0) (L.take k) 0 then (clI b (L.getD k 0) (L.take k) 0, (k : Int)) else clK b L (L.drop (k+1)) (k+1) := by
  rw [List.drop_eq_getElem_cons h, ← getD_at h 0]; rfl
theorem clK_end {b : List (List Int)} {L : List Int} {k : Nat} (h : L.length ≤ k) : clK b L (L.drop k) k = (-1, -1) := by
  rw [List.drop_of_length_le h]; rfl
def clR (b s : List (List Int)) (c : Int) : Int × Int := if VS b s ∧ 0 ≤ c ∧ c < b.length then clK b (solL b s c.toNat) (solL b s c.toNat) 0 else (-1, -1)
theorem clR_no {b s : List (List Int)} {c : Int} (h : ¬ (VS b s ∧ 0 ≤ c ∧ c < b.length)) : clR b s c = (-1, -1) := if_neg h
theorem clR_of {b s : List (List Int)} {n : Nat} (h : VS b s) (hn : n < b.length) : clR b s n = clK b (solL b s n) (solL b s n) 0 := by
  unfold clR; rw [if_pos ⟨h, by omega, by omega⟩]; rfl
def bbR (b s : List (List Int)) (c : Int) : Int := if VS b s ∧ 0 ≤ c ∧ c < b.length then bstM b s c.toNat else -1
theorem bbR_no {b s : List (List Int)} {c : Int} (h : ¬ (VS b s ∧ 0 ≤ c ∧ c < b.length)) : bbR b s c = -1 := if_neg h
theorem bbR_of {b s : List (List Int)} {n : Nat} (h : VS b s) (hn : n < b.length) : bbR b s n = bstM b s n := by
  unfold bbR; rw [if_pos ⟨h, by omega, by omega⟩]; rfl
theorem bstM_neg {b s : List (List Int)} (hs : VS b s) {n : Nat} (hn : n < b.length) (h : solM b s n < 0) : bstM b s n = -1 := by
  by_cases h0 : n = 0
  · unfold bstM; rw [if_pos h0]
  · have := (bst_spec hs hn h0).1
    unfold bstM at this ⊢
    rw [if_neg h0] at this ⊢
    by_cases h1 : fba b (solL b s n) < 0
    · rw [if_pos h1]
    · rw [if_neg h1] at this
      have h2 := hs.1.bd (getD_mem (show (fba b (solL b s n)).toNat < (b.getD n []).length by
        have := (fba_sol hs hn h0).2 (by omega); omega) 0)
      omega
def becP (b s : List (List Int)) (x y : Int) : Prop := 0 ≤ solR b s x ∧ solR b s x = solR b s y
instance {b s : List (List Int)} {x y : Int} : Decidable (becP b s x y) := by unfold becP; infer_instance
theorem above_satR {nl0 : Option Bool} {bases : List (List Int)} {z : Int} (hbases : bases.length < 1000000000) (hlbases : ∀ l ∈ bases, l.length < 1000000000) (hv : VB bases) (h0 : 0 ≤ z) (h1 : z < bases.length) :
    SatAt Try.prog 45 [.pv false (.sl nl0 1 (bases.map ints)), i64 z] [] (fun res rows => ∃ nl, res = [.ref 0] ∧ rows = [Row.own 3 1 nl true ((abvR bases z).map intP)]) := by
  obtain ⟨n, rfl⟩ := Int.eq_ofNat_of_zero_le h0
  rw [abvR_of hv (by omega)]
  exact above_sat hbases hlbases hv (by omega)


theorem validField_sat {nl0 : Option Bool} {bases : List (List Int)} {nl1 : Option Bool} {slots : List (List Int)} {c : Int} (hbases : bases.length < 1000000000) (hlbases : ∀ l ∈ bases, l.length < 1000000000) (hslots : slots.length < 1000000000) (hlslots : ∀ l ∈ slots, l.length < 1000000000)  : SatAt Try.prog 39 [.pv false (.sl nl0 1 (bases.map ints)), .pv false (.sl nl1 1 (slots.map ints)), i64 c] [] (fun res rows => res = [bo (decide (VS bases slots ∧ 0 ≤ c ∧ c < bases.length))] ∧ rows = []) := by
  refine sat_entry (ts := [6]) Try.func39 rfl rfl (by decide) (Nat.le_of_ble_eq_true rfl) fun C hC => ?_
  rw [Try.ntmps39]
  replace hC : C.nb = 0 := hC
  refine vc_seq fun K1 hK1 => ?_
  refine vc_region ?_
  refine vo_assign_pv rfl rfl ?_
  refine vo_nil ?_
  refine hK1 _ ?_
  refine vc_seq fun K2 hK2 => ?_
  refine vc_region ?_
  refine vo_move_pv rfl rfl ?_
  refine vo_move_pv rfl rfl ?_
  refine vo_call0 Try.func58 rfl rfl rfl rfl (validSlots_sat hbases hlbases hslots hlslots) ?_
  rintro _ _ ⟨rfl, rfl⟩
  refine ⟨rfl, rfl, .inl rfl, ?_⟩
  refine vo_move_pv rfl rfl ?_
  refine vo_split 10 rfl (fun hg1 => ?_) (fun hg1 => ?_)
  · try simp only [decide_eq_true_eq, decide_eq_false_iff_not, beq_iff_eq, bne_iff_ne, beq_eq_false_iff_ne, bne_eq_false_iff_eq, Bool.not_eq_true, Bool.not_eq_false, Bool.not_eq_eq_eq_not, Bool.not_true, Bool.not_false, List.length_map, Int.not_lt, Int.not_le, ne_eq, Decidable.not_not] at hg1
    refine vo_guard_on rfl rfl rfl ?_
    refine vo_move_pv rfl rfl ?_
    refine vo_guard_on rfl rfl rfl ?_
    refine vo_move_pv rfl rfl ?_
    refine vo_guard_on rfl rfl rfl ?_
    refine vo_len_pv rfl rfl Try.underlying23 ?_
    refine vo_guard_on rfl rfl rfl ?_
    refine vo_binI rfl rfl rfl rfl sd ?_
    refine vo_guard_on rfl rfl rfl ?_
    refine vo_call0 Try.func59 rfl rfl rfl rfl inRange_sat ?_
    rintro _ _ ⟨rfl, rfl⟩
    refine ⟨rfl, rfl, .inl rfl, ?_⟩
    refine vo_pick_t rfl rfl ?_
    refine vo_assign_pv rfl rfl ?_
    refine vo_nil ?_
    refine hK2 _ ?_
    refine vc_ret ?_
    change retPv _ _ _ _ _
    refine retPv_mk rfl rfl rfl ⟨?_, rfl⟩
    refine (congrArg (fun b => [bo b]) (?_ : _ = _) : [bo _] = [bo _])
    exact decide_eq_decide.2 ⟨fun h => ⟨hg1, h.1, by have := h.2; simp at this; omega⟩, fun h => ⟨h.2.1, by simp; omega⟩⟩
  · try simp only [decide_eq_true_eq, decide_eq_false_iff_not, beq_iff_eq, bne_iff_ne, beq_eq_false_iff_ne, bne_eq_false_iff_eq, Bool.not_eq_true, Bool.not_eq_false, Bool.not_eq_eq_eq_not, Bool.not_true, Bool.not_false, List.length_map, Int.not_lt, Int.not_le, ne_eq, Decidable.not_not] at hg1
    refine vo_guard_off rfl rfl rfl rfl rfl ?_
    refine vo_guard_off rfl rfl rfl rfl rfl ?_
    refine vo_guard_off rfl rfl rfl rfl rfl ?_
    refine vo_guard_off rfl rfl rfl rfl rfl ?_
    refine vo_guard_off rfl rfl rfl rfl rfl ?_
    refine vo_pick_f rfl rfl ?_
    refine vo_assign_pv rfl rfl ?_
    refine vo_nil ?_
    refine hK2 _ ?_
    refine vc_ret ?_
    change retPv _ _ _ _ _
    refine retPv_mk rfl rfl rfl ⟨?_, rfl⟩
    refine (congrArg (fun b => [bo b]) (?_ : _ = _) : [bo _] = [bo _])
    exact bF fun h => hg1 h.1


theorem hasSlots_sat {nl0 : Option Bool} {bases : List (List Int)} {nl1 : Option Bool} {slots : List (List Int)} {c : Int} (hbases : bases.length < 1000000000) (hlbases : ∀ l ∈ bases, l.length < 1000000000) (hslots : slots.length < 1000000000) (hlslots : ∀ l ∈ slots, l.length < 1000000000)  : SatAt Try.prog 48 [.pv false (.sl nl0 1 (bases.map ints)), .pv false (.sl nl1 1 (slots.map ints)), i64 c] [] (fun res rows => res = [bo (decide (VS bases slots ∧ 0 ≤ c ∧ c < bases.length))] ∧ rows = []) := by
  refine sat_entry (ts := [6]) Try.func48 rfl rfl (by decide) (Nat.le_of_ble_eq_true rfl) fun C hC => ?_
  rw [Try.ntmps48]
  replace hC : C.nb = 0 := hC
  refine vc_seq fun K1 hK1 => ?_
  refine vc_region ?_
  refine vo_assign_pv rfl rfl ?_
  refine vo_nil ?_
  refine hK1 _ ?_
  refine vc_seq fun K2 hK2 => ?_
  refine vc_region ?_
  refine vo_move_pv rfl rfl ?_
  refine vo_move_pv rfl rfl ?_
  refine vo_call0 Try.func30 rfl rfl rfl rfl (implValidSlots_sat hbases hlbases hslots hlslots) ?_
  rintro _ _ ⟨rfl, rfl⟩
  refine ⟨rfl, rfl, .inl rfl, ?_⟩
  refine vo_move_pv rfl rfl ?_
  refine vo_split 10 rfl (fun hg1 => ?_) (fun hg1 => ?_)
  · try simp only [decide_eq_true_eq, decide_eq_false_iff_not, beq_iff_eq, bne_iff_ne, beq_eq_false_iff_ne, bne_eq_false_iff_eq, Bool.not_eq_true, Bool.not_eq_false, Bool.not_eq_eq_eq_not, Bool.not_true, Bool.not_false, List.length_map, Int.not_lt, Int.not_le, ne_eq, Decidable.not_not] at hg1
    refine vo_guard_on rfl rfl rfl ?_
    refine vo_move_pv rfl rfl ?_
    refine vo_guard_on rfl rfl rfl ?_
    refine vo_binI rfl rfl rfl rfl trivial ?_
    refine vo_pick_t rfl rfl ?_
    refine vo_move_pv rfl rfl ?_
    refine vo_split 14 rfl (fun hg2 => ?_) (fun hg2 => ?_)
    · try simp only [decide_eq_true_eq, decide_eq_false_iff_not, beq_iff_eq, bne_iff_ne, beq_eq_false_iff_ne, bne_eq_false_iff_eq, Bool.not_eq_true, Bool.not_eq_false, Bool.not_eq_eq_eq_not, Bool.not_true, Bool.not_false, List.length_map, Int.not_lt, Int.not_le, ne_eq, Decidable.not_not] at hg2
      refine vo_guard_on rfl rfl rfl ?_
      refine vo_move_pv rfl rfl ?_
      refine vo_guard_on rfl rfl rfl ?_
      refine vo_move_pv rfl rfl ?_
      refine vo_guard_on rfl rfl rfl ?_
      refine vo_len_pv rfl rfl Try.underlying23 ?_
      refine vo_guard_on rfl rfl rfl ?_
      refine vo_binI rfl rfl rfl rfl trivial ?_
      refine vo_pick_t rfl rfl ?_
      refine vo_assign_pv rfl rfl ?_
      refine vo_nil ?_
      refine hK2 _ ?_
      refine vc_ret ?_
      change retPv _ _ _ _ _
      refine retPv_mk rfl rfl rfl ⟨?_, rfl⟩
      refine (congrArg (fun b => [bo b]) (?_ : _ = _) : [bo _] = [bo _])
      exact decide_eq_decide.2 ⟨fun h => ⟨hg1, hg2, by simpa using h⟩, fun h => by simpa using h.2.2⟩
    · try simp only [decide_eq_true_eq, decide_eq_false_iff_not, beq_iff_eq, bne_iff_ne, beq_eq_false_iff_ne, bne_eq_false_iff_eq, Bool.not_eq_true, Bool.not_eq_false, Bool.not_eq_eq_eq_not, Bool.not_true, Bool.not_false, List.length_map, Int.not_lt, Int.not_le, ne_eq, Decidable.not_not] at hg2
      refine vo_guard_off rfl rfl rfl rfl rfl ?_
      refine vo_guard_off rfl rfl rfl rfl rfl ?_
      refine vo_guard_off rfl rfl rfl rfl rfl ?_
      refine vo_guard_off rfl rfl rfl rfl rfl ?_
      refine vo_pick_f rfl rfl ?_
      refine vo_assign_pv rfl rfl ?_
      refine vo_nil ?_
      refine hK2 _ ?_
      refine vc_ret ?_
      change retPv _ _ _ _ _
      refine retPv_mk rfl rfl rfl ⟨?_, rfl⟩
      refine (congrArg (fun b => [bo b]) (?_ : _ = _) : [bo _] = [bo _])
      exact bF fun h => by have := h.2.1; omega
  · try simp only [decide_eq_true_eq, decide_eq_false_iff_not, beq_iff_eq, bne_iff_ne, beq_eq_false_iff_ne, bne_eq_false_iff_eq, Bool.not_eq_true, Bool.not_eq_false, Bool.not_eq_eq_eq_not, Bool.not_true, Bool.not_false, List.length_map, Int.not_lt, Int.not_le, ne_eq, Decidable.not_not] at hg1
    refine vo_guard_off rfl rfl rfl rfl rfl ?_
    refine vo_guard_off rfl rfl rfl rfl rfl ?_
    refine vo_pick_f rfl rfl ?_
    refine vo_move_pv rfl rfl ?_
    refine vo_guard_off rfl rfl rfl rfl rfl ?_
    refine vo_guard_off rfl rfl rfl rfl rfl ?_
    refine vo_guard_off rfl rfl rfl rfl rfl ?_
    refine vo_guard_off rfl rfl rfl rfl rfl ?_
    refine vo_pick_f rfl rfl ?_
    refine vo_assign_pv rfl rfl ?_
    refine vo_nil ?_
    refine hK2 _ ?_
    refine vc_ret ?_
    change retPv _ _ _ _ _
    refine retPv_mk rfl rfl rfl ⟨?_, rfl⟩
    refine (congrArg (fun b => [bo b]) (?_ : _ = _) : [bo _] = [bo _])
    exact bF fun h => hg1 h.1


theorem solid_step {nl0 : Option Bool} {bases : List (List Int)} {nl1 : Option Bool} {slots : List (List Int)} {c : Nat} (hbases : bases.length < 1000000000) (hlbases : ∀ l ∈ bases, l.length < 1000000000) (hslots : slots.length < 1000000000) (hlslots : ∀ l ∈ slots, l.length < 1000000000) (hs : VS bases slots) (hc : c < bases.length) (ih : ∀ x : Int, 0 ≤ x → x < c → SatAt Try.prog 40 [.pv false (.sl nl0 1 (bases.map ints)), .pv false (.sl nl1 1 (slots.map ints)), i64 x] [] (fun res rows => res = [i64 (solM bases slots x.toNat)] ∧ rows = [])) : SatAt Try.prog 40 [.pv false (.sl nl0 1 (bases.map ints)), .pv false (.sl nl1 1 (slots.map ints)), i64 c] [] (fun res rows => res = [i64 (solM bases slots c)] ∧ rows = []) := by
  refine sat_entry (ts := [6]) Try.func40 rfl rfl (by decide) (Nat.le_of_ble_eq_true rfl) fun C hC => ?_
  rw [Try.ntmps40]
  replace hC : C.nb = 0 := hC
  refine vc_seq fun K1 hK1 => ?_
  refine vc_region ?_
  refine vo_assign_pv rfl rfl ?_
  refine vo_nil ?_
  refine hK1 _ ?_
  refine vc_seq fun K2 hK2 => ?_
  refine vc_region ?_
  refine vo_assign_pv rfl rfl ?_
  refine vo_nil ?_
  refine hK2 _ ?_
  refine vc_seq fun K3 hK3 => ?_
  refine vc_seq fun K4 hK4 => ?_
  refine vc_region ?_
  refine vo_assign_pv rfl rfl ?_
  refine vo_nil ?_
  refine hK4 _ ?_
  refine vc_block ?_
  refine vc_stN ?_
  refine vc_loopF [0, 1, 2] [7, 8] [.pv false (.sl nl0 1 (bases.map ints)), .pv false (.sl nl1 1 (slots.map ints)), i64 c] _ (fun mz vs => ∃ (k : Nat) (best : Int), mz = (bases.getD c []).length - k ∧ (k ≤ (bases.getD c []).length) ∧ (solF bases 0 (solL bases slots c) = solF bases best ((solL bases slots c).drop k)) ∧ (0 ≤ best ∧ best < bases.length) ∧ vs = [i64 best, i64 k]) ((bases.getD c []).length) rfl rfl (le_len hC rfl) ⟨rfl, rfl, rfl⟩ ⟨0, 0, rfl, Nat.zero_le _, rfl, (by omega), rfl⟩ ?_
  rintro mz vs - ⟨k, best, rfl, hk, hf, hbb, rfl⟩
  refine vc_stN ?_
  have hL4 := lens hlbases c (by omega)
  refine vc_seq fun K5 hK5 => ?_
  refine vc_seq fun K6 hK6 => ?_
  refine vc_region ?_
  refine vo_move_pv rfl rfl ?_
  refine vo_move_pv rfl rfl ?_
  refine vo_move_pv rfl rfl ?_
  refine vo_index_pv (.sl none 1 []) rfl rfl rfl E23.und inf30 sz30 sd sd ?_
  simp only [Int.toNat_natCast, Int.toNat_zero, getD_ints, getD_intss, getD_bools, getD_bytes, PV.cells]
  refine vo_load_adr rfl rfl Try.underlying30 rfl ?_
  refine vo_len_pv rfl rfl Try.underlying30 ?_
  refine vo_binI rfl rfl rfl rfl trivial ?_
  refine vo_nil ?_
  refine hK6 _ ?_
  refine vc_cond rfl (fun hc1 => ?_) (fun hc1 => ?_)
  · try simp only [decide_eq_true_eq, decide_eq_false_iff_not, beq_iff_eq, bne_iff_ne, beq_eq_false_iff_ne, bne_eq_false_iff_eq, Bool.not_eq_true, Bool.not_eq_false, Bool.not_eq_eq_eq_not, Bool.not_true, Bool.not_false, List.length_map, Int.not_lt, Int.not_le, ne_eq, Decidable.not_not] at hc1
    have hm := getD_mem (show k < (bases.getD c []).length by omega) 0
    have hb := hs.1.bd hm
    have hsl := solM_lt hs (show ((bases.getD c []).getD k 0).toNat < bases.length by omega)
    have hst := solF_step (s := slots) (best := best) (show k < (bases.getD c []).length by omega)
    refine vc_skip ?_
    refine hK5 _ ?_
    refine vc_seq fun K7 hK7 => ?_
    refine vc_block ?_
    refine vc_seq fun K8 hK8 => ?_
    refine vc_region ?_
    refine vo_move_pv rfl rfl ?_
    refine vo_move_pv rfl rfl ?_
    refine vo_move_pv rfl rfl ?_
    refine vo_move_pv rfl rfl ?_
    refine vo_index_pv (.sl none 1 []) rfl rfl rfl E23.und inf30 sz30 sd sd ?_
    simp only [Int.toNat_natCast, Int.toNat_zero, getD_ints, getD_intss, getD_bools, getD_bytes, PV.cells]
    refine vo_load_adr rfl rfl Try.underlying30 rfl ?_
    refine vo_move_pv rfl rfl ?_
    refine vo_index_pv (.int .i64 0) rfl rfl rfl E30.und inf3 sz3 sd sd ?_
    simp only [Int.toNat_natCast, Int.toNat_zero, getD_ints, getD_intss, getD_bools, getD_bytes, PV.cells]
    refine vo_load_adr rfl rfl Try.underlying3 rfl ?_
    refine vo_call0 Try.func40 rfl rfl rfl rfl (ih _ hb.1 hb.2) ?_
    rintro _ _ ⟨rfl, rfl⟩
    refine ⟨rfl, rfl, .inl rfl, ?_⟩
    refine vo_assign_pv rfl rfl ?_
    refine vo_nil ?_
    refine hK8 _ ?_
    refine vc_seq fun K9 hK9 => ?_
    refine vc_seq fun K10 hK10 => ?_
    refine vc_region ?_
    refine vo_move_pv rfl rfl ?_
    refine vo_binI rfl rfl rfl rfl trivial ?_
    refine vo_nil ?_
    refine hK10 _ ?_
    refine vc_cond rfl (fun hc2 => ?_) (fun hc2 => ?_)
    · try simp only [decide_eq_true_eq, decide_eq_false_iff_not, beq_iff_eq, bne_iff_ne, beq_eq_false_iff_ne, bne_eq_false_iff_eq, Bool.not_eq_true, Bool.not_eq_false, Bool.not_eq_eq_eq_not, Bool.not_true, Bool.not_false, List.length_map, Int.not_lt, Int.not_le, ne_eq, Decidable.not_not] at hc2
      refine vc_seq fun K11 hK11 => ?_
      refine vc_region ?_
      refine vo_assign_pv rfl rfl ?_
      refine vo_nil ?_
      refine hK11 _ ?_
      refine vc_ret ?_
      change retPv _ _ _ _ _
      refine retPv_mk rfl rfl rfl ⟨?_, rfl⟩
      refine (congrArg (fun b => [i64 b]) (?_ : _ = _) : [i64 _] = [i64 _])
      exact solM_neg hs (by rw [hf, hst, if_pos (by omega)])
    · try simp only [decide_eq_true_eq, decide_eq_false_iff_not, beq_iff_eq, bne_iff_ne, beq_eq_false_iff_ne, bne_eq_false_iff_eq, Bool.not_eq_true, Bool.not_eq_false, Bool.not_eq_eq_eq_not, Bool.not_true, Bool.not_false, List.length_map, Int.not_lt, Int.not_le, ne_eq, Decidable.not_not] at hc2
      refine vc_skip ?_
      refine hK9 _ ?_
      refine vc_seq fun K12 hK12 => ?_
      refine vc_region ?_
      refine vo_move_pv rfl rfl ?_
      refine vo_move_pv rfl rfl ?_
      refine vo_call [] Try.func45 rfl rfl rfl rfl rfl rfl rfl (above_satR (z := (solM bases slots ((bases.getD c []).getD k 0).toNat)) hbases hlbases hs.1 (by omega) (by omega)) ?_
      rintro _ _ ⟨nl9, rfl, rfl⟩
      refine ⟨Nat.le_of_ble_eq_true rfl, ⟨rfl, rfl, rfl⟩, .inl rfl, ?_⟩
      refine vo_stN ?_
      refine vo_move_pv rfl rfl ?_
      refine vo_call0 Try.func44 rfl rfl rfl rfl (placeIn_sat (list := abvR bases (solM bases slots ((bases.getD c []).getD k 0).toNat)) (n := best) (abvR_len hbases)) ?_
      rintro _ _ ⟨rfl, rfl⟩
      refine ⟨rfl, rfl, .inr rfl, ?_⟩
      refine vo_binI rfl rfl rfl rfl trivial ?_
      refine vo_nil ?_
      refine hK12 _ ?_
      refine vc_cond rfl (fun hc3 => ?_) (fun hc3 => ?_)
      · try simp only [decide_eq_true_eq, decide_eq_false_iff_not, beq_iff_eq, bne_iff_ne, beq_eq_false_iff_ne, bne_eq_false_iff_eq, Bool.not_eq_true, Bool.not_eq_false, Bool.not_eq_eq_eq_not, Bool.not_true, Bool.not_false, List.length_map, Int.not_lt, Int.not_le, ne_eq, Decidable.not_not] at hc3
        refine vc_region ?_
        refine vo_move_pv rfl rfl ?_
        refine vo_assign_pv rfl rfl ?_
        refine vo_nil ?_
        refine hK7 _ ?_
        refine vc_region ?_
        refine vo_move_pv rfl rfl ?_
        refine vo_binI rfl rfl rfl rfl sd ?_
        refine vo_assign_pv rfl rfl ?_
        refine vo_nil ?_
        change againF _ _ _ _ _ _ _ _ _
        refine againF_mk rfl rfl rfl rfl rfl rfl ⟨_, ?_, k + 1, (solM bases slots ((bases.getD c []).getD k 0).toNat), rfl, ?_, ?_, ?_, rfl⟩
        · omega
        · omega
        · rw [hf, hst, if_neg (by omega), if_pos ((findM_mem (best) (abvR bases (solM bases slots ((bases.getD c []).getD k 0).toNat)) 0 (by omega)).1 (by omega))]
        · omega
      · try simp only [decide_eq_true_eq, decide_eq_false_iff_not, beq_iff_eq, bne_iff_ne, beq_eq_false_iff_ne, bne_eq_false_iff_eq, Bool.not_eq_true, Bool.not_eq_false, Bool.not_eq_eq_eq_not, Bool.not_true, Bool.not_false, List.length_map, Int.not_lt, Int.not_le, ne_eq, Decidable.not_not] at hc3
        refine vc_seq fun K13 hK13 => ?_
        refine vc_region ?_
        refine vo_move_pv rfl rfl ?_
        refine vo_move_pv rfl rfl ?_
        refine vo_call [] Try.func45 rfl rfl rfl rfl rfl rfl rfl (above_satR (z := best) hbases hlbases hs.1 (by omega) (by omega)) ?_
        rintro _ _ ⟨nl9, rfl, rfl⟩
        refine ⟨Nat.le_of_ble_eq_true rfl, ⟨rfl, rfl, rfl⟩, .inl rfl, ?_⟩
        refine vo_stN ?_
        refine vo_move_pv rfl rfl ?_
        refine vo_call0 Try.func44 rfl rfl rfl rfl (placeIn_sat (list := abvR bases best) (n := (solM bases slots ((bases.getD c []).getD k 0).toNat)) (abvR_len hbases)) ?_
        rintro _ _ ⟨rfl, rfl⟩
        refine ⟨rfl, rfl, .inr rfl, ?_⟩
        refine vo_binI rfl rfl rfl rfl trivial ?_
        refine vo_nil ?_
        refine hK13 _ ?_
        refine vc_cond rfl (fun hc4 => ?_) (fun hc4 => ?_)
        · try simp only [decide_eq_true_eq, decide_eq_false_iff_not, beq_iff_eq, bne_iff_ne, beq_eq_false_iff_ne, bne_eq_false_iff_eq, Bool.not_eq_true, Bool.not_eq_false, Bool.not_eq_eq_eq_not, Bool.not_true, Bool.not_false, List.length_map, Int.not_lt, Int.not_le, ne_eq, Decidable.not_not] at hc4
          refine vc_seq fun K14 hK14 => ?_
          refine vc_region ?_
          refine vo_assign_pv rfl rfl ?_
          refine vo_nil ?_
          refine hK14 _ ?_
          refine vc_ret ?_
          change retPv _ _ _ _ _
          refine retPv_mk rfl rfl rfl ⟨?_, rfl⟩
          refine (congrArg (fun b => [i64 b]) (?_ : _ = _) : [i64 _] = [i64 _])
          exact solM_neg hs (by rw [hf, hst, if_neg (by omega), if_neg ((findM_not (best) (abvR bases (solM bases slots ((bases.getD c []).getD k 0).toNat)) 0 (by omega)).1 (by omega)), if_neg ((findM_not ((solM bases slots ((bases.getD c []).getD k 0).toNat)) (abvR bases best) 0 (by omega)).1 (by omega))])
        · try simp only [decide_eq_true_eq, decide_eq_false_iff_not, beq_iff_eq, bne_iff_ne, beq_eq_false_iff_ne, bne_eq_false_iff_eq, Bool.not_eq_true, Bool.not_eq_false, Bool.not_eq_eq_eq_not, Bool.not_true, Bool.not_false, List.length_map, Int.not_lt, Int.not_le, ne_eq, Decidable.not_not] at hc4
          refine vc_skip ?_
          refine hK7 _ ?_
          refine vc_region ?_
          refine vo_move_pv rfl rfl ?_
          refine vo_binI rfl rfl rfl rfl sd ?_
          refine vo_assign_pv rfl rfl ?_
          refine vo_nil ?_
          change againF _ _ _ _ _ _ _ _ _
          refine againF_mk rfl rfl rfl rfl rfl rfl ⟨_, ?_, k + 1, best, rfl, ?_, ?_, ?_, rfl⟩
          · omega
          · omega
          · rw [hf, hst, if_neg (by omega), if_neg ((findM_not (best) (abvR bases (solM bases slots ((bases.getD c []).getD k 0).toNat)) 0 (by omega)).1 (by omega)), if_pos ((findM_mem ((solM bases slots ((bases.getD c []).getD k 0).toNat)) (abvR bases best) 0 (by omega)).1 (by omega))]
          · omega
  · try simp only [decide_eq_true_eq, decide_eq_false_iff_not, beq_iff_eq, bne_iff_ne, beq_eq_false_iff_ne, bne_eq_false_iff_eq, Bool.not_eq_true, Bool.not_eq_false, Bool.not_eq_eq_eq_not, Bool.not_true, Bool.not_false, List.length_map, Int.not_lt, Int.not_le, ne_eq, Decidable.not_not] at hc1
    have hen := solF_end (b := bases) (s := slots) (best := best) (show (bases.getD c []).length ≤ k by omega)
    have hsl2 := hs.2.1
    refine vc_exit ?_
    refine hK3 _ ?_
    refine vc_seq fun K15 hK15 => ?_
    refine vc_seq fun K16 hK16 => ?_
    refine vc_region ?_
    refine vo_move_pv rfl rfl ?_
    refine vo_move_pv rfl rfl ?_
    refine vo_index_pv (.sl none 1 []) rfl rfl rfl E23.und inf30 sz30 sd sd ?_
    simp only [Int.toNat_natCast, Int.toNat_zero, getD_ints, getD_intss, getD_bools, getD_bytes, PV.cells]
    refine vo_load_adr rfl rfl Try.underlying30 rfl ?_
    refine vo_len_pv rfl rfl Try.underlying30 ?_
    refine vo_binI rfl rfl rfl rfl trivial ?_
    refine vo_nil ?_
    refine hK16 _ ?_
    refine vc_cond rfl (fun hc5 => ?_) (fun hc5 => ?_)
    · try simp only [decide_eq_true_eq, decide_eq_false_iff_not, beq_iff_eq, bne_iff_ne, beq_eq_false_iff_ne, bne_eq_false_iff_eq, Bool.not_eq_true, Bool.not_eq_false, Bool.not_eq_eq_eq_not, Bool.not_true, Bool.not_false, List.length_map, Int.not_lt, Int.not_le, ne_eq, Decidable.not_not] at hc5
      refine vc_seq fun K17 hK17 => ?_
      refine vc_region ?_
      refine vo_move_pv rfl rfl ?_
      refine vo_assign_pv rfl rfl ?_
      refine vo_nil ?_
      refine hK17 _ ?_
      refine vc_ret ?_
      change retPv _ _ _ _ _
      refine retPv_mk rfl rfl rfl ⟨?_, rfl⟩
      refine (congrArg (fun b => [i64 b]) (?_ : _ = _) : [i64 _] = [i64 _])
      exact solM_own hs (hf.trans hen) hbb.1 (by omega)
    · try simp only [decide_eq_true_eq, decide_eq_false_iff_not, beq_iff_eq, bne_iff_ne, beq_eq_false_iff_ne, bne_eq_false_iff_eq, Bool.not_eq_true, Bool.not_eq_false, Bool.not_eq_eq_eq_not, Bool.not_true, Bool.not_false, List.length_map, Int.not_lt, Int.not_le, ne_eq, Decidable.not_not] at hc5
      refine vc_skip ?_
      refine hK15 _ ?_
      refine vc_seq fun K18 hK18 => ?_
      refine vc_region ?_
      refine vo_move_pv rfl rfl ?_
      refine vo_assign_pv rfl rfl ?_
      refine vo_nil ?_
      refine hK18 _ ?_
      refine vc_ret ?_
      change retPv _ _ _ _ _
      refine retPv_mk rfl rfl rfl ⟨?_, rfl⟩
      refine (congrArg (fun b => [i64 b]) (?_ : _ = _) : [i64 _] = [i64 _])
      exact solM_best hs (hf.trans hen) hbb.1 (by omega)

theorem solid_satN {nl0 nl1 : Option Bool} {bases slots : List (List Int)} (hbases : bases.length < 1000000000) (hlbases : ∀ l ∈ bases, l.length < 1000000000) (hslots : slots.length < 1000000000) (hlslots : ∀ l ∈ slots, l.length < 1000000000) (hs : VS bases slots) :
    ∀ (n : Nat), n < bases.length → SatAt Try.prog 40 [.pv false (.sl nl0 1 (bases.map ints)), .pv false (.sl nl1 1 (slots.map ints)), i64 n] [] (fun res rows => res = [i64 (solM bases slots n)] ∧ rows = []) := by
  intro n
  induction n using Nat.strongRecOn with
  | ind n ih =>
    intro hn
    refine solid_step hbases hlbases hslots hlslots hs hn fun x h0 h1 => ?_
    obtain ⟨k, rfl⟩ := Int.eq_ofNat_of_zero_le h0
    exact ih k (by omega) (by omega)
theorem solid_sat {nl0 nl1 : Option Bool} {bases slots : List (List Int)} {z : Int} (hbases : bases.length < 1000000000) (hlbases : ∀ l ∈ bases, l.length < 1000000000) (hslots : slots.length < 1000000000) (hlslots : ∀ l ∈ slots, l.length < 1000000000) (hs : VS bases slots) (h0 : 0 ≤ z) (h1 : z < bases.length) :
    SatAt Try.prog 40 [.pv false (.sl nl0 1 (bases.map ints)), .pv false (.sl nl1 1 (slots.map ints)), i64 z] [] (fun res rows => res = [i64 (solM bases slots z.toNat)] ∧ rows = []) := by
  obtain ⟨n, rfl⟩ := Int.eq_ofNat_of_zero_le h0
  exact solid_satN hbases hlbases hslots hlslots hs n (by omega)

end Go.Vl

/- Elements of several cells in a row of the call's own: one cell of them, or a part that is a struct, is read. -/
namespace Go.Vl
set_option linter.unusedVariables false
set_option linter.unusedSimpArgs false
open Go.RowKit

section
variable {P : Program} {C : Ctx} {Q : Go.Exit → St → Prop} {s : St} {ops : Array Oper} {rest : List Oper} {t : Nat} {ty : TypeId} {pos : String} {af : Array Edge}

/-- The cells of an element, as they lie. -/
theorem SimM.elem {m : Nat → MV} {a : Act} {w : World} (hs : SimM C s m a w) {x : Operand} {id R e i o : Nat} {nl : Option Bool} {fr : Bool} {xs : List PV} (hx : getO s.env x = .ptr id e i o) (hrow : s.rows[id]? = some (.own R e nl fr xs)) {p : PV} (hget : xs[i]? = some p) :
    ∃ (b : Nat) (f : Nat → Value), a.eval x = .pointer (some ⟨b, i * e + o, none⟩) ∧ p.fits e ∧ ∀ (j : Nat) (c : PV), p.cells[j]? = some c → w.cell? ⟨b, i * e + j, none⟩ = some (f j) ∧ RP w (Gd C s.rows m w fr) c (f j) := by
  obtain ⟨b, hv, hb, hid⟩ := hs.ptr hx
  have hR := hs.rows id _ hrow
  have hi := (List.getElem?_eq_some_iff.1 hget).1
  generalize hmv : m id = v at *
  cases hR with
  | own v t' e nl fr xs vs hown h1 h2 hw hr =>
    rcases hown.2 with ⟨rfl, hn0⟩ | ⟨g, cap, cur, rfl, _, hh, hle, hmx, hcs, htk⟩
    · omega
    · simp only [MV.of, blk, Option.some.injEq] at hb
      subst hb
      refine ⟨g, fun j => (vs[i * e + j]?).getD undef, hv, hw i p hget, fun j c hc => ?_⟩
      obtain ⟨u, hu, hpu⟩ := hr i p j c hget hc
      refine ⟨?_, by simp only [hu, Option.getD_some]; exact hpu⟩
      simp only [hu, Option.getD_some]; rw [cell_of_row w g _ cur R (0, 0) hh]
      rw [← htk, List.getElem?_take] at hu
      split at hu
      · simpa using hu
      · cases hu

/-- One cell of an element is read. -/
theorem lt_load_ownC {x : Operand} {T id R e i o : Nat} {nl : Option Bool} {fr : Bool} {xs : List PV} {p c d : PV} {D : TypeDesc} (hx : getO s.env x = .ptr id e i o) (hrow : s.rows[id]? = some (.own R e nl fr xs))
    (hT : P.underlying T = some D) (hD : (match D with | .struct _ | .array _ _ => true | _ => false) = false) (hi : i < xs.length) (hp : xs.getD i d = p) (hc : p.cells[o]? = some c) : Lt P C s ⟨some t, .load T x, ty, pos, af, none⟩ (.pv (fr || c.scal) c) := by
  intro m a w hs
  have hget : xs[i]? = some p := by rw [← hp]; simp [List.getD, List.getElem?_eq_getElem hi]
  obtain ⟨b, f, hv, hfit, hcl⟩ := hs.elem hx hrow hget
  obtain ⟨h1, h2⟩ := hcl o c hc
  refine ⟨f o, fun w' hw' => ?_, ?_⟩
  · have hcell := hw'.cell h1
    have hagg : (isAgg T).run P w' = .ok false w' := by
      cases D <;> simp_all [isAgg, run_underlying hT]
    simp [execOp, Instr.loadAt, hv, Instr.sureAddr, loadVar, hagg, load, Sem.run, hcell]
  · cases hsc : c.scal with
    | true => simp only [Bool.or_true]; exact .pv _ _ _ (h2.scal_any hsc)
    | false => simp only [Bool.or_false]; exact .pv _ _ _ h2

theorem vo_load_ownC {x : Operand} {T id R e i o : Nat} {nl : Option Bool} {fr : Bool} {xs : List PV} {p c d : PV} {D : TypeDesc} (ht : Nat.blt t s.n = true) (hx : getO s.env x = .ptr id e i o) (hrow : s.rows[id]? = some (.own R e nl fr xs))
    (hT : P.underlying T = some D) (hD : (match D with | .struct _ | .array _ _ => true | _ => false) = false) (hi : i < xs.length) (hp : xs.getD i d = p) (hc : p.cells[o]? = some c)
    (next : VO P C ops rest Q (s.put t (.pv (fr || c.scal) c))) : VO P C ops (⟨some t, .load T x, ty, pos, af, none⟩ :: rest) Q s :=
  vo_pure ht (lt_load_ownC hx hrow hT hD hi hp hc) next

/-- A struct in an element is read. -/
theorem lt_load_ownS {x : Operand} {T id R e i o n : Nat} {nl : Option Bool} {fr : Bool} {xs : List PV} {p d : PV} {D : TypeDesc} {inf : TypeInfo} (hx : getO s.env x = .ptr id e i o) (hrow : s.rows[id]? = some (.own R e nl fr xs))
    (hT : P.underlying T = some D) (hD : D.isRow = true) (hinf : P.info? T = some inf) (hsz : inf.size = n) (hi : i < xs.length) (hp : xs.getD i d = p) (hle : o + n ≤ p.cells.length) :
    Lt P C s ⟨some t, .load T x, ty, pos, af, none⟩ (.pv fr (.agg ((p.cells.drop o).take n))) := by
  intro m a w hs
  have hget : xs[i]? = some p := by rw [← hp]; simp [List.getD, List.getElem?_eq_getElem hi]
  obtain ⟨b, f, hv, hfit, hcl⟩ := hs.elem hx hrow hget
  have hlen : ((List.range n).map fun j => f (o + j)).length = n := by simp
  refine ⟨.agg ((List.range n).map fun j => f (o + j)).toArray, fun w' hw' => ?_, ?_⟩
  · have := run_loadAt_mid (P := P) w' b (i * e + o) T ((List.range n).map fun j => f (o + j)) D (fun j u hj => ?_) hT hD (by rw [hinf]; simp [hsz])
    · simp [execOp, hv, this]
    · have hjn : j < n := by rw [← hlen]; exact (List.getElem?_eq_some_iff.1 hj).1
      simp [hjn] at hj
      subst hj
      have := (hcl (o + j) _ (List.getElem?_eq_getElem (by omega))).1
      rw [show i * e + o + j = i * e + (o + j) by omega]
      exact hw'.cell this
  · refine .pv _ _ _ (.agg _ _ (by simp; omega) (fun j c hj => ?_) (fun j c u hj hu => ?_))
    · rw [List.getElem?_take] at hj
      split at hj
      · rw [List.getElem?_drop] at hj; exact hfit.2 _ c hj
      · cases hj
    · rw [List.getElem?_take] at hj
      split at hj
      · rename_i hjn
        rw [List.getElem?_drop] at hj
        simp [hjn] at hu
        subst hu
        exact (hcl _ c hj).2
      · cases hj

theorem vo_load_ownS {x : Operand} {T id R e i o n : Nat} {nl : Option Bool} {fr : Bool} {xs : List PV} {p d : PV} {D : TypeDesc} {inf : TypeInfo} (ht : Nat.blt t s.n = true) (hx : getO s.env x = .ptr id e i o) (hrow : s.rows[id]? = some (.own R e nl fr xs))
    (hT : P.underlying T = some D) (hD : D.isRow = true) (hinf : P.info? T = some inf) (hsz : inf.size = n) (hi : i < xs.length) (hp : xs.getD i d = p) (hle : o + n ≤ p.cells.length)
    (next : VO P C ops rest Q (s.put t (.pv fr (.agg ((p.cells.drop o).take n))))) : VO P C ops (⟨some t, .load T x, ty, pos, af, none⟩ :: rest) Q s :=
  vo_pure ht (lt_load_ownS hx hrow hT hD hinf hsz hi hp hle) next
end
end Go.Vl

namespace Go.Vl
set_option linter.unusedVariables false
set_option linter.unusedSimpArgs false
open Go.Proofs

abbrev fldP (x : Int × Int) : PV := .agg [.int .i64 x.1, .int .i64 x.2]
abbrev layP (x : Int × List (Int × Int) × Int) : PV := .agg [.int .i64 x.1, .sl none 2 (x.2.1.map fldP), .int .i64 x.2.2]
def lay (b s : List (List Int)) (k : Nat) : Int × List (Int × Int) × Int := (solM b s k, fldM b s k, bstM b s k)
def layT (b s : List (List Int)) (n : Nat) : List (Int × List (Int × Int) × Int) := (List.range n).map (lay b s)
theorem layT_len (b s : List (List Int)) (n : Nat) : (layT b s n).length = n := by simp [layT]
theorem layT_succ (b s : List (List Int)) (n : Nat) : layT b s (n+1) = layT b s n ++ [lay b s n] := by simp [layT, List.range_succ]
theorem layT_get (b s : List (List Int)) {n k : Nat} (h : k < n) (d : Int × List (Int × Int) × Int) : (layT b s n).getD k d = lay b s k := by
  simp [layT, List.getD, List.getElem?_range h]
theorem getD_lays (L : List (Int × List (Int × Int) × Int)) (k : Nat) : (L.map layP).getD k (layP (0, [], 0)) = layP (L.getD k (0, [], 0)) := by
  simp only [List.getD, List.getElem?_map]
  cases L[k]? <;> rfl
theorem layT_sol {b s : List (List Int)} (hv : VB b) (n : Nat) : ((b.getD n []).map fun x => ((layT b s n).getD x.toNat (0, [], 0)).1) = solL b s n := by
  refine List.map_congr_left fun x hx => ?_
  have := hv.bd hx
  rw [layT_get b s (by omega)]; rfl
theorem map_takeS {f : Int → Int} {l : List Int} {k : Nat} (h : k < l.length) : (l.take k).map f ++ [f (l.getD k 0)] = (l.take (k+1)).map f := by
  rw [List.take_succ_eq_append_getElem h, List.map_append, getD_at h]; rfl
theorem lay_no {b s : List (List Int)} (hs : VS b s) {n : Nat} (hn : n < b.length) (h0 : n ≠ 0) (h : fba b (solL b s n) < 0) : lay b s n = (-1, [], -1) := by
  have h1 : bstM b s n = -1 := by unfold bstM; rw [if_neg h0, if_pos h]
  have h2 := (bst_spec hs hn h0).1
  have h3 := solM_ge hs hn
  have h4 : solM b s n = -1 := by
    rcases ilt_ge (solM b s n) 0 with h5 | h5
    · omega
    · have := h2.2 h5; omega
  unfold lay
  rw [h1, h4, fldM_no (by omega)]
theorem lay_go {b s : List (List Int)} (hs : VS b s) {n : Nat} (hn : n < b.length) (h0 : n ≠ 0) (h : ¬ fba b (solL b s n) < 0) {x : Int} (hx : x = (b.getD n []).getD (fba b (solL b s n)).toNat 0) :
    (0 ≤ x ∧ x < n) ∧ lay b s n = (if s.getD n [] = [] then (lay b s x.toNat).1 else n, (lay b s x.toNat).2.1 ++ (s.getD n []).map (fun m => ((n : Int), m)), x) := by
  have h1 : bstM b s n = x := by unfold bstM; rw [if_neg h0, if_neg h, hx]
  obtain ⟨f1, f2⟩ := fba_sol hs hn h0
  obtain ⟨f3, f4⟩ := f2 (by omega)
  have hb := hs.1.bd (getD_mem (show (fba b (solL b s n)).toNat < (b.getD n []).length by omega) 0)
  rw [← hx] at hb
  obtain ⟨g1, g2, g3, g4⟩ := (bst_spec hs hn h0).2 (by omega)
  rw [h1] at g1 g2 g3
  refine ⟨hb, ?_⟩
  have e := solM_eq hs.1 s n
  rw [if_neg (by omega)] at e
  unfold lay
  simp only
  rw [h1, fldM_eq hs hn (by omega), h1, g3, ← e]
def layR (b s : List (List Int)) (c : Int) : Int × List (Int × Int) × Int := if VS b s ∧ 0 ≤ c ∧ c < b.length then lay b s c.toNat else (-1, [], -1)
theorem layR_no {b s : List (List Int)} {c : Int} (h : ¬ (VS b s ∧ 0 ≤ c ∧ c < b.length)) : layR b s c = (-1, [], -1) := if_neg h
theorem layR_of {b s : List (List Int)} {n : Nat} (h : VS b s) (hn : n < b.length) : layR b s n = lay b s n := by
  unfold layR; rw [if_pos ⟨h, by omega, by omega⟩]; rfl
theorem layR_sol (b s : List (List Int)) (c : Int) : (layR b s c).1 = solR b s c := by unfold layR solR; split <;> rfl
theorem layR_bst (b s : List (List Int)) (c : Int) : (layR b s c).2.2 = bbR b s c := by unfold layR bbR; split <;> rfl
def fldR (b s : List (List Int)) (c : Int) : List (Int × Int) := (layR b s c).2.1
theorem fld_len {b s : List (List Int)} (hs : VS b s) {n : Nat} (hn : n < b.length) : (fldM b s n).length ≤ 48 := by
  have := fldM_len hs n hn
  have := hs.1.2.1
  omega
theorem row3_eq {r1 r2 : Row} {el : TypeId} {e : Nat} {nl : Option Bool} {f : Bool} {a b : List PV} (h : a = b) : [r1, r2, Row.own el e nl f a] = [r1, r2, Row.own el e nl f b] := by rw [h]
theorem lay_root {b s : List (List Int)} (hs : VS b s) : lay b s 0 = (0, [], -1) := by
  have h1 : bstM b s 0 = -1 := by unfold bstM; rw [if_pos rfl]
  unfold lay
  rw [solM_root hs, h1, fldM_no (by omega)]

theorem noLayout_sat  : SatAt Try.prog 57 [] [] (fun res rows => res = [.pv true (layP (-1, [], -1))] ∧ rows = []) := by
  refine sat_entry_s (rs := [(0, some (52, 3))]) Try.func57 rfl rfl (by decide) (Nat.le_of_ble_eq_true rfl) (resTs1 ⟨_, _, Try.underlying52, rfl, inf52, sz52⟩) fun C hC => ?_
  rw [Try.ntmps57]
  replace hC : C.nb = 0 := hC
  refine vc_seq fun K1 hK1 => ?_
  refine vc_region ?_
  refine vo_alloc Z52 rfl ?_
  refine vo_stN ?_
  refine vo_nil ?_
  refine hK1 _ ?_
  refine vc_seq fun K2 hK2 => ?_
  refine vc_region ?_
  refine vo_build S50 rfl rfl rfl ?_
  refine vo_build S52 rfl rfl rfl ?_
  refine vo_store_varS rfl rfl rfl inf52 sz52 rfl ?_
  refine vo_stN ?_
  refine vo_nil ?_
  refine hK2 _ ?_
  refine vc_ret ?_
  change retS _ _ _ _ _
  refine retS_mk rfl rfl rfl rfl ⟨?_, rfl⟩
  rfl


theorem firstBelowAll_sat {nl0 : Option Bool} {bases : List (List Int)} {nl1 : Option Bool} {list : List Int} (hbases : bases.length < 1000000000) (hlbases : ∀ l ∈ bases, l.length < 1000000000) (hlist : list.length < 1000000000)  : SatAt Try.prog 71 [.pv false (.sl nl0 1 (bases.map ints)), .pv false (.sl nl1 1 (list.map intP))] [] (fun res rows => res = [i64 (fba bases list)] ∧ rows = []) := by
  refine sat_entry (ts := [4]) Try.func71 rfl rfl (by decide) (Nat.le_of_ble_eq_true rfl) fun C hC => ?_
  rw [Try.ntmps71]
  replace hC : C.nb = 0 := hC
  refine vc_seq fun K1 hK1 => ?_
  refine vc_region ?_
  refine vo_assign_pv rfl rfl ?_
  refine vo_nil ?_
  refine hK1 _ ?_
  refine vc_seq fun K2 hK2 => ?_
  refine vc_seq fun K3 hK3 => ?_
  refine vc_region ?_
  refine vo_move_pv rfl rfl ?_
  refine vo_len_pv rfl rfl Try.underlying30 ?_
  refine vo_move_pv rfl rfl ?_
  refine vo_nil ?_
  refine hK3 _ ?_
  refine vc_block ?_
  refine vc_stN ?_
  refine vc_loopF [0, 1, 10, 11] [12] [.pv false (.sl nl0 1 (bases.map ints)), .pv false (.sl nl1 1 (list.map intP)), .pv false (.sl nl1 1 (list.map intP)), i64 (list.map intP).length] _ (fun mz vs => ∃ (k : Nat), mz = list.length - k ∧ (k ≤ list.length) ∧ (fbaF bases list list 0 = fbaF bases list (list.drop k) k) ∧ vs = [i64 k]) (list.length) rfl rfl (le_len hC rfl) ⟨rfl, rfl, rfl⟩ ⟨0, rfl, Nat.zero_le _, rfl, rfl⟩ ?_
  rintro mz vs - ⟨k, rfl, hk, hf, rfl⟩
  refine vc_stN ?_
  refine vc_seq fun K4 hK4 => ?_
  refine vc_region ?_
  refine vo_binI rfl rfl rfl rfl trivial ?_
  refine vo_nil ?_
  refine hK4 _ ?_
  refine vc_seq fun K5 hK5 => ?_
  refine vc_cond rfl (fun hc1 => ?_) (fun hc1 => ?_)
  · try simp only [decide_eq_true_eq, decide_eq_false_iff_not, beq_iff_eq, bne_iff_ne, beq_eq_false_iff_ne, bne_eq_false_iff_eq, Bool.not_eq_true, Bool.not_eq_false, Bool.not_eq_eq_eq_not, Bool.not_true, Bool.not_false, List.length_map, Int.not_lt, Int.not_le, ne_eq, Decidable.not_not] at hc1
    refine vc_skip ?_
    refine hK5 _ ?_
    refine vc_seq fun K6 hK6 => ?_
    refine vc_block ?_
    refine vc_seq fun K7 hK7 => ?_
    refine vc_region ?_
    refine vo_move_pv rfl rfl ?_
    refine vo_index_pv (.int .i64 0) rfl rfl rfl E30.und inf3 sz3 sd sd ?_
    simp only [Int.toNat_natCast, Int.toNat_zero, getD_ints, getD_intss, getD_bools, getD_bytes, PV.cells]
    refine vo_load_adr rfl rfl Try.underlying3 rfl ?_
    refine vo_assign_pv rfl rfl ?_
    refine vo_assign_pv rfl rfl ?_
    refine vo_nil ?_
    refine hK7 _ ?_
    refine vc_seq fun K8 hK8 => ?_
    refine vc_region ?_
    refine vo_assign_pv rfl rfl ?_
    refine vo_nil ?_
    refine hK8 _ ?_
    refine vc_seq fun K9 hK9 => ?_
    refine vc_seq fun K10 hK10 => ?_
    refine vc_region ?_
    refine vo_move_pv rfl rfl ?_
    refine vo_len_pv rfl rfl Try.underlying30 ?_
    refine vo_move_pv rfl rfl ?_
    refine vo_nil ?_
    refine hK10 _ ?_
    refine vc_block ?_
    refine vc_stN ?_
    refine vc_loopF [0, 1, 5, 6, 10, 11, 12, 17, 18] [7, 19] [.pv false (.sl nl0 1 (bases.map ints)), .pv false (.sl nl1 1 (list.map intP)), i64 k, i64 (list.getD k 0), .pv false (.sl nl1 1 (list.map intP)), i64 (list.map intP).length, i64 k, .pv false (.sl nl1 1 (list.map intP)), i64 (list.map intP).length] _ (fun mz vs => ∃ (j : Nat) (bb : Bool), mz = list.length - j ∧ (j ≤ list.length) ∧ (bb = true ↔ ∀ y ∈ list.take j, y ∈ abvR bases (list.getD k 0)) ∧ vs = [bo bb, i64 j]) (list.length) rfl rfl (le_len hC rfl) ⟨rfl, rfl, rfl⟩ ⟨0, true, rfl, Nat.zero_le _, (by simp), rfl⟩ ?_
    rintro mz vs - ⟨j, bb, rfl, hk, hbb, rfl⟩
    refine vc_stN ?_
    refine vc_seq fun K11 hK11 => ?_
    refine vc_region ?_
    refine vo_binI rfl rfl rfl rfl trivial ?_
    refine vo_nil ?_
    refine hK11 _ ?_
    refine vc_seq fun K12 hK12 => ?_
    refine vc_cond rfl (fun hc2 => ?_) (fun hc2 => ?_)
    · try simp only [decide_eq_true_eq, decide_eq_false_iff_not, beq_iff_eq, bne_iff_ne, beq_eq_false_iff_ne, bne_eq_false_iff_eq, Bool.not_eq_true, Bool.not_eq_false, Bool.not_eq_eq_eq_not, Bool.not_true, Bool.not_false, List.length_map, Int.not_lt, Int.not_le, ne_eq, Decidable.not_not] at hc2
      refine vc_skip ?_
      refine hK12 _ ?_
      refine vc_seq fun K13 hK13 => ?_
      refine vc_block ?_
      refine vc_seq fun K14 hK14 => ?_
      refine vc_region ?_
      refine vo_index_pv (.int .i64 0) rfl rfl rfl E30.und inf3 sz3 sd sd ?_
      simp only [Int.toNat_natCast, Int.toNat_zero, getD_ints, getD_intss, getD_bools, getD_bytes, PV.cells]
      refine vo_load_adr rfl rfl Try.underlying3 rfl ?_
      refine vo_assign_pv rfl rfl ?_
      refine vo_nil ?_
      refine hK14 _ ?_
      refine vc_region ?_
      refine vo_move_pv rfl rfl ?_
      refine vo_move_pv rfl rfl ?_
      refine vo_split 24 rfl (fun hg3 => ?_) (fun hg3 => ?_)
      · try simp only [decide_eq_true_eq, decide_eq_false_iff_not, beq_iff_eq, bne_iff_ne, beq_eq_false_iff_ne, bne_eq_false_iff_eq, Bool.not_eq_true, Bool.not_eq_false, Bool.not_eq_eq_eq_not, Bool.not_true, Bool.not_false, List.length_map, Int.not_lt, Int.not_le, ne_eq, Decidable.not_not] at hg3
        refine vo_guard_on rfl rfl rfl ?_
        refine vo_move_pv rfl rfl ?_
        refine vo_guard_on rfl rfl rfl ?_
        refine vo_move_pv rfl rfl ?_
        refine vo_guard_on rfl rfl rfl ?_
        refine vo_move_pv rfl rfl ?_
        refine vo_guard_on rfl rfl rfl ?_
        refine vo_call0 Try.func62 rfl rfl rfl rfl (isBelow_sat hbases hlbases) ?_
        rintro _ _ ⟨rfl, rfl⟩
        refine ⟨rfl, rfl, .inl rfl, ?_⟩
        refine vo_pick_t rfl rfl ?_
        refine vo_assign_pv rfl rfl ?_
        refine vo_nil ?_
        refine hK13 _ ?_
        refine vc_region ?_
        refine vo_binI rfl rfl rfl rfl sd ?_
        refine vo_move_pv rfl rfl ?_
        refine vo_nil ?_
        change againF _ _ _ _ _ _ _ _ _
        refine againF_mk rfl rfl rfl rfl rfl rfl ⟨_, ?_, j + 1, decide (list.getD j 0 ∈ abvR bases (list.getD k 0)), rfl, ?_, ?_, rfl⟩
        · omega
        · omega
        · rw [decide_eq_true_eq, all_take_succ (by omega) 0]; exact ⟨fun h => ⟨hbb.1 (by assumption), h⟩, fun h => h.2⟩
      · try simp only [decide_eq_true_eq, decide_eq_false_iff_not, beq_iff_eq, bne_iff_ne, beq_eq_false_iff_ne, bne_eq_false_iff_eq, Bool.not_eq_true, Bool.not_eq_false, Bool.not_eq_eq_eq_not, Bool.not_true, Bool.not_false, List.length_map, Int.not_lt, Int.not_le, ne_eq, Decidable.not_not] at hg3
        refine vo_guard_off rfl rfl rfl rfl rfl ?_
        refine vo_guard_off rfl rfl rfl rfl rfl ?_
        refine vo_guard_off rfl rfl rfl rfl rfl ?_
        refine vo_guard_off rfl rfl rfl rfl rfl ?_
        refine vo_pick_f rfl rfl ?_
        refine vo_assign_pv rfl rfl ?_
        refine vo_nil ?_
        refine hK13 _ ?_
        refine vc_region ?_
        refine vo_binI rfl rfl rfl rfl sd ?_
        refine vo_move_pv rfl rfl ?_
        refine vo_nil ?_
        change againF _ _ _ _ _ _ _ _ _
        refine againF_mk rfl rfl rfl rfl rfl rfl ⟨_, ?_, j + 1, false, rfl, ?_, ?_, rfl⟩
        · omega
        · omega
        · rw [all_take_succ (by omega) 0]; exact ⟨fun h => (by cases h), fun h => by have := hbb.2 h.1; simp_all⟩
    · try simp only [decide_eq_true_eq, decide_eq_false_iff_not, beq_iff_eq, bne_iff_ne, beq_eq_false_iff_ne, bne_eq_false_iff_eq, Bool.not_eq_true, Bool.not_eq_false, Bool.not_eq_eq_eq_not, Bool.not_true, Bool.not_false, List.length_map, Int.not_lt, Int.not_le, ne_eq, Decidable.not_not] at hc2
      rw [take_all (by omega)] at hbb
      refine vc_exit ?_
      refine hK9 _ ?_
      refine vc_seq fun K15 hK15 => ?_
      refine vc_region ?_
      refine vo_move_pv rfl rfl ?_
      refine vo_nil ?_
      refine hK15 _ ?_
      refine vc_cond rfl (fun hc4 => ?_) (fun hc4 => ?_)
      · try simp only [decide_eq_true_eq, decide_eq_false_iff_not, beq_iff_eq, bne_iff_ne, beq_eq_false_iff_ne, bne_eq_false_iff_eq, Bool.not_eq_true, Bool.not_eq_false, Bool.not_eq_eq_eq_not, Bool.not_true, Bool.not_false, List.length_map, Int.not_lt, Int.not_le, ne_eq, Decidable.not_not] at hc4
        have hall := hbb.1 (by assumption)
        refine vc_seq fun K16 hK16 => ?_
        refine vc_region ?_
        refine vo_move_pv rfl rfl ?_
        refine vo_assign_pv rfl rfl ?_
        refine vo_nil ?_
        refine hK16 _ ?_
        refine vc_ret ?_
        change retPv _ _ _ _ _
        refine retPv_mk rfl rfl rfl ⟨?_, rfl⟩
        refine (congrArg (fun b => [i64 b]) (?_ : _ = _) : [i64 _] = [i64 _])
        exact (hf.trans (by rw [fbaF_drop (by omega), if_pos hall])).symm
      · try simp only [decide_eq_true_eq, decide_eq_false_iff_not, beq_iff_eq, bne_iff_ne, beq_eq_false_iff_ne, bne_eq_false_iff_eq, Bool.not_eq_true, Bool.not_eq_false, Bool.not_eq_eq_eq_not, Bool.not_true, Bool.not_false, List.length_map, Int.not_lt, Int.not_le, ne_eq, Decidable.not_not] at hc4
        have hall : ¬ ∀ y ∈ list, y ∈ abvR bases (list.getD k 0) := fun h => by have := hbb.2 h; simp_all
        refine vc_skip ?_
        refine hK6 _ ?_
        refine vc_region ?_
        refine vo_binI rfl rfl rfl rfl sd ?_
        refine vo_move_pv rfl rfl ?_
        refine vo_nil ?_
        change againF _ _ _ _ _ _ _ _ _
        refine againF_mk rfl rfl rfl rfl rfl rfl ⟨_, ?_, k + 1, rfl, ?_, ?_, rfl⟩
        · omega
        · omega
        · rw [hf, fbaF_drop (by omega), if_neg hall]; rfl
  · try simp only [decide_eq_true_eq, decide_eq_false_iff_not, beq_iff_eq, bne_iff_ne, beq_eq_false_iff_ne, bne_eq_false_iff_eq, Bool.not_eq_true, Bool.not_eq_false, Bool.not_eq_eq_eq_not, Bool.not_true, Bool.not_false, List.length_map, Int.not_lt, Int.not_le, ne_eq, Decidable.not_not] at hc1
    refine vc_exit ?_
    refine hK2 _ ?_
    refine vc_seq fun K17 hK17 => ?_
    refine vc_region ?_
    refine vo_assign_pv rfl rfl ?_
    refine vo_nil ?_
    refine hK17 _ ?_
    refine vc_ret ?_
    change retPv _ _ _ _ _
    refine retPv_mk rfl rfl rfl ⟨?_, rfl⟩
    refine (congrArg (fun b => [i64 b]) (?_ : _ = _) : [i64 _] = [i64 _])
    exact (hf.trans (by rw [List.drop_of_length_le (by omega)]; rfl)).symm


theorem solidsOf_sat {nlr nl1 : Option Bool} {L : List (Int × List (Int × Int) × Int)} {list : List Int} (hL : L.length < 1000000000) (hlist : list.length < 1000000000) (hx : ∀ x ∈ list, 0 ≤ x ∧ x < L.length) : SatAt Try.prog 49 [.ref 0, .pv false (.sl nl1 1 (list.map intP))] [Row.own 52 3 nlr false ((L).map layP)] (fun res rows => ∃ nl, res = [.ref 1] ∧ rows = [Row.own 52 3 nlr false ((L).map layP), Row.own 3 1 nl true ((list.map fun x => (L.getD x.toNat (0, [], 0)).1).map intP)]) := by
  refine sat_entry_g (ts := [4]) Try.func49 rfl rfl (by decide) (Nat.le_of_ble_eq_true rfl) fun C hC => ?_
  rw [Try.ntmps49]
  replace hC : C.nb = 1 := hC
  refine vc_seq fun K1 hK1 => ?_
  refine vc_region ?_
  refine vo_assign_pv rfl rfl ?_
  refine vo_nil ?_
  refine hK1 _ ?_
  refine vc_seq fun K2 hK2 => ?_
  refine vc_region ?_
  refine vo_assign_pv rfl rfl ?_
  refine vo_nil ?_
  refine hK2 _ ?_
  refine vc_seq fun K3 hK3 => ?_
  refine vc_seq fun K4 hK4 => ?_
  refine vc_region ?_
  refine vo_move_pv rfl rfl ?_
  refine vo_len_pv rfl rfl Try.underlying30 ?_
  refine vo_move_pv rfl rfl ?_
  refine vo_nil ?_
  refine hK4 _ ?_
  refine vc_block ?_
  refine vc_own_nil 5 E30 rfl ?_
  refine vc_stN ?_
  refine vc_loop [0, 5, 8, 9, 10] (fun mz vs rows => ∃ (k : Nat), mz = list.length - k ∧ (k ≤ list.length) ∧ vs = [.ref 0, .ref 1, .pv false (.sl nl1 1 (list.map intP)), i64 (list.map intP).length, i64 k] ∧ rows = [Row.own 52 3 nlr false ((L).map layP), Row.own 3 1 none true (((list.take k).map fun x => (L.getD x.toNat (0, [], 0)).1).map intP)]) (list.length) (le_len hC rfl) ⟨rfl, rfl⟩ ⟨0, rfl, Nat.zero_le _, rfl, rfl⟩ ?_
  rintro mz vs rows - - ⟨k, rfl, hk, rfl, rfl⟩
  have hl : ((list.take k).map fun x => (L.getD x.toNat (0, [], 0)).1).length ≤ k := by rw [List.length_map, List.length_take]; omega
  refine vc_seq fun K5 hK5 => ?_
  refine vc_region ?_
  refine vo_binI rfl rfl rfl rfl trivial ?_
  refine vo_nil ?_
  refine hK5 _ ?_
  refine vc_seq fun K6 hK6 => ?_
  refine vc_cond rfl (fun hc1 => ?_) (fun hc1 => ?_)
  · try simp only [decide_eq_true_eq, decide_eq_false_iff_not, beq_iff_eq, bne_iff_ne, beq_eq_false_iff_ne, bne_eq_false_iff_eq, Bool.not_eq_true, Bool.not_eq_false, Bool.not_eq_eq_eq_not, Bool.not_true, Bool.not_false, List.length_map, Int.not_lt, Int.not_le, ne_eq, Decidable.not_not] at hc1
    have hm := getD_mem (show k < list.length by omega) 0
    have hb := hx _ hm
    refine vc_skip ?_
    refine hK6 _ ?_
    refine vc_seq fun K7 hK7 => ?_
    refine vc_block ?_
    refine vc_seq fun K8 hK8 => ?_
    refine vc_region ?_
    refine vo_index_pv (.int .i64 0) rfl rfl rfl E30.und inf3 sz3 sd sd ?_
    simp only [Int.toNat_natCast, Int.toNat_zero, getD_ints, getD_intss, getD_bools, getD_bytes, PV.cells]
    refine vo_load_adr rfl rfl Try.underlying3 rfl ?_
    refine vo_assign_pv rfl rfl ?_
    refine vo_nil ?_
    refine hK8 _ ?_
    refine vc_region ?_
    refine vo_move_ref rfl rfl ?_
    refine vo_move_ref rfl rfl ?_
    refine vo_move_pv rfl rfl ?_
    refine vo_index_ref rfl rfl rfl rfl E61.und inf52 sz52 sd sd ?_
    try simp only [Int.toNat_natCast]
    refine vo_fieldAddr_ptr rfl rfl Try.underlying52 rfl inf50 (by rw [sz50]; decide) ?_
    refine vo_fieldAddr_ptr rfl rfl Try.underlying50 rfl inf3 (by rw [sz3]; decide) ?_
    refine vo_load_ownC rfl rfl rfl Try.underlying3 rfl sd (getD_lays _ _) rfl ?_
    try simp only [Int.toNat_natCast]
    refine vo_st (by (try simp only [St.put, PV.cells, PV.scal, List.drop_succ_cons, List.drop_zero, List.take_succ_cons, List.take_zero, List.map_cons, List.map_nil, Bool.or_true, Bool.or_false, Bool.false_or, Bool.true_or, layP]); exact eq_refl _) ?_
    refine vo_buildSlice E30 rfl rfl rfl rfl rfl ?_
    refine vo_append E30 rfl (by omega) rfl rfl rfl sd sd ?_
    refine vo_stN ?_
    try simp only [app_ints, app_intss, app_bools]
    refine vo_assign_ref rfl rfl ?_
    refine vo_nil ?_
    refine hK7 _ ?_
    refine vc_region ?_
    refine vo_binI rfl rfl rfl rfl sd ?_
    refine vo_move_pv rfl rfl ?_
    refine vo_nil ?_
    change again _ _ _ _ _ _
    refine again_mk rfl rfl rfl rfl ⟨_, ?_, k + 1, rfl, ?_, rfl, (congrArg (fun l => [Row.own 52 3 nlr false ((L).map layP), Row.own 3 1 none true (List.map intP l)]) (map_takeS (f := fun x => (L.getD x.toNat (0, [], 0)).1) (by omega)))⟩
    · omega
    · omega
  · try simp only [decide_eq_true_eq, decide_eq_false_iff_not, beq_iff_eq, bne_iff_ne, beq_eq_false_iff_ne, bne_eq_false_iff_eq, Bool.not_eq_true, Bool.not_eq_false, Bool.not_eq_eq_eq_not, Bool.not_true, Bool.not_false, List.length_map, Int.not_lt, Int.not_le, ne_eq, Decidable.not_not] at hc1
    refine vc_exit ?_
    refine hK3 _ ?_
    refine vc_seq fun K9 hK9 => ?_
    refine vc_region ?_
    refine vo_move_ref rfl rfl ?_
    refine vo_assign_ref rfl rfl ?_
    refine vo_nil ?_
    refine hK9 _ ?_
    refine vc_ret ?_
    change retG _ _ _ _ _
    refine retG_one 1 hC rfl rfl rfl rfl rfl ?_
    exact ⟨_, rfl, congrArg (fun l => [Row.own 52 3 nlr false ((L).map layP), Row.own 3 1 none true (List.map intP l)]) (by rw [take_all (by omega)])⟩

end Go.Vl

namespace Go.Vl
set_option linter.unusedVariables false
set_option linter.unusedSimpArgs false
open Go.Proofs

theorem VB.at4 {b : List (List Int)} (h : VB b) {c : Nat} (hc : c < b.length) : (b.getD c []).length ≤ 4 := (((vb_iff b).1 h).2 c hc).2.1
theorem app_flds (l l' : List (Int × Int)) : l.map fldP ++ l'.map fldP = (l ++ l').map fldP := (List.map_append ..).symm
theorem map_takeF {f : Int → Int × Int} {l : List Int} {k : Nat} (h : k < l.length) : (l.take k).map f ++ [f (l.getD k 0)] = (l.take (k+1)).map f := by
  rw [List.take_succ_eq_append_getElem h, List.map_append, getD_at h]; rfl
theorem fld_app {fs : List (Int × Int)} {l : List Int} {k : Nat} {c : Int} (h : k < l.length) : (fs ++ (l.take k).map fun n => (c, n)).map fldP ++ [fldP (c, l.getD k 0)] = (fs ++ (l.take (k+1)).map fun n => (c, n)).map fldP := by
  rw [← map_takeF (f := fun n => (c, n)) h, ← List.append_assoc, ← app_flds (fs ++ _)]; rfl

theorem cloneF_sat {nl : Option Bool} {fs : List (Int × Int)} (hfs : fs.length < 1000000000) : SatAt Try.prog 76 [.pv false (.sl nl 2 ((fs).map fldP))] [] (fun res rows => ∃ nl2 f, res = [.ref 0] ∧ rows = [Row.own 33 2 nl2 f (fs.map fldP)]) := by
  refine sat_entry_g (ts := [2]) Try.func76 rfl rfl (by decide) (Nat.le_of_ble_eq_true rfl) fun C hC => ?_
  rw [Try.ntmps76]
  replace hC : C.nb = 0 := hC
  refine vc_seq fun K1 hK1 => ?_
  refine vc_region ?_
  refine vo_assign_pv rfl rfl ?_
  refine vo_nil ?_
  refine hK1 _ ?_
  refine vc_seq fun K2 hK2 => ?_
  refine vc_seq fun K3 hK3 => ?_
  refine vc_region ?_
  refine vo_move_pv rfl rfl ?_
  refine vo_eqnil rfl rfl Try.underlying26 fun bn1 hn1 hnt1 hnf1 => ?_
  refine vo_nil ?_
  refine hK3 _ ?_
  refine vc_cond rfl (fun hc1 => ?_) (fun hc1 => ?_)
  · try simp only [decide_eq_true_eq, decide_eq_false_iff_not, beq_iff_eq, bne_iff_ne, beq_eq_false_iff_ne, bne_eq_false_iff_eq, Bool.not_eq_true, Bool.not_eq_false, Bool.not_eq_eq_eq_not, Bool.not_true, Bool.not_false, List.length_map, Int.not_lt, Int.not_le, ne_eq, Decidable.not_not] at hc1
    have hnil : fs = [] := by have := hn1 hc1; simpa using this
    subst hnil
    refine vc_seq fun K4 hK4 => ?_
    refine vc_region ?_
    refine vo_assign_pv rfl rfl ?_
    refine vo_nil ?_
    refine hK4 _ ?_
    refine vc_own_nil 2 E26 rfl ?_
    refine vc_ret ?_
    change retG _ _ _ _ _
    refine retG_one 0 hC rfl rfl rfl rfl rfl ?_
    exact ⟨_, _, rfl, rfl⟩
  · try simp only [decide_eq_true_eq, decide_eq_false_iff_not, beq_iff_eq, bne_iff_ne, beq_eq_false_iff_ne, bne_eq_false_iff_eq, Bool.not_eq_true, Bool.not_eq_false, Bool.not_eq_eq_eq_not, Bool.not_true, Bool.not_false, List.length_map, Int.not_lt, Int.not_le, ne_eq, Decidable.not_not] at hc1
    refine vc_skip ?_
    refine hK2 _ ?_
    refine vc_seq fun K5 hK5 => ?_
    refine vc_region ?_
    refine vo_buildSlice E26 rfl rfl rfl rfl rfl ?_
    refine vo_move_pv rfl rfl ?_
    refine vo_append E26 rfl (by omega) rfl rfl rfl sd sd ?_
    refine vo_stN ?_
    try simp only [app_ints, app_intss, app_bools]
    refine vo_assign_ref rfl rfl ?_
    refine vo_nil ?_
    refine hK5 _ ?_
    refine vc_ret ?_
    change retG _ _ _ _ _
    refine retG_one 0 hC rfl rfl rfl rfl rfl ?_
    exact ⟨_, _, rfl, rfl⟩


theorem goOn_sat {nl : Option Bool} {fs : List (Int × Int)} {sol c : Int} {own : List Int} (hfs : fs.length < 1000000) (hown : own.length < 1000000) : SatAt Try.prog 72 [.pv false (.agg [.int .i64 (sol), .sl none 2 ((fs).map fldP)]), i64 c, .pv false (.sl nl 1 (own.map intP))] [] (fun res rows => ∃ f, res = [.pv f (.agg [.int .i64 (if own = [] then sol else c), .sl none 2 ((fs ++ own.map fun n => (c, n)).map fldP)])] ∧ rows = []) := by
  refine sat_entry_s (rs := [(6, some (50, 2))]) Try.func72 rfl rfl (by decide) (Nat.le_of_ble_eq_true rfl) (resTs1 ⟨_, _, Try.underlying50, rfl, inf50, sz50⟩) fun C hC => ?_
  rw [Try.ntmps72]
  replace hC : C.nb = 0 := hC
  refine vc_seq fun K1 hK1 => ?_
  refine vc_region ?_
  refine vo_box rfl rfl ?_
  refine vo_alloc Z50 rfl ?_
  refine vo_stN ?_
  refine vo_nil ?_
  refine hK1 _ ?_
  refine vc_seq fun K2 hK2 => ?_
  refine vc_seq fun K3 hK3 => ?_
  refine vc_region ?_
  refine vo_move_pv rfl rfl ?_
  refine vo_len_pv rfl rfl Try.underlying30 ?_
  refine vo_binI rfl rfl rfl rfl trivial ?_
  refine vo_nil ?_
  refine hK3 _ ?_
  refine vc_cond rfl (fun hc1 => ?_) (fun hc1 => ?_)
  · try simp only [decide_eq_true_eq, decide_eq_false_iff_not, beq_iff_eq, bne_iff_ne, beq_eq_false_iff_ne, bne_eq_false_iff_eq, Bool.not_eq_true, Bool.not_eq_false, Bool.not_eq_eq_eq_not, Bool.not_true, Bool.not_false, List.length_map, Int.not_lt, Int.not_le, ne_eq, Decidable.not_not] at hc1
    refine vc_seq fun K4 hK4 => ?_
    refine vc_region ?_
    refine vo_load_varS rfl rfl rfl Try.underlying50 rfl inf50 sz50 rfl rfl ?_
    refine vo_store_varS rfl rfl rfl inf50 sz50 rfl ?_
    refine vo_stN ?_
    refine vo_nil ?_
    refine hK4 _ ?_
    refine vc_ret ?_
    change retS _ _ _ _ _
    refine retS_mk rfl rfl rfl rfl ?_
    have e : own = [] := List.eq_nil_of_length_eq_zero (by omega)
    subst e
    exact ⟨false, by simp only [List.map_nil, List.append_nil]; rfl, rfl⟩
  · try simp only [decide_eq_true_eq, decide_eq_false_iff_not, beq_iff_eq, bne_iff_ne, beq_eq_false_iff_ne, bne_eq_false_iff_eq, Bool.not_eq_true, Bool.not_eq_false, Bool.not_eq_eq_eq_not, Bool.not_true, Bool.not_false, List.length_map, Int.not_lt, Int.not_le, ne_eq, Decidable.not_not] at hc1
    refine vc_skip ?_
    refine hK2 _ ?_
    refine vc_seq fun K5 hK5 => ?_
    refine vc_region ?_
    refine vo_fieldAddr_ptr rfl rfl Try.underlying50 rfl inf26 (by rw [sz26]; decide) ?_
    refine vo_load_var rfl rfl rfl Try.underlying26 rfl rfl ?_
    refine vo_call [] Try.func76 rfl rfl rfl rfl rfl rfl rfl (cloneF_sat (fs := fs) (by omega)) ?_
    rintro _ _ ⟨nl9, f9, rfl, rfl⟩
    refine ⟨Nat.le_of_ble_eq_true rfl, ⟨rfl, rfl, rfl⟩, .inl rfl, ?_⟩
    refine vo_stN ?_
    refine vo_assign_ref rfl rfl ?_
    refine vo_nil ?_
    refine hK5 _ ?_
    refine vc_seq fun K6 hK6 => ?_
    refine vc_seq fun K7 hK7 => ?_
    refine vc_region ?_
    refine vo_move_pv rfl rfl ?_
    refine vo_len_pv rfl rfl Try.underlying30 ?_
    refine vo_move_pv rfl rfl ?_
    refine vo_nil ?_
    refine hK7 _ ?_
    refine vc_block ?_
    refine vc_weakrow 2 rfl ?_
    refine vc_flagrow 2 rfl ?_
    refine vc_stN ?_
    refine vc_loop [1, 6, 7, 17, 18, 19] (fun mz vs rows => ∃ (k : Nat), mz = own.length - k ∧ (k ≤ own.length) ∧ vs = [i64 c, .ptr 1 0 0 0, .ref 2, .pv false (.sl nl 1 (own.map intP)), i64 (own.map intP).length, i64 k] ∧ rows = [Row.var 50 [.pv true (.int .i64 sol), .pv false (.sl none 2 (fs.map fldP))], Row.var 50 [.pv true (.int .i64 0), .pv true (.sl none 2 [])], Row.own 33 2 none false ((fs ++ (own.take k).map fun n => (c, n)).map fldP)]) (own.length) (le_len hC rfl) ⟨rfl, rfl⟩ ⟨0, rfl, Nat.zero_le _, rfl, (by simp)⟩ ?_
    rintro mz vs rows - - ⟨k, rfl, hk, rfl, rfl⟩
    have hl : (fs ++ (own.take k).map fun n => (c, n)).length < 1000000000 := by rw [List.length_append, List.length_map, List.length_take]; omega
    refine vc_seq fun K8 hK8 => ?_
    refine vc_region ?_
    refine vo_binI rfl rfl rfl rfl trivial ?_
    refine vo_nil ?_
    refine hK8 _ ?_
    refine vc_seq fun K9 hK9 => ?_
    refine vc_cond rfl (fun hc2 => ?_) (fun hc2 => ?_)
    · try simp only [decide_eq_true_eq, decide_eq_false_iff_not, beq_iff_eq, bne_iff_ne, beq_eq_false_iff_ne, bne_eq_false_iff_eq, Bool.not_eq_true, Bool.not_eq_false, Bool.not_eq_eq_eq_not, Bool.not_true, Bool.not_false, List.length_map, Int.not_lt, Int.not_le, ne_eq, Decidable.not_not] at hc2
      refine vc_skip ?_
      refine hK9 _ ?_
      refine vc_seq fun K10 hK10 => ?_
      refine vc_block ?_
      refine vc_seq fun K11 hK11 => ?_
      refine vc_region ?_
      refine vo_index_pv (.int .i64 0) rfl rfl rfl E30.und inf3 sz3 sd sd ?_
      simp only [Int.toNat_natCast, Int.toNat_zero, getD_ints, getD_intss, getD_bools, getD_bytes, PV.cells]
      refine vo_load_adr rfl rfl Try.underlying3 rfl ?_
      refine vo_assign_pv rfl rfl ?_
      refine vo_nil ?_
      refine hK11 _ ?_
      refine vc_region ?_
      refine vo_move_ref rfl rfl ?_
      refine vo_move_pv rfl rfl ?_
      refine vo_move_pv rfl rfl ?_
      refine vo_build S33 rfl rfl rfl ?_
      refine vo_buildSlice E26 rfl rfl rfl rfl rfl ?_
      refine vo_append E26 rfl (by omega) rfl rfl rfl sd sd ?_
      refine vo_stN ?_
      try simp only [app_ints, app_intss, app_bools]
      refine vo_assign_ref rfl rfl ?_
      refine vo_nil ?_
      refine hK10 _ ?_
      refine vc_region ?_
      refine vo_binI rfl rfl rfl rfl sd ?_
      refine vo_move_pv rfl rfl ?_
      refine vo_nil ?_
      change again _ _ _ _ _ _
      refine again_mk rfl rfl rfl rfl ⟨_, ?_, k + 1, rfl, ?_, rfl, (row3_eq (fld_app (by omega)))⟩
      · omega
      · omega
    · try simp only [decide_eq_true_eq, decide_eq_false_iff_not, beq_iff_eq, bne_iff_ne, beq_eq_false_iff_ne, bne_eq_false_iff_eq, Bool.not_eq_true, Bool.not_eq_false, Bool.not_eq_eq_eq_not, Bool.not_true, Bool.not_false, List.length_map, Int.not_lt, Int.not_le, ne_eq, Decidable.not_not] at hc2
      refine vc_exit ?_
      refine hK6 _ ?_
      refine vc_seq fun K12 hK12 => ?_
      refine vc_region ?_
      refine vo_move_pv rfl rfl ?_
      refine vo_move_ref rfl rfl ?_
      refine vo_expose 2 (by omega) rfl ?_
      refine vo_weaken 31 rfl ?_
      refine vo_stN ?_
      refine vo_build S50 rfl rfl rfl ?_
      refine vo_store_varS rfl rfl rfl inf50 sz50 rfl ?_
      refine vo_stN ?_
      refine vo_nil ?_
      refine hK12 _ ?_
      refine vc_ret ?_
      change retS _ _ _ _ _
      refine retS_mk rfl rfl rfl rfl ?_
      have e : own ≠ [] := fun e => by subst e; simp at hc1
      refine ⟨false, ?_, rfl⟩
      rw [if_neg e]
      have e2 : own.take k = own := take_all (by omega)
      rw [e2]
      rfl

theorem solidsOf_satL {nlr nl1 : Option Bool} {bases slots : List (List Int)} {n : Nat} (hs : VS bases slots) (hn : n < bases.length) : SatAt Try.prog 49 [.ref 0, .pv false (.sl nl1 1 ((bases.getD n []).map intP))] [Row.own 52 3 nlr false ((layT bases slots n).map layP)] (fun res rows => ∃ nl, res = [.ref 1] ∧ rows = [Row.own 52 3 nlr false ((layT bases slots n).map layP), Row.own 3 1 nl true ((solL bases slots n).map intP)]) := by
  have h12 := hs.1.2.1
  have h4 := hs.1.at4 hn
  have := solidsOf_sat (nlr := nlr) (nl1 := nl1) (L := layT bases slots n) (list := bases.getD n []) (by rw [layT_len]; omega) (by omega) (fun x hx => by rw [layT_len]; have := hs.1.bd hx; omega)
  rw [layT_sol hs.1] at this
  exact this


theorem layoutFrom_sat {nl0 nlr nl2 : Option Bool} {bases slots : List (List Int)} {n : Nat} (hbases : bases.length < 1000000000) (hlbases : ∀ l ∈ bases, l.length < 1000000000) (hs : VS bases slots) (hn : n < bases.length) (h0 : n ≠ 0) : SatAt Try.prog 61 [.pv false (.sl nl0 1 (bases.map ints)), .ref 0, .pv false (.sl nl2 1 ((slots.getD n []).map intP))] [Row.own 52 3 nlr false ((layT bases slots n).map layP)] (fun res rows => ∃ f, res = [.pv f (layP (lay bases slots n))] ∧ rows = [Row.own 52 3 nlr false ((layT bases slots n).map layP)]) := by
  have h12 := hs.1.2.1
  have hLl := layT_len bases slots n
  have hLm : ((layT bases slots n).map layP).length = n := by rw [List.length_map, hLl]
  have hsl4 : (slots.getD n []).length ≤ 4 := by have := (hs.2.2.2 _ (getD_mem (show n < slots.length by have := hs.2.1; omega) [])).1.1; omega
  have hb4 := hs.1.at4 hn
  refine sat_entry_s (rs := [(6, some (52, 3))]) Try.func61 rfl rfl (by decide) (Nat.le_of_ble_eq_true rfl) (resTs1 ⟨_, _, Try.underlying52, rfl, inf52, sz52⟩) fun C hC => ?_
  rw [Try.ntmps61]
  replace hC : C.nb = 1 := hC
  refine vc_seq fun K1 hK1 => ?_
  refine vc_region ?_
  refine vo_alloc Z52 rfl ?_
  refine vo_stN ?_
  refine vo_nil ?_
  refine hK1 _ ?_
  refine vc_seq fun K2 hK2 => ?_
  refine vc_region ?_
  refine vo_move_ref rfl rfl ?_
  refine vo_len_ref rfl rfl rfl Try.underlying61 ?_
  refine vo_st (by simp only [hLm]; exact eq_refl _) ?_
  refine vo_assign_pv rfl rfl ?_
  refine vo_nil ?_
  refine hK2 _ ?_
  refine vc_seq fun K3 hK3 => ?_
  refine vc_region ?_
  refine vo_move_pv rfl rfl ?_
  refine vo_move_ref rfl rfl ?_
  refine vo_move_pv rfl rfl ?_
  refine vo_move_pv rfl rfl ?_
  refine vo_index_pv (.sl none 1 []) rfl rfl rfl E23.und inf30 sz30 sd sd ?_
  simp only [Int.toNat_natCast, Int.toNat_zero, getD_ints, getD_intss, getD_bools, getD_bytes, PV.cells]
  refine vo_load_adr rfl rfl Try.underlying30 rfl ?_
  refine vo_call [0] Try.func49 rfl rfl rfl rfl rfl rfl rfl (solidsOf_satL hs hn) ?_
  rintro _ _ ⟨nl9, rfl, rfl⟩
  refine ⟨Nat.le_of_ble_eq_true rfl, ⟨rfl, rfl, rfl⟩, .inl rfl, ?_⟩
  refine vo_stN ?_
  refine vo_call0 Try.func71 rfl rfl rfl rfl (firstBelowAll_sat (list := solL bases slots n) hbases hlbases (by rw [solL_len]; omega)) ?_
  rintro _ _ ⟨rfl, rfl⟩
  refine ⟨rfl, rfl, .inr rfl, ?_⟩
  refine vo_assign_pv rfl rfl ?_
  refine vo_nil ?_
  refine hK3 _ ?_
  refine vc_seq fun K4 hK4 => ?_
  refine vc_seq fun K5 hK5 => ?_
  refine vc_region ?_
  refine vo_move_pv rfl rfl ?_
  refine vo_binI rfl rfl rfl rfl trivial ?_
  refine vo_nil ?_
  refine hK5 _ ?_
  refine vc_cond rfl (fun hc1 => ?_) (fun hc1 => ?_)
  · try simp only [decide_eq_true_eq, decide_eq_false_iff_not, beq_iff_eq, bne_iff_ne, beq_eq_false_iff_ne, bne_eq_false_iff_eq, Bool.not_eq_true, Bool.not_eq_false, Bool.not_eq_eq_eq_not, Bool.not_true, Bool.not_false, List.length_map, Int.not_lt, Int.not_le, ne_eq, Decidable.not_not] at hc1
    have hno := lay_no hs hn h0 hc1
    refine vc_seq fun K6 hK6 => ?_
    refine vc_region ?_
    refine vo_call0 Try.func57 rfl rfl rfl rfl noLayout_sat ?_
    rintro _ _ ⟨rfl, rfl⟩
    refine ⟨rfl, rfl, .inl rfl, ?_⟩
    refine vo_store_varS rfl rfl rfl inf52 sz52 rfl ?_
    refine vo_stN ?_
    refine vo_nil ?_
    refine hK6 _ ?_
    refine vc_ret ?_
    change retS _ _ _ _ _
    refine retS_mk rfl rfl rfl rfl ?_
    rw [hno]; exact ⟨_, rfl, rfl⟩
  · try simp only [decide_eq_true_eq, decide_eq_false_iff_not, beq_iff_eq, bne_iff_ne, beq_eq_false_iff_ne, bne_eq_false_iff_eq, Bool.not_eq_true, Bool.not_eq_false, Bool.not_eq_eq_eq_not, Bool.not_true, Bool.not_false, List.length_map, Int.not_lt, Int.not_le, ne_eq, Decidable.not_not] at hc1
    have hfb := (fba_sol hs hn h0).2 hc1
    have hgo := lay_go hs hn h0 (by omega) rfl
    have hgl := layT_get bases slots (n := n) (k := ((bases.getD n []).getD (fba bases (solL bases slots n)).toNat 0).toNat) (by omega) (0, [], 0)
    refine vc_skip ?_
    refine hK4 _ ?_
    refine vc_seq fun K7 hK7 => ?_
    refine vc_region ?_
    refine vo_move_pv rfl rfl ?_
    refine vo_move_pv rfl rfl ?_
    refine vo_index_pv (.sl none 1 []) rfl rfl rfl E23.und inf30 sz30 sd sd ?_
    simp only [Int.toNat_natCast, Int.toNat_zero, getD_ints, getD_intss, getD_bools, getD_bytes, PV.cells]
    refine vo_load_adr rfl rfl Try.underlying30 rfl ?_
    refine vo_move_pv rfl rfl ?_
    refine vo_index_pv (.int .i64 0) rfl rfl rfl E30.und inf3 sz3 sd sd ?_
    simp only [Int.toNat_natCast, Int.toNat_zero, getD_ints, getD_intss, getD_bools, getD_bytes, PV.cells]
    refine vo_load_adr rfl rfl Try.underlying3 rfl ?_
    refine vo_assign_pv rfl rfl ?_
    refine vo_nil ?_
    refine hK7 _ ?_
    refine vc_seq fun K8 hK8 => ?_
    refine vc_region ?_
    refine vo_move_ref rfl rfl ?_
    refine vo_move_pv rfl rfl ?_
    refine vo_index_ref rfl rfl rfl rfl E61.und inf52 sz52 sd sd ?_
    try simp only [Int.toNat_natCast]
    refine vo_fieldAddr_ptr rfl rfl Try.underlying52 rfl inf50 (by rw [sz50]; decide) ?_
    refine vo_load_ownS rfl rfl rfl Try.underlying50 rfl inf50 sz50 sd (getD_lays _ _) (Nat.le_of_ble_eq_true rfl) ?_
    try simp only [Int.toNat_natCast]
    refine vo_st (by (try simp only [St.put, PV.cells, PV.scal, List.drop_succ_cons, List.drop_zero, List.take_succ_cons, List.take_zero, List.map_cons, List.map_nil, Bool.or_true, Bool.or_false, Bool.false_or, Bool.true_or, layP]); exact eq_refl _) ?_
    refine vo_st (by simp only [hgl]; exact eq_refl _) ?_
    refine vo_move_pv rfl rfl ?_
    refine vo_move_pv rfl rfl ?_
    refine vo_call0 Try.func72 rfl rfl rfl rfl (goOn_sat (fs := (lay bases slots ((bases.getD n []).getD (fba bases (solL bases slots n)).toNat 0).toNat).2.1) (own := slots.getD n []) (by have := fld_len hs (show ((bases.getD n []).getD (fba bases (solL bases slots n)).toNat 0).toNat < bases.length by omega); show (fldM bases slots _).length < 1000000; omega) (by omega)) ?_
    rintro _ _ ⟨f9, rfl, rfl⟩
    refine ⟨rfl, rfl, .inl rfl, ?_⟩
    refine vo_flag 37 rfl ?_
    refine vo_stN ?_
    refine vo_move_pv rfl rfl ?_
    refine vo_build S52 rfl rfl rfl ?_
    refine vo_store_varS rfl rfl rfl inf52 sz52 rfl ?_
    refine vo_stN ?_
    refine vo_nil ?_
    refine hK8 _ ?_
    refine vc_ret ?_
    change retS _ _ _ _ _
    refine retS_mk rfl rfl rfl rfl ?_
    rw [hgo.2]; exact ⟨_, rfl, rfl⟩

end Go.Vl

namespace Go.Vl
set_option linter.unusedVariables false
set_option linter.unusedSimpArgs false
open Go.Proofs

theorem lay_snoc (b s : List (List Int)) (n : Nat) : (layT b s n).map layP ++ [layP (lay b s n)] = (layT b s (n+1)).map layP := by rw [layT_succ, List.map_append]; rfl
theorem lay_one {b s : List (List Int)} (hs : VS b s) : [layP (0, [], -1)] = (layT b s 1).map layP := by
  show _ = [layP (lay b s 0)]
  rw [lay_root hs]
theorem row1_eq2 {el : TypeId} {e : Nat} {nl : Option Bool} {f : Bool} {a b : List PV} (h : a = b) : [Row.own el e nl f a] = [Row.own el e nl f b] := by rw [h]

theorem layoutsUpTo_sat {nl0 nl1 : Option Bool} {bases slots : List (List Int)} {n : Nat} (hbases : bases.length < 1000000000) (hlbases : ∀ l ∈ bases, l.length < 1000000000) (hslots : slots.length < 1000000000) (hlslots : ∀ l ∈ slots, l.length < 1000000000) (hs : VS bases slots) (hn : n < bases.length) : SatAt Try.prog 50 [.pv false (.sl nl0 1 (bases.map ints)), .pv false (.sl nl1 1 (slots.map ints)), i64 n] [] (fun res rows => ∃ nl, res = [.ref 0] ∧ rows = [Row.own 52 3 nl false ((layT bases slots (n+1)).map layP)]) := by
  have h12 := hs.1.2.1
  have hsl := hs.2.1
  refine sat_entry_g (ts := [6]) Try.func50 rfl rfl (by decide) (Nat.le_of_ble_eq_true rfl) fun C hC => ?_
  rw [Try.ntmps50]
  replace hC : C.nb = 0 := hC
  refine vc_seq fun K1 hK1 => ?_
  refine vc_region ?_
  refine vo_assign_pv rfl rfl ?_
  refine vo_nil ?_
  refine hK1 _ ?_
  refine vc_seq fun K2 hK2 => ?_
  refine vc_region ?_
  refine vo_build S50 rfl rfl rfl ?_
  refine vo_build S52 rfl rfl rfl ?_
  refine vo_buildSlice E61 rfl rfl rfl rfl rfl ?_
  refine vo_assign_ref rfl rfl ?_
  refine vo_nil ?_
  refine hK2 _ ?_
  refine vc_seq fun K3 hK3 => ?_
  refine vc_seq fun K4 hK4 => ?_
  refine vc_region ?_
  refine vo_assign_pv rfl rfl ?_
  refine vo_nil ?_
  refine hK4 _ ?_
  refine vc_block ?_
  refine vc_weakrow 0 rfl ?_
  refine vc_flagrow 0 rfl ?_
  refine vc_stN ?_
  refine vc_loop [0, 1, 2, 7, 8] (fun mz vs rows => ∃ (k : Nat), mz = n + 1 - k ∧ ((1 ≤ k ∧ k ≤ n + 1)) ∧ vs = [.pv false (.sl nl0 1 (bases.map ints)), .pv false (.sl nl1 1 (slots.map ints)), i64 n, .ref 0, i64 k] ∧ rows = [Row.own 52 3 none false ((layT bases slots k).map layP)]) (n) (le_len hC rfl) ⟨rfl, rfl⟩ ⟨1, rfl, (by omega), rfl, (row1_eq2 (lay_one hs))⟩ ?_
  rintro mz vs rows - - ⟨k, rfl, hk, rfl, rfl⟩
  have hll := layT_len bases slots k
  refine vc_seq fun K5 hK5 => ?_
  refine vc_seq fun K6 hK6 => ?_
  refine vc_region ?_
  refine vo_move_pv rfl rfl ?_
  refine vo_move_pv rfl rfl ?_
  refine vo_binI rfl rfl rfl rfl trivial ?_
  refine vo_nil ?_
  refine hK6 _ ?_
  refine vc_cond rfl (fun hc1 => ?_) (fun hc1 => ?_)
  · try simp only [decide_eq_true_eq, decide_eq_false_iff_not, beq_iff_eq, bne_iff_ne, beq_eq_false_iff_ne, bne_eq_false_iff_eq, Bool.not_eq_true, Bool.not_eq_false, Bool.not_eq_eq_eq_not, Bool.not_true, Bool.not_false, List.length_map, Int.not_lt, Int.not_le, ne_eq, Decidable.not_not] at hc1
    refine vc_skip ?_
    refine hK5 _ ?_
    refine vc_seq fun K7 hK7 => ?_
    refine vc_block ?_
    refine vc_region ?_
    refine vo_move_ref rfl rfl ?_
    refine vo_move_pv rfl rfl ?_
    refine vo_move_ref rfl rfl ?_
    refine vo_move_pv rfl rfl ?_
    refine vo_move_pv rfl rfl ?_
    refine vo_index_pv (.sl none 1 []) rfl rfl rfl E23.und inf30 sz30 sd sd ?_
    simp only [Int.toNat_natCast, Int.toNat_zero, getD_ints, getD_intss, getD_bools, getD_bytes, PV.cells]
    refine vo_load_adr rfl rfl Try.underlying30 rfl ?_
    refine vo_call [0] Try.func61 rfl rfl rfl rfl rfl rfl rfl (layoutFrom_sat (n := k) hbases hlbases hs (by omega) (by omega)) ?_
    rintro _ _ ⟨f9, rfl, rfl⟩
    refine ⟨Nat.le_of_ble_eq_true rfl, ⟨rfl, rfl, rfl⟩, .inl rfl, ?_⟩
    refine vo_stN ?_
    refine vo_flag 24 rfl ?_
    refine vo_stN ?_
    refine vo_buildSlice E61 rfl rfl rfl rfl rfl ?_
    refine vo_append E61 rfl (by omega) rfl rfl rfl sd sd ?_
    refine vo_stN ?_
    try simp only [app_ints, app_intss, app_bools]
    refine vo_assign_ref rfl rfl ?_
    refine vo_nil ?_
    refine hK7 _ ?_
    refine vc_region ?_
    refine vo_move_pv rfl rfl ?_
    refine vo_binI rfl rfl rfl rfl sd ?_
    refine vo_assign_pv rfl rfl ?_
    refine vo_nil ?_
    change again _ _ _ _ _ _
    refine again_mk rfl rfl rfl rfl ⟨_, ?_, k + 1, rfl, ?_, rfl, (row1_eq2 (lay_snoc _ _ _))⟩
    · omega
    · omega
  · try simp only [decide_eq_true_eq, decide_eq_false_iff_not, beq_iff_eq, bne_iff_ne, beq_eq_false_iff_ne, bne_eq_false_iff_eq, Bool.not_eq_true, Bool.not_eq_false, Bool.not_eq_eq_eq_not, Bool.not_true, Bool.not_false, List.length_map, Int.not_lt, Int.not_le, ne_eq, Decidable.not_not] at hc1
    refine vc_exit ?_
    refine hK3 _ ?_
    refine vc_seq fun K8 hK8 => ?_
    refine vc_region ?_
    refine vo_move_ref rfl rfl ?_
    refine vo_assign_ref rfl rfl ?_
    refine vo_nil ?_
    refine hK8 _ ?_
    refine vc_ret ?_
    change retG _ _ _ _ _
    refine retG_one 0 hC rfl rfl rfl rfl rfl ?_
    exact ⟨_, rfl, row1_eq2 (by rw [show k = n + 1 by omega])⟩

theorem layoutsUpTo_satI {nl0 nl1 : Option Bool} {bases slots : List (List Int)} {c : Int} (hbases : bases.length < 1000000000) (hlbases : ∀ l ∈ bases, l.length < 1000000000) (hslots : slots.length < 1000000000) (hlslots : ∀ l ∈ slots, l.length < 1000000000) (hs : VS bases slots) (h0 : 0 ≤ c) (h1 : c < bases.length) : SatAt Try.prog 50 [.pv false (.sl nl0 1 (bases.map ints)), .pv false (.sl nl1 1 (slots.map ints)), i64 c] [] (fun res rows => ∃ nl, res = [.ref 0] ∧ rows = [Row.own 52 3 nl false ((layT bases slots (c.toNat+1)).map layP)]) := by
  obtain ⟨n, rfl⟩ := Int.eq_ofNat_of_zero_le h0
  exact layoutsUpTo_sat hbases hlbases hslots hlslots hs (by omega)


theorem layoutOf_sat {nl0 nl1 : Option Bool} {bases slots : List (List Int)} {c : Int} (hbases : bases.length < 1000000000) (hlbases : ∀ l ∈ bases, l.length < 1000000000) (hslots : slots.length < 1000000000) (hlslots : ∀ l ∈ slots, l.length < 1000000000) : SatAt Try.prog 38 [.pv false (.sl nl0 1 (bases.map ints)), .pv false (.sl nl1 1 (slots.map ints)), i64 c] [] (fun res rows => ∃ f, res = [.pv f (layP (layR bases slots c))] ∧ rows = []) := by
  refine sat_entry_s (rs := [(6, some (52, 3))]) Try.func38 rfl rfl (by decide) (Nat.le_of_ble_eq_true rfl) (resTs1 ⟨_, _, Try.underlying52, rfl, inf52, sz52⟩) fun C hC => ?_
  rw [Try.ntmps38]
  replace hC : C.nb = 0 := hC
  refine vc_seq fun K1 hK1 => ?_
  refine vc_region ?_
  refine vo_alloc Z52 rfl ?_
  refine vo_stN ?_
  refine vo_nil ?_
  refine hK1 _ ?_
  refine vc_seq fun K2 hK2 => ?_
  refine vc_seq fun K3 hK3 => ?_
  refine vc_region ?_
  refine vo_move_pv rfl rfl ?_
  refine vo_move_pv rfl rfl ?_
  refine vo_move_pv rfl rfl ?_
  refine vo_call0 Try.func48 rfl rfl rfl rfl (hasSlots_sat hbases hlbases hslots hlslots) ?_
  rintro _ _ ⟨rfl, rfl⟩
  refine ⟨rfl, rfl, .inl rfl, ?_⟩
  refine vo_not rfl rfl ?_
  refine vo_nil ?_
  refine hK3 _ ?_
  refine vc_cond rfl (fun hc1 => ?_) (fun hc1 => ?_)
  · try simp only [decide_eq_true_eq, decide_eq_false_iff_not, beq_iff_eq, bne_iff_ne, beq_eq_false_iff_ne, bne_eq_false_iff_eq, Bool.not_eq_true, Bool.not_eq_false, Bool.not_eq_eq_eq_not, Bool.not_true, Bool.not_false, List.length_map, Int.not_lt, Int.not_le, ne_eq, Decidable.not_not] at hc1
    refine vc_seq fun K4 hK4 => ?_
    refine vc_region ?_
    refine vo_call0 Try.func57 rfl rfl rfl rfl noLayout_sat ?_
    rintro _ _ ⟨rfl, rfl⟩
    refine ⟨rfl, rfl, .inl rfl, ?_⟩
    refine vo_store_varS rfl rfl rfl inf52 sz52 rfl ?_
    refine vo_stN ?_
    refine vo_nil ?_
    refine hK4 _ ?_
    refine vc_ret ?_
    change retS _ _ _ _ _
    refine retS_mk rfl rfl rfl rfl ?_
    rw [layR_no hc1]; exact ⟨_, rfl, rfl⟩
  · try simp only [decide_eq_true_eq, decide_eq_false_iff_not, beq_iff_eq, bne_iff_ne, beq_eq_false_iff_ne, bne_eq_false_iff_eq, Bool.not_eq_true, Bool.not_eq_false, Bool.not_eq_eq_eq_not, Bool.not_true, Bool.not_false, List.length_map, Int.not_lt, Int.not_le, ne_eq, Decidable.not_not] at hc1
    obtain ⟨hs, h0, h1⟩ := hc1
    obtain ⟨n, rfl⟩ := Int.eq_ofNat_of_zero_le h0
    have hn : n < bases.length := by omega
    have h12 := hs.1.2.1
    have hLl := layT_len bases slots (n+1)
    have hgl := layT_get bases slots (n := n + 1) (k := n) (by omega) (0, [], 0)
    refine vc_skip ?_
    refine hK2 _ ?_
    refine vc_seq fun K5 hK5 => ?_
    refine vc_region ?_
    refine vo_move_pv rfl rfl ?_
    refine vo_move_pv rfl rfl ?_
    refine vo_move_pv rfl rfl ?_
    refine vo_call [] Try.func50 rfl rfl rfl rfl rfl rfl rfl (layoutsUpTo_sat hbases hlbases hslots hlslots hs hn) ?_
    rintro _ _ ⟨nl9, rfl, rfl⟩
    refine ⟨Nat.le_of_ble_eq_true rfl, ⟨rfl, rfl, rfl⟩, .inl rfl, ?_⟩
    refine vo_stN ?_
    refine vo_move_pv rfl rfl ?_
    refine vo_index_ref rfl rfl rfl rfl E61.und inf52 sz52 sd sd ?_
    try simp only [Int.toNat_natCast]
    refine vo_load_ownS rfl rfl rfl Try.underlying52 rfl inf52 sz52 sd (getD_lays _ _) (Nat.le_of_ble_eq_true rfl) ?_
    try simp only [Int.toNat_natCast]
    refine vo_st (by (try simp only [St.put, PV.cells, PV.scal, List.drop_succ_cons, List.drop_zero, List.take_succ_cons, List.take_zero, List.map_cons, List.map_nil, Bool.or_true, Bool.or_false, Bool.false_or, Bool.true_or, layP]); exact eq_refl _) ?_
    refine vo_store_varS rfl rfl rfl inf52 sz52 rfl ?_
    refine vo_stN ?_
    refine vo_nil ?_
    refine hK5 _ ?_
    refine vc_ret ?_
    change retS _ _ _ _ _
    refine retS_mk rfl rfl rfl rfl ?_
    rw [layR_of hs hn, ← hgl]; exact ⟨_, rfl, rfl⟩


theorem implSolidOf_sat {nl0 : Option Bool} {bases : List (List Int)} {nl1 : Option Bool} {slots : List (List Int)} {c : Int} (hbases : bases.length < 1000000000) (hlbases : ∀ l ∈ bases, l.length < 1000000000) (hslots : slots.length < 1000000000) (hlslots : ∀ l ∈ slots, l.length < 1000000000)  : SatAt Try.prog 13 [.pv false (.sl nl0 1 (bases.map ints)), .pv false (.sl nl1 1 (slots.map ints)), i64 c] [] (fun res rows => res = [i64 (solR bases slots c)] ∧ rows = []) := by
  refine sat_entry (ts := [6]) Try.func13 rfl rfl (by decide) (Nat.le_of_ble_eq_true rfl) fun C hC => ?_
  rw [Try.ntmps13]
  replace hC : C.nb = 0 := hC
  refine vc_seq fun K1 hK1 => ?_
  refine vc_region ?_
  refine vo_assign_pv rfl rfl ?_
  refine vo_nil ?_
  refine hK1 _ ?_
  refine vc_seq fun K2 hK2 => ?_
  refine vc_region ?_
  refine vo_move_pv rfl rfl ?_
  refine vo_move_pv rfl rfl ?_
  refine vo_move_pv rfl rfl ?_
  refine vo_call0 Try.func38 rfl rfl rfl rfl (layoutOf_sat hbases hlbases hslots hlslots) ?_
  rintro _ _ ⟨f9, rfl, rfl⟩
  refine ⟨rfl, rfl, .inl rfl, ?_⟩
  refine vo_flag 10 rfl ?_
  refine vo_stN ?_
  refine vo_fieldS rfl rfl Try.underlying52 rfl Try.underlying50 rfl inf50 sz50 rfl ?_
  refine vo_field1 rfl rfl Try.underlying50 rfl Try.underlying3 rfl rfl ?_
  refine vo_assign_pv rfl rfl ?_
  refine vo_nil ?_
  refine hK2 _ ?_
  refine vc_ret ?_
  change retPv _ _ _ _ _
  refine retPv_mk rfl rfl rfl ⟨?_, rfl⟩
  refine (congrArg (fun b => [i64 b]) (?_ : _ = _) : [i64 _] = [i64 _])
  exact layR_sol _ _ _


theorem implBestBase_sat {nl0 : Option Bool} {bases : List (List Int)} {nl1 : Option Bool} {slots : List (List Int)} {c : Int} (hbases : bases.length < 1000000000) (hlbases : ∀ l ∈ bases, l.length < 1000000000) (hslots : slots.length < 1000000000) (hlslots : ∀ l ∈ slots, l.length < 1000000000)  : SatAt Try.prog 19 [.pv false (.sl nl0 1 (bases.map ints)), .pv false (.sl nl1 1 (slots.map ints)), i64 c] [] (fun res rows => res = [i64 (bbR bases slots c)] ∧ rows = []) := by
  refine sat_entry (ts := [6]) Try.func19 rfl rfl (by decide) (Nat.le_of_ble_eq_true rfl) fun C hC => ?_
  rw [Try.ntmps19]
  replace hC : C.nb = 0 := hC
  refine vc_seq fun K1 hK1 => ?_
  refine vc_region ?_
  refine vo_assign_pv rfl rfl ?_
  refine vo_nil ?_
  refine hK1 _ ?_
  refine vc_seq fun K2 hK2 => ?_
  refine vc_region ?_
  refine vo_move_pv rfl rfl ?_
  refine vo_move_pv rfl rfl ?_
  refine vo_move_pv rfl rfl ?_
  refine vo_call0 Try.func38 rfl rfl rfl rfl (layoutOf_sat hbases hlbases hslots hlslots) ?_
  rintro _ _ ⟨f9, rfl, rfl⟩
  refine ⟨rfl, rfl, .inl rfl, ?_⟩
  refine vo_flag 10 rfl ?_
  refine vo_stN ?_
  refine vo_field1 rfl rfl Try.underlying52 rfl Try.underlying3 rfl rfl ?_
  refine vo_assign_pv rfl rfl ?_
  refine vo_nil ?_
  refine hK2 _ ?_
  refine vc_ret ?_
  change retPv _ _ _ _ _
  refine retPv_mk rfl rfl rfl ⟨?_, rfl⟩
  refine (congrArg (fun b => [i64 b]) (?_ : _ = _) : [i64 _] = [i64 _])
  exact layR_bst _ _ _

end Go.Vl

namespace Go.Vl
set_option linter.unusedVariables false
set_option linter.unusedSimpArgs false
open Go.Proofs

theorem bbF_end {b s : List (List Int)} {best : Int} {l : List Int} {k : Nat} (h : l.length ≤ k) : bbF b s best (l.drop k) = best := by
  rw [List.drop_of_length_le h]; rfl
theorem sol_base_pos {b s : List (List Int)} (hs : VS b s) {n : Nat} (hn : n < b.length) (h : 0 ≤ solM b s n) {d : Int} (hd : d ∈ b.getD n []) : 0 ≤ solM b s d.toNat := by
  have e := solM_eq hs.1 s n
  by_cases hneg : solF b 0 (solL b s n) < 0
  · rw [if_pos hneg] at e; omega
  · have := (solF_pos (solL b s n) 0 (abvR_self hs.1 (by omega) (by have := hs.1.1; omega)) (by omega)).2.2 _ (solL_mem.2 ⟨d, hd, rfl⟩)
    exact (abvR_mem this).2.1
theorem getD_laysA (L : List (Int × List (Int × Int) × Int)) (k : Nat) : (L.map layP).getD k (.agg [.int .i64 0, .sl none 2 [], .int .i64 0]) = layP (L.getD k (0, [], 0)) := getD_lays L k
theorem solR_val {b s : List (List Int)} {c : Int} (h : VS b s ∧ 0 ≤ c ∧ c < b.length) : solR b s c = solM b s c.toNat := if_pos h

theorem specBestBase_sat {nl0 : Option Bool} {bases : List (List Int)} {nl1 : Option Bool} {slots : List (List Int)} {c : Int} (hbases : bases.length < 1000000000) (hlbases : ∀ l ∈ bases, l.length < 1000000000) (hslots : slots.length < 1000000000) (hlslots : ∀ l ∈ slots, l.length < 1000000000)  : SatAt Try.prog 20 [.pv false (.sl nl0 1 (bases.map ints)), .pv false (.sl nl1 1 (slots.map ints)), i64 c] [] (fun res rows => res = [i64 (bbR bases slots c)] ∧ rows = []) := by
  refine sat_entry (ts := [6]) Try.func20 rfl rfl (by decide) (Nat.le_of_ble_eq_true rfl) fun C hC => ?_
  rw [Try.ntmps20]
  replace hC : C.nb = 0 := hC
  refine vc_seq fun K1 hK1 => ?_
  refine vc_region ?_
  refine vo_assign_pv rfl rfl ?_
  refine vo_nil ?_
  refine hK1 _ ?_
  refine vc_seq fun K2 hK2 => ?_
  refine vc_seq fun K3 hK3 => ?_
  refine vc_region ?_
  refine vo_move_pv rfl rfl ?_
  refine vo_move_pv rfl rfl ?_
  refine vo_move_pv rfl rfl ?_
  refine vo_call0 Try.func39 rfl rfl rfl rfl (validField_sat hbases hlbases hslots hlslots) ?_
  rintro _ _ ⟨rfl, rfl⟩
  refine ⟨rfl, rfl, .inl rfl, ?_⟩
  refine vo_not rfl rfl ?_
  refine vo_move_pv rfl rfl ?_
  refine vo_split 16 rfl (fun hg1 => ?_) (fun hg1 => ?_)
  · try simp only [decide_eq_true_eq, decide_eq_false_iff_not, beq_iff_eq, bne_iff_ne, beq_eq_false_iff_ne, bne_eq_false_iff_eq, Bool.not_eq_true, Bool.not_eq_false, Bool.not_eq_eq_eq_not, Bool.not_true, Bool.not_false, List.length_map, Int.not_lt, Int.not_le, ne_eq, Decidable.not_not] at hg1
    refine vo_guard_off rfl rfl rfl rfl rfl ?_
    refine vo_guard_off rfl rfl rfl rfl rfl ?_
    refine vo_pick_t rfl rfl ?_
    refine vo_move_pv rfl rfl ?_
    refine vo_guard_off rfl rfl rfl rfl rfl ?_
    refine vo_guard_off rfl rfl rfl rfl rfl ?_
    refine vo_guard_off rfl rfl rfl rfl rfl ?_
    refine vo_guard_off rfl rfl rfl rfl rfl ?_
    refine vo_guard_off rfl rfl rfl rfl rfl ?_
    refine vo_pick_t rfl rfl ?_
    refine vo_nil ?_
    refine hK3 _ ?_
    refine vc_cond_t rfl ?_
    refine vc_seq fun K4 hK4 => ?_
    refine vc_region ?_
    refine vo_assign_pv rfl rfl ?_
    refine vo_nil ?_
    refine hK4 _ ?_
    refine vc_ret ?_
    change retPv _ _ _ _ _
    refine retPv_mk rfl rfl rfl ⟨?_, rfl⟩
    refine (congrArg (fun b => [i64 b]) (?_ : _ = _) : [i64 _] = [i64 _])
    rw [bbR_no hg1]
  · try simp only [decide_eq_true_eq, decide_eq_false_iff_not, beq_iff_eq, bne_iff_ne, beq_eq_false_iff_ne, bne_eq_false_iff_eq, Bool.not_eq_true, Bool.not_eq_false, Bool.not_eq_eq_eq_not, Bool.not_true, Bool.not_false, List.length_map, Int.not_lt, Int.not_le, ne_eq, Decidable.not_not] at hg1
    obtain ⟨hs, h0, h1⟩ := hg1
    obtain ⟨n, rfl⟩ := Int.eq_ofNat_of_zero_le h0
    have hn : n < bases.length := by omega
    refine vo_guard_on rfl rfl rfl ?_
    refine vo_move_pv rfl rfl ?_
    refine vo_guard_on rfl rfl rfl ?_
    refine vo_binI rfl rfl rfl rfl trivial ?_
    refine vo_pick_f rfl rfl ?_
    refine vo_move_pv rfl rfl ?_
    refine vo_split 20 rfl (fun hg2 => ?_) (fun hg2 => ?_)
    · try simp only [decide_eq_true_eq, decide_eq_false_iff_not, beq_iff_eq, bne_iff_ne, beq_eq_false_iff_ne, bne_eq_false_iff_eq, Bool.not_eq_true, Bool.not_eq_false, Bool.not_eq_eq_eq_not, Bool.not_true, Bool.not_false, List.length_map, Int.not_lt, Int.not_le, ne_eq, Decidable.not_not] at hg2
      refine vo_guard_off rfl rfl rfl rfl rfl ?_
      refine vo_guard_off rfl rfl rfl rfl rfl ?_
      refine vo_guard_off rfl rfl rfl rfl rfl ?_
      refine vo_guard_off rfl rfl rfl rfl rfl ?_
      refine vo_guard_off rfl rfl rfl rfl rfl ?_
      refine vo_pick_t rfl rfl ?_
      refine vo_nil ?_
      refine hK3 _ ?_
      refine vc_cond_t rfl ?_
      refine vc_seq fun K5 hK5 => ?_
      refine vc_region ?_
      refine vo_assign_pv rfl rfl ?_
      refine vo_nil ?_
      refine hK5 _ ?_
      refine vc_ret ?_
      change retPv _ _ _ _ _
      refine retPv_mk rfl rfl rfl ⟨?_, rfl⟩
      refine (congrArg (fun b => [i64 b]) (?_ : _ = _) : [i64 _] = [i64 _])
      have e : n = 0 := by omega
      subst e
      rw [bbR_of hs hn]; rfl
    · try simp only [decide_eq_true_eq, decide_eq_false_iff_not, beq_iff_eq, bne_iff_ne, beq_eq_false_iff_ne, bne_eq_false_iff_eq, Bool.not_eq_true, Bool.not_eq_false, Bool.not_eq_eq_eq_not, Bool.not_true, Bool.not_false, List.length_map, Int.not_lt, Int.not_le, ne_eq, Decidable.not_not] at hg2
      refine vo_guard_on rfl rfl rfl ?_
      refine vo_move_pv rfl rfl ?_
      refine vo_guard_on rfl rfl rfl ?_
      refine vo_move_pv rfl rfl ?_
      refine vo_guard_on rfl rfl rfl ?_
      refine vo_move_pv rfl rfl ?_
      refine vo_guard_on rfl rfl rfl ?_
      refine vo_call0 Try.func40 rfl rfl rfl rfl (solid_sat (z := n) hbases hlbases hslots hlslots hs (by omega) (by omega)) ?_
      rintro _ _ ⟨rfl, rfl⟩
      refine ⟨rfl, rfl, .inl rfl, ?_⟩
      refine vo_guard_on rfl rfl rfl ?_
      refine vo_binI rfl rfl rfl rfl trivial ?_
      refine vo_pick_f rfl rfl ?_
      refine vo_nil ?_
      refine hK3 _ ?_
      refine vc_cond rfl (fun hc3 => ?_) (fun hc3 => ?_)
      · try simp only [decide_eq_true_eq, decide_eq_false_iff_not, beq_iff_eq, bne_iff_ne, beq_eq_false_iff_ne, bne_eq_false_iff_eq, Bool.not_eq_true, Bool.not_eq_false, Bool.not_eq_eq_eq_not, Bool.not_true, Bool.not_false, List.length_map, Int.not_lt, Int.not_le, ne_eq, Decidable.not_not] at hc3
        rw [Int.toNat_natCast] at hc3
        refine vc_seq fun K6 hK6 => ?_
        refine vc_region ?_
        refine vo_assign_pv rfl rfl ?_
        refine vo_nil ?_
        refine hK6 _ ?_
        refine vc_ret ?_
        change retPv _ _ _ _ _
        refine retPv_mk rfl rfl rfl ⟨?_, rfl⟩
        refine (congrArg (fun b => [i64 b]) (?_ : _ = _) : [i64 _] = [i64 _])
        rw [bbR_of hs hn, bstM_neg hs hn (by omega)]
      · try simp only [decide_eq_true_eq, decide_eq_false_iff_not, beq_iff_eq, bne_iff_ne, beq_eq_false_iff_ne, bne_eq_false_iff_eq, Bool.not_eq_true, Bool.not_eq_false, Bool.not_eq_eq_eq_not, Bool.not_true, Bool.not_false, List.length_map, Int.not_lt, Int.not_le, ne_eq, Decidable.not_not] at hc3
        rw [Int.toNat_natCast] at hc3
        have hne := (hs.1.2.2.2 n hn (by omega)).1
        have hlen := List.length_pos_iff.2 hne
        have h4 := hs.1.at4 hn
        have hb0 := hs.1.bd (getD_mem hlen 0)
        refine vc_skip ?_
        refine hK2 _ ?_
        refine vc_seq fun K7 hK7 => ?_
        refine vc_region ?_
        refine vo_move_pv rfl rfl ?_
        refine vo_move_pv rfl rfl ?_
        refine vo_index_pv (.sl none 1 []) rfl rfl rfl E23.und inf30 sz30 sd sd ?_
        simp only [Int.toNat_natCast, Int.toNat_zero, getD_ints, getD_intss, getD_bools, getD_bytes, PV.cells]
        refine vo_load_adr rfl rfl Try.underlying30 rfl ?_
        refine vo_index_pv (.int .i64 0) rfl rfl rfl E30.und inf3 sz3 sd sd ?_
        simp only [Int.toNat_natCast, Int.toNat_zero, getD_ints, getD_intss, getD_bools, getD_bytes, PV.cells]
        refine vo_load_adr rfl rfl Try.underlying3 rfl ?_
        refine vo_assign_pv rfl rfl ?_
        refine vo_nil ?_
        refine hK7 _ ?_
        refine vc_seq fun K8 hK8 => ?_
        refine vc_seq fun K9 hK9 => ?_
        refine vc_region ?_
        refine vo_assign_pv rfl rfl ?_
        refine vo_nil ?_
        refine hK9 _ ?_
        refine vc_block ?_
        refine vc_stN ?_
        refine vc_loopF [0, 1, 2] [7, 8] [.pv false (.sl nl0 1 (bases.map ints)), .pv false (.sl nl1 1 (slots.map ints)), i64 n] _ (fun mz vs => ∃ (k : Nat) (best : Int), mz = (bases.getD n []).length - k ∧ ((1 ≤ k ∧ k ≤ (bases.getD n []).length)) ∧ (bbF bases slots ((bases.getD n []).getD 0 0) ((bases.getD n []).drop 1) = bbF bases slots best ((bases.getD n []).drop k)) ∧ (0 ≤ best ∧ best < n) ∧ vs = [i64 best, i64 k]) ((bases.getD n []).length - 1) rfl rfl (le_len hC rfl) ⟨rfl, rfl, rfl⟩ ⟨1, ((bases.getD n []).getD 0 0), rfl, (by omega), rfl, hb0, rfl⟩ ?_
        rintro mz vs - ⟨k, best, rfl, hk, hf, hbb, rfl⟩
        refine vc_stN ?_
        refine vc_seq fun K10 hK10 => ?_
        refine vc_seq fun K11 hK11 => ?_
        refine vc_region ?_
        refine vo_move_pv rfl rfl ?_
        refine vo_move_pv rfl rfl ?_
        refine vo_move_pv rfl rfl ?_
        refine vo_index_pv (.sl none 1 []) rfl rfl rfl E23.und inf30 sz30 sd sd ?_
        simp only [Int.toNat_natCast, Int.toNat_zero, getD_ints, getD_intss, getD_bools, getD_bytes, PV.cells]
        refine vo_load_adr rfl rfl Try.underlying30 rfl ?_
        refine vo_len_pv rfl rfl Try.underlying30 ?_
        refine vo_binI rfl rfl rfl rfl trivial ?_
        refine vo_nil ?_
        refine hK11 _ ?_
        refine vc_cond rfl (fun hc4 => ?_) (fun hc4 => ?_)
        · try simp only [decide_eq_true_eq, decide_eq_false_iff_not, beq_iff_eq, bne_iff_ne, beq_eq_false_iff_ne, bne_eq_false_iff_eq, Bool.not_eq_true, Bool.not_eq_false, Bool.not_eq_eq_eq_not, Bool.not_true, Bool.not_false, List.length_map, Int.not_lt, Int.not_le, ne_eq, Decidable.not_not] at hc4
          have hm := getD_mem (show k < (bases.getD n []).length by omega) 0
          have hb := hs.1.bd hm
          have hsl := solM_lt hs (show ((bases.getD n []).getD k 0).toNat < bases.length by omega)
          have hsp := sol_base_pos hs hn hc3 hm
          have hsl2 := solM_lt hs (show best.toNat < bases.length by omega)
          refine vc_skip ?_
          refine hK10 _ ?_
          refine vc_seq fun K12 hK12 => ?_
          refine vc_block ?_
          refine vc_seq fun K13 hK13 => ?_
          refine vc_region ?_
          refine vo_move_pv rfl rfl ?_
          refine vo_move_pv rfl rfl ?_
          refine vo_move_pv rfl rfl ?_
          refine vo_call0 Try.func40 rfl rfl rfl rfl (solid_sat (z := best) hbases hlbases hslots hlslots hs (by omega) (by omega)) ?_
          rintro _ _ ⟨rfl, rfl⟩
          refine ⟨rfl, rfl, .inl rfl, ?_⟩
          refine vo_assign_pv rfl rfl ?_
          refine vo_nil ?_
          refine hK13 _ ?_
          refine vc_seq fun K14 hK14 => ?_
          refine vc_region ?_
          refine vo_move_pv rfl rfl ?_
          refine vo_move_pv rfl rfl ?_
          refine vo_move_pv rfl rfl ?_
          refine vo_move_pv rfl rfl ?_
          refine vo_index_pv (.sl none 1 []) rfl rfl rfl E23.und inf30 sz30 sd sd ?_
          simp only [Int.toNat_natCast, Int.toNat_zero, getD_ints, getD_intss, getD_bools, getD_bytes, PV.cells]
          refine vo_load_adr rfl rfl Try.underlying30 rfl ?_
          refine vo_move_pv rfl rfl ?_
          refine vo_index_pv (.int .i64 0) rfl rfl rfl E30.und inf3 sz3 sd sd ?_
          simp only [Int.toNat_natCast, Int.toNat_zero, getD_ints, getD_intss, getD_bools, getD_bytes, PV.cells]
          refine vo_load_adr rfl rfl Try.underlying3 rfl ?_
          refine vo_call0 Try.func40 rfl rfl rfl rfl (solid_sat (z := ((bases.getD n []).getD k 0)) hbases hlbases hslots hlslots hs (by omega) (by omega)) ?_
          rintro _ _ ⟨rfl, rfl⟩
          refine ⟨rfl, rfl, .inl rfl, ?_⟩
          refine vo_assign_pv rfl rfl ?_
          refine vo_nil ?_
          refine hK14 _ ?_
          refine vc_seq fun K15 hK15 => ?_
          refine vc_region ?_
          refine vo_move_pv rfl rfl ?_
          refine vo_move_pv rfl rfl ?_
          refine vo_binI rfl rfl rfl rfl trivial ?_
          refine vo_move_pv rfl rfl ?_
          refine vo_split 59 rfl (fun hg5 => ?_) (fun hg5 => ?_)
          · try simp only [decide_eq_true_eq, decide_eq_false_iff_not, beq_iff_eq, bne_iff_ne, beq_eq_false_iff_ne, bne_eq_false_iff_eq, Bool.not_eq_true, Bool.not_eq_false, Bool.not_eq_eq_eq_not, Bool.not_true, Bool.not_false, List.length_map, Int.not_lt, Int.not_le, ne_eq, Decidable.not_not] at hg5
            refine vo_guard_on rfl rfl rfl ?_
            refine vo_move_pv rfl rfl ?_
            refine vo_guard_on rfl rfl rfl ?_
            refine vo_move_pv rfl rfl ?_
            refine vo_guard_on rfl rfl rfl ?_
            refine vo_call [] Try.func45 rfl rfl rfl rfl rfl rfl rfl (above_satR (z := (solM bases slots ((bases.getD n []).getD k 0).toNat)) hbases hlbases hs.1 (by omega) (by omega)) ?_
            rintro _ _ ⟨nl9, rfl, rfl⟩
            refine ⟨Nat.le_of_ble_eq_true rfl, ⟨rfl, rfl, rfl⟩, .inl rfl, ?_⟩
            refine vo_stN ?_
            refine vo_guard_on rfl rfl rfl ?_
            refine vo_move_pv rfl rfl ?_
            refine vo_guard_on rfl rfl rfl ?_
            refine vo_call0 Try.func44 rfl rfl rfl rfl (placeIn_sat (list := abvR bases (solM bases slots ((bases.getD n []).getD k 0).toNat)) (n := (solM bases slots best.toNat)) (abvR_len hbases)) ?_
            rintro _ _ ⟨rfl, rfl⟩
            refine ⟨rfl, rfl, .inr rfl, ?_⟩
            refine vo_guard_on rfl rfl rfl ?_
            refine vo_binI rfl rfl rfl rfl trivial ?_
            refine vo_pick_t rfl rfl ?_
            refine vo_nil ?_
            refine hK15 _ ?_
            refine vc_cond rfl (fun hc6 => ?_) (fun hc6 => ?_)
            · try simp only [decide_eq_true_eq, decide_eq_false_iff_not, beq_iff_eq, bne_iff_ne, beq_eq_false_iff_ne, bne_eq_false_iff_eq, Bool.not_eq_true, Bool.not_eq_false, Bool.not_eq_eq_eq_not, Bool.not_true, Bool.not_false, List.length_map, Int.not_lt, Int.not_le, ne_eq, Decidable.not_not] at hc6
              refine vc_region ?_
              refine vo_move_pv rfl rfl ?_
              refine vo_move_pv rfl rfl ?_
              refine vo_index_pv (.sl none 1 []) rfl rfl rfl E23.und inf30 sz30 sd sd ?_
              simp only [Int.toNat_natCast, Int.toNat_zero, getD_ints, getD_intss, getD_bools, getD_bytes, PV.cells]
              refine vo_load_adr rfl rfl Try.underlying30 rfl ?_
              refine vo_move_pv rfl rfl ?_
              refine vo_index_pv (.int .i64 0) rfl rfl rfl E30.und inf3 sz3 sd sd ?_
              simp only [Int.toNat_natCast, Int.toNat_zero, getD_ints, getD_intss, getD_bools, getD_bytes, PV.cells]
              refine vo_load_adr rfl rfl Try.underlying3 rfl ?_
              refine vo_assign_pv rfl rfl ?_
              refine vo_nil ?_
              refine hK12 _ ?_
              refine vc_region ?_
              refine vo_move_pv rfl rfl ?_
              refine vo_binI rfl rfl rfl rfl sd ?_
              refine vo_assign_pv rfl rfl ?_
              refine vo_nil ?_
              change againF _ _ _ _ _ _ _ _ _
              refine againF_mk rfl rfl rfl rfl rfl rfl ⟨_, ?_, k + 1, ((bases.getD n []).getD k 0), rfl, ?_, ?_, ?_, rfl⟩
              · omega
              · omega
              · rw [hf, bbF_drop (by omega), if_pos ⟨by omega, (findM_mem ((solM bases slots best.toNat)) (abvR bases (solM bases slots ((bases.getD n []).getD k 0).toNat)) 0 (by omega)).1 (by omega)⟩]
              · exact hb
            · try simp only [decide_eq_true_eq, decide_eq_false_iff_not, beq_iff_eq, bne_iff_ne, beq_eq_false_iff_ne, bne_eq_false_iff_eq, Bool.not_eq_true, Bool.not_eq_false, Bool.not_eq_eq_eq_not, Bool.not_true, Bool.not_false, List.length_map, Int.not_lt, Int.not_le, ne_eq, Decidable.not_not] at hc6
              refine vc_skip ?_
              refine hK12 _ ?_
              refine vc_region ?_
              refine vo_move_pv rfl rfl ?_
              refine vo_binI rfl rfl rfl rfl sd ?_
              refine vo_assign_pv rfl rfl ?_
              refine vo_nil ?_
              change againF _ _ _ _ _ _ _ _ _
              refine againF_mk rfl rfl rfl rfl rfl rfl ⟨_, ?_, k + 1, best, rfl, ?_, ?_, ?_, rfl⟩
              · omega
              · omega
              · rw [hf, bbF_drop (by omega), if_neg (fun h => absurd h.2 ((findM_not ((solM bases slots best.toNat)) (abvR bases (solM bases slots ((bases.getD n []).getD k 0).toNat)) 0 (by omega)).1 (by omega)))]
              · exact hbb
          · try simp only [decide_eq_true_eq, decide_eq_false_iff_not, beq_iff_eq, bne_iff_ne, beq_eq_false_iff_ne, bne_eq_false_iff_eq, Bool.not_eq_true, Bool.not_eq_false, Bool.not_eq_eq_eq_not, Bool.not_true, Bool.not_false, List.length_map, Int.not_lt, Int.not_le, ne_eq, Decidable.not_not] at hg5
            refine vo_guard_off rfl rfl rfl rfl rfl ?_
            refine vo_guard_off rfl rfl rfl rfl rfl ?_
            refine vo_guard_off rfl rfl rfl rfl rfl ?_
            refine vo_guard_off rfl rfl rfl rfl rfl ?_
            refine vo_guard_off rfl rfl rfl rfl rfl ?_
            refine vo_guard_off rfl rfl rfl rfl rfl ?_
            refine vo_pick_f rfl rfl ?_
            refine vo_nil ?_
            refine hK15 _ ?_
            refine vc_cond_f rfl ?_
            refine vc_skip ?_
            refine hK12 _ ?_
            refine vc_region ?_
            refine vo_move_pv rfl rfl ?_
            refine vo_binI rfl rfl rfl rfl sd ?_
            refine vo_assign_pv rfl rfl ?_
            refine vo_nil ?_
            change againF _ _ _ _ _ _ _ _ _
            refine againF_mk rfl rfl rfl rfl rfl rfl ⟨_, ?_, k + 1, best, rfl, ?_, ?_, ?_, rfl⟩
            · omega
            · omega
            · rw [hf, bbF_drop (by omega), if_neg (fun h => h.1 (by omega))]
            · exact hbb
        · try simp only [decide_eq_true_eq, decide_eq_false_iff_not, beq_iff_eq, bne_iff_ne, beq_eq_false_iff_ne, bne_eq_false_iff_eq, Bool.not_eq_true, Bool.not_eq_false, Bool.not_eq_eq_eq_not, Bool.not_true, Bool.not_false, List.length_map, Int.not_lt, Int.not_le, ne_eq, Decidable.not_not] at hc4
          refine vc_exit ?_
          refine hK8 _ ?_
          refine vc_seq fun K16 hK16 => ?_
          refine vc_region ?_
          refine vo_move_pv rfl rfl ?_
          refine vo_assign_pv rfl rfl ?_
          refine vo_nil ?_
          refine hK16 _ ?_
          refine vc_ret ?_
          change retPv _ _ _ _ _
          refine retPv_mk rfl rfl rfl ⟨?_, rfl⟩
          refine (congrArg (fun b => [i64 b]) (?_ : _ = _) : [i64 _] = [i64 _])
          rw [bbR_of hs hn, ← bb_bst hs hn (by omega) (by omega), hf, bbF_end (by omega)]

end Go.Vl
