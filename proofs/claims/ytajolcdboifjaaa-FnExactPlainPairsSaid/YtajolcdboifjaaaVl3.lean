/- Part 3 of the texts that the proof of FnExactPlainPairs is built on. -/
import Derived.Test.YtajolcdboifjaaaVl2
namespace Go.Vl
set_option linter.unusedVariables false
set_option linter.unusedSimpArgs false
open Go.Proofs

theorem getE_pairs {l : List (Int × Int)} {i : Nat} (h : i < l.length) : (l.map pairP)[i]? = some (.agg [.int .i64 (l.getD i (0, 0)).1, .int .i64 (l.getD i (0, 0)).2]) := by
  rw [List.getElem?_map, List.getElem?_eq_getElem h]
  simp [List.getD, List.getElem?_eq_getElem h]
/-- Pairs after a change. -/
def chg (l : List (Int × Int)) (o : OpM) : List (Int × Int) :=
  if o.gone = true then (if 0 ≤ findM o.name (nms l) 0 then l.take (findM o.name (nms l) 0).toNat ++ l.drop (findM o.name (nms l) 0 + 1).toNat else l)
  else if 0 ≤ findM o.name (nms l) 0 then l.set (findM o.name (nms l) 0).toNat ((l.getD (findM o.name (nms l) 0).toNat (0, 0)).1, o.value) else l ++ [(o.name, o.value)]
theorem chg_len (l : List (Int × Int)) (o : OpM) : (chg l o).length ≤ l.length + 1 := by
  unfold chg
  split
  · split
    · rw [List.length_append, List.length_take, List.length_drop]; omega
    · omega
  · split
    · rw [List.length_set]; omega
    · simp
def plpK (list : List OpM) (who : Int) (k : Nat) : List (Int × Int) := (list.take k).foldl (fun l o => if o.who = who then chg l o else l) []
theorem plpK_yes {list : List OpM} {who : Int} {k : Nat} (h : k < list.length) (hw : (list.getD k ⟨0, 0, 0, false⟩).who = who) : plpK list who (k+1) = chg (plpK list who k) (list.getD k ⟨0, 0, 0, false⟩) := by
  have : list.take (k+1) = list.take k ++ [list.getD k ⟨0, 0, 0, false⟩] := by rw [List.take_add_one, List.getD, List.getElem?_eq_getElem h]; rfl
  unfold plpK; rw [this, List.foldl_append, List.foldl_cons, List.foldl_nil, if_pos hw]
theorem plpK_no {list : List OpM} {who : Int} {k : Nat} (h : k < list.length) (hw : ¬ (list.getD k ⟨0, 0, 0, false⟩).who = who) : plpK list who (k+1) = plpK list who k := by
  have : list.take (k+1) = list.take k ++ [list.getD k ⟨0, 0, 0, false⟩] := by rw [List.take_add_one, List.getD, List.getElem?_eq_getElem h]; rfl
  unfold plpK; rw [this, List.foldl_append, List.foldl_cons, List.foldl_nil, if_neg hw]
theorem plpK_len {list : List OpM} {who : Int} : ∀ k, k ≤ list.length → (plpK list who k).length ≤ k
  | 0, _ => by simp [plpK]
  | k+1, h => by
    have ih := plpK_len (list := list) (who := who) k (by omega)
    by_cases hw : (list.getD k ⟨0, 0, 0, false⟩).who = who
    · rw [plpK_yes (by omega) hw]; have := chg_len (plpK list who k) (list.getD k ⟨0, 0, 0, false⟩); omega
    · rw [plpK_no (by omega) hw]; omega
def plp (list : List OpM) (who : Int) : List (Int × Int) := if VOps list ∧ 0 ≤ who ∧ who ≤ 3 then plpK list who list.length else []
theorem plp_len (list : List OpM) (who : Int) : (plp list who).length ≤ 40 := by
  unfold plp
  split
  · rename_i h; have := plpK_len (list := list) (who := who) list.length (Nat.le_refl _); have := h.1.1; omega
  · simp

theorem change_sat {nl0 : Option Bool} {list : List (Int × Int)} {o : OpM} (hlist : list.length < 1000000000)  : SatAt Try.prog 70 [.pv false (.sl nl0 2 (list.map pairP)), .pv false (opP o)] [] (fun res rows => ∃ nl, res = [.pv true (.sl nl 2 ((chg list o).map pairP))] ∧ rows = []) := by
  refine sat_entry_G (rs := [(4, none)]) Try.func70 rfl rfl (Nat.le_of_ble_eq_true rfl) (Nat.le_of_ble_eq_true rfl) (resTs1 trivial) fun C hC => ?_
  rw [Try.ntmps70]
  replace hC : C.nb = 0 := hC
  refine vc_seq fun K1 hK1 => ?_
  refine vc_region ?_
  refine vo_box rfl rfl ?_
  refine vo_stM ?_
  refine vo_assign_pv rfl rfl ?_
  refine vo_nil ?_
  refine hK1 _ ?_
  refine vc_seq fun K2 hK2 => ?_
  refine vc_region ?_
  refine vo_buildSlice E32 rfl rfl rfl rfl rfl ?_
  refine vo_stM ?_
  refine vo_move_pv rfl rfl ?_
  refine vo_append E32 rfl (by omega) rfl rfl rfl sd sd ?_
  refine vo_stM ?_
  try simp only [app_ints, app_intss, app_bools, List.nil_append, app_pairs, ← List.map_take, ← List.map_drop, ← List.map_append]
  refine vo_clean 1 rfl (scal_pairs _) ?_
  refine vo_stM ?_
  refine vo_assign_ref rfl rfl ?_
  refine vo_nil ?_
  refine hK2 _ ?_
  refine vc_seq fun K3 hK3 => ?_
  refine vc_region ?_
  refine vo_move_ref rfl rfl ?_
  refine vo_fieldAddr_ptr rfl rfl Try.underlying46 rfl inf3 (by rw [sz3]; decide) ?_
  try simp only [Nat.zero_add]
  refine vo_load_var rfl rfl rfl Try.underlying3 rfl rfl ?_
  refine vo_call0 Try.func62 rfl rfl rfl rfl (pairAt_sat (by omega)) ?_
  rintro _ _ ⟨rfl, rfl⟩
  refine ⟨rfl, rfl, .inr rfl, ?_⟩
  refine vo_stM ?_
  refine vo_assign_pv rfl rfl ?_
  refine vo_nil ?_
  refine hK3 _ ?_
  refine vc_seq fun K4 hK4 => ?_
  refine vc_seq fun K5 hK5 => ?_
  refine vc_region ?_
  refine vo_fieldAddr_ptr rfl rfl Try.underlying46 rfl inf4 (by rw [sz4]; decide) ?_
  try simp only [Nat.zero_add]
  refine vo_load_var rfl rfl rfl Try.underlying4 rfl rfl ?_
  refine vo_move_pv rfl rfl ?_
  refine vo_split 16 rfl (fun hg1 => ?_) (fun hg1 => ?_)
  · try simp only [decide_eq_true_eq, decide_eq_false_iff_not, beq_iff_eq, bne_iff_ne, beq_eq_false_iff_ne, bne_eq_false_iff_eq, Bool.not_eq_true, Bool.not_eq_false, Bool.not_eq_eq_eq_not, Bool.not_true, Bool.not_false, List.length_map, Int.not_lt, Int.not_le, ne_eq, Decidable.not_not] at hg1
    refine vo_guard_on rfl rfl rfl ?_
    refine vo_move_pv rfl rfl ?_
    refine vo_guard_on rfl rfl rfl ?_
    refine vo_binI rfl rfl rfl rfl trivial ?_
    refine vo_pick_t rfl rfl ?_
    refine vo_nil ?_
    refine hK5 _ ?_
    refine vc_cond rfl (fun hc2 => ?_) (fun hc2 => ?_)
    · try simp only [decide_eq_true_eq, decide_eq_false_iff_not, beq_iff_eq, bne_iff_ne, beq_eq_false_iff_ne, bne_eq_false_iff_eq, Bool.not_eq_true, Bool.not_eq_false, Bool.not_eq_eq_eq_not, Bool.not_true, Bool.not_false, List.length_map, Int.not_lt, Int.not_le, ne_eq, Decidable.not_not] at hc2
      have hlt := findM_lt hc2
      refine vc_seq fun K6 hK6 => ?_
      refine vc_drawL [7, 8] (by kernel_rfl) ?_
      change VL [7, 8] _ _ _ 9 _ _ _
      refine vl_light 0 [1, 3, 4, 5, 6] rfl rfl rfl (by kernel_rfl) (by kernel_rfl) (by kernel_rfl) (by kernel_rfl) (by kernel_rfl) (wnt_none rfl) (lt_move_ref rfl) ?_
      refine vl_light 1 [0, 3, 4, 5, 6] rfl rfl rfl (by kernel_rfl) (by kernel_rfl) (by kernel_rfl) (by kernel_rfl) (by kernel_rfl) (wnt_none rfl) (lt_move_pv rfl) ?_
      refine vl_light 2 [0, 1, 3, 4, 5, 6] rfl rfl rfl (by kernel_rfl) (by kernel_rfl) (by kernel_rfl) (by kernel_rfl) (by kernel_rfl) (wnt_none rfl) (lt_slice_ref rfl rfl rfl rfl E32.und inf37 sz37 sd sd sd) ?_
      try simp only [Int.toNat_natCast, Int.toNat_zero]
      refine vl_light 3 [0, 1, 2, 4, 5] rfl rfl rfl (by kernel_rfl) (by kernel_rfl) (by kernel_rfl) (by kernel_rfl) (by kernel_rfl) (wnt_none rfl) (lt_move_ref rfl) ?_
      refine vl_light 4 [0, 1, 2, 3] rfl rfl rfl (by kernel_rfl) (by kernel_rfl) (by kernel_rfl) (by kernel_rfl) (by kernel_rfl) (wnt_none rfl) (lt_move_pv rfl) ?_
      refine vl_light 5 [0, 1, 2, 3, 4] rfl rfl rfl (by kernel_rfl) (by kernel_rfl) (by kernel_rfl) (by kernel_rfl) (by kernel_rfl) (wnt_none rfl) (lt_binI rfl rfl rfl sd) ?_
      refine vl_light 6 [0, 1, 2, 3, 4, 5] rfl rfl rfl (by kernel_rfl) (by kernel_rfl) (by kernel_rfl) (by kernel_rfl) (by kernel_rfl) (wnt_none rfl) (lt_slice_ref rfl rfl rfl rfl E32.und inf37 sz37 sd sd sd) ?_
      try simp only [Int.toNat_natCast, Int.toNat_zero]
      refine vl_one 7 rfl (by kernel_rfl) rfl ?_
      refine vo_append_del rfl (by omega) rfl rfl rfl sd sd sd sd E32.und inf37 sz37 ?_
      refine vo_stM ?_
      try simp only [app_ints, app_intss, app_bools, List.nil_append, app_pairs, ← List.map_take, ← List.map_drop, ← List.map_append]
      refine vo_unsub 27 rfl rfl sd ?_
      refine vo_stM ?_
      refine vo_done ⟨rfl, ?_⟩
      refine vl_one 8 rfl (by kernel_rfl) rfl ?_
      refine vo_assign_ref rfl rfl ?_
      refine vo_done ⟨rfl, ?_⟩
      refine vl_nil (by kernel_rfl) ?_
      refine hK6 _ ?_
      refine vc_expose 1 (by omega) rfl ?_
      refine vc_stM ?_
      refine vc_ret ?_
      change retQ _ _ _ _ _
      refine retQ_sel [] (srows := []) (.inr rfl) hC rfl rfl rfl rfl rfl rfl rfl ?_
      unfold chg; rw [if_pos hg1, if_pos hc2]; exact ⟨_, rfl, rfl⟩
    · try simp only [decide_eq_true_eq, decide_eq_false_iff_not, beq_iff_eq, bne_iff_ne, beq_eq_false_iff_ne, bne_eq_false_iff_eq, Bool.not_eq_true, Bool.not_eq_false, Bool.not_eq_eq_eq_not, Bool.not_true, Bool.not_false, List.length_map, Int.not_lt, Int.not_le, ne_eq, Decidable.not_not] at hc2
      refine vc_skip ?_
      refine hK4 _ ?_
      refine vc_seq fun K7 hK7 => ?_
      refine vc_seq fun K8 hK8 => ?_
      refine vc_region ?_
      refine vo_fieldAddr_ptr rfl rfl Try.underlying46 rfl inf4 (by rw [sz4]; decide) ?_
      try simp only [Nat.zero_add]
      refine vo_load_var rfl rfl rfl Try.underlying4 rfl rfl ?_
      refine vo_nil ?_
      refine hK8 _ ?_
      refine vc_cond rfl (fun hc3 => ?_) (fun hc3 => ?_)
      · try simp only [decide_eq_true_eq, decide_eq_false_iff_not, beq_iff_eq, bne_iff_ne, beq_eq_false_iff_ne, bne_eq_false_iff_eq, Bool.not_eq_true, Bool.not_eq_false, Bool.not_eq_eq_eq_not, Bool.not_true, Bool.not_false, List.length_map, Int.not_lt, Int.not_le, ne_eq, Decidable.not_not] at hc3
        refine vc_seq fun K9 hK9 => ?_
        refine vc_region ?_
        refine vo_move_ref rfl rfl ?_
        refine vo_assign_ref rfl rfl ?_
        refine vo_nil ?_
        refine hK9 _ ?_
        refine vc_expose 1 (by omega) rfl ?_
        refine vc_stM ?_
        refine vc_ret ?_
        change retQ _ _ _ _ _
        refine retQ_sel [] (srows := []) (.inr rfl) hC rfl rfl rfl rfl rfl rfl rfl ?_
        unfold chg; rw [if_pos hg1, if_neg (by omega)]; exact ⟨_, rfl, rfl⟩
      · try simp only [decide_eq_true_eq, decide_eq_false_iff_not, beq_iff_eq, bne_iff_ne, beq_eq_false_iff_ne, bne_eq_false_iff_eq, Bool.not_eq_true, Bool.not_eq_false, Bool.not_eq_eq_eq_not, Bool.not_true, Bool.not_false, List.length_map, Int.not_lt, Int.not_le, ne_eq, Decidable.not_not] at hc3
        refine vc_skip ?_
        refine hK7 _ ?_
        refine vc_seq fun K10 hK10 => ?_
        refine vc_seq fun K11 hK11 => ?_
        refine vc_region ?_
        refine vo_move_pv rfl rfl ?_
        refine vo_binI rfl rfl rfl rfl trivial ?_
        refine vo_nil ?_
        refine hK11 _ ?_
        refine vc_cond rfl (fun hc4 => ?_) (fun hc4 => ?_)
        · try simp only [decide_eq_true_eq, decide_eq_false_iff_not, beq_iff_eq, bne_iff_ne, beq_eq_false_iff_ne, bne_eq_false_iff_eq, Bool.not_eq_true, Bool.not_eq_false, Bool.not_eq_eq_eq_not, Bool.not_true, Bool.not_false, List.length_map, Int.not_lt, Int.not_le, ne_eq, Decidable.not_not] at hc4
          have hlt := findM_lt hc4
          refine vc_seq fun K12 hK12 => ?_
          refine vc_region ?_
          refine vo_move_ref rfl rfl ?_
          refine vo_move_pv rfl rfl ?_
          refine vo_fieldAddr_ptr rfl rfl Try.underlying46 rfl inf3 (by rw [sz3]; decide) ?_
          try simp only [Nat.zero_add]
          refine vo_load_var rfl rfl rfl Try.underlying3 rfl rfl ?_
          refine vo_index_ref rfl rfl rfl rfl E32.und inf37 sz37 sd sd ?_
          try simp only [Int.toNat_natCast]
          refine vo_fieldAddr_ptr rfl rfl Try.underlying37 rfl inf3 (by rw [sz3]; decide) ?_
          try simp only [Nat.zero_add]
          refine vo_store_ownC rfl rfl rfl rfl inf3 sz3 (getE_pairs (by omega)) rfl ?_
          try simp only [List.set_cons_zero, List.set_cons_succ, Int.toNat_natCast, Int.toNat_zero, set_pair1]
          refine vo_stM ?_
          refine vo_nil ?_
          refine hK12 _ ?_
          refine vc_seq fun K13 hK13 => ?_
          refine vc_region ?_
          refine vo_move_ref rfl rfl ?_
          refine vo_assign_ref rfl rfl ?_
          refine vo_nil ?_
          refine hK13 _ ?_
          refine vc_expose 1 (by omega) rfl ?_
          refine vc_stM ?_
          refine vc_ret ?_
          change retQ _ _ _ _ _
          refine retQ_sel [] (srows := []) (.inr rfl) hC rfl rfl rfl rfl rfl rfl rfl ?_
          first
            | (exfalso; rw [hg1] at hc3; cases hc3; done)
            | (exfalso; rw [hg1] at hc5; cases hc5; done)
            | (unfold chg; rw [if_neg (by simp [hg1]), if_pos (by assumption), ← set_pair1]; exact ⟨_, rfl, rfl⟩)
            | (unfold chg; rw [if_neg (by simp [hg1]), if_neg (by omega)]; exact ⟨_, rfl, rfl⟩)
        · try simp only [decide_eq_true_eq, decide_eq_false_iff_not, beq_iff_eq, bne_iff_ne, beq_eq_false_iff_ne, bne_eq_false_iff_eq, Bool.not_eq_true, Bool.not_eq_false, Bool.not_eq_eq_eq_not, Bool.not_true, Bool.not_false, List.length_map, Int.not_lt, Int.not_le, ne_eq, Decidable.not_not] at hc4
          refine vc_skip ?_
          refine hK10 _ ?_
          refine vc_seq fun K14 hK14 => ?_
          refine vc_region ?_
          refine vo_move_ref rfl rfl ?_
          refine vo_fieldAddr_ptr rfl rfl Try.underlying46 rfl inf3 (by rw [sz3]; decide) ?_
          try simp only [Nat.zero_add]
          refine vo_load_var rfl rfl rfl Try.underlying3 rfl rfl ?_
          refine vo_fieldAddr_ptr rfl rfl Try.underlying46 rfl inf3 (by rw [sz3]; decide) ?_
          try simp only [Nat.zero_add]
          refine vo_load_var rfl rfl rfl Try.underlying3 rfl rfl ?_
          refine vo_build S37 rfl rfl rfl ?_
          refine vo_stM ?_
          refine vo_buildSlice E32 rfl rfl rfl rfl rfl ?_
          refine vo_stM ?_
          refine vo_append E32 rfl (by omega) rfl rfl rfl sd sd ?_
          refine vo_stM ?_
          try simp only [app_ints, app_intss, app_bools, List.nil_append, app_pairs, ← List.map_take, ← List.map_drop, ← List.map_append]
          refine vo_assign_ref rfl rfl ?_
          refine vo_nil ?_
          refine hK14 _ ?_
          refine vc_expose 1 (by omega) rfl ?_
          refine vc_stM ?_
          refine vc_ret ?_
          change retQ _ _ _ _ _
          refine retQ_sel [] (srows := []) (.inr rfl) hC rfl rfl rfl rfl rfl rfl rfl ?_
          first
            | (exfalso; rw [hg1] at hc3; cases hc3; done)
            | (exfalso; rw [hg1] at hc5; cases hc5; done)
            | (unfold chg; rw [if_neg (by simp [hg1]), if_pos (by assumption), ← set_pair1]; exact ⟨_, rfl, rfl⟩)
            | (unfold chg; rw [if_neg (by simp [hg1]), if_neg (by omega)]; exact ⟨_, rfl, rfl⟩)
  · try simp only [decide_eq_true_eq, decide_eq_false_iff_not, beq_iff_eq, bne_iff_ne, beq_eq_false_iff_ne, bne_eq_false_iff_eq, Bool.not_eq_true, Bool.not_eq_false, Bool.not_eq_eq_eq_not, Bool.not_true, Bool.not_false, List.length_map, Int.not_lt, Int.not_le, ne_eq, Decidable.not_not] at hg1
    refine vo_guard_off rfl rfl rfl rfl rfl ?_
    refine vo_guard_off rfl rfl rfl rfl rfl ?_
    refine vo_pick_f rfl rfl ?_
    refine vo_nil ?_
    refine hK5 _ ?_
    refine vc_cond_f rfl ?_
    refine vc_skip ?_
    refine hK4 _ ?_
    refine vc_seq fun K15 hK15 => ?_
    refine vc_seq fun K16 hK16 => ?_
    refine vc_region ?_
    refine vo_fieldAddr_ptr rfl rfl Try.underlying46 rfl inf4 (by rw [sz4]; decide) ?_
    try simp only [Nat.zero_add]
    refine vo_load_var rfl rfl rfl Try.underlying4 rfl rfl ?_
    refine vo_nil ?_
    refine hK16 _ ?_
    refine vc_cond rfl (fun hc5 => ?_) (fun hc5 => ?_)
    · try simp only [decide_eq_true_eq, decide_eq_false_iff_not, beq_iff_eq, bne_iff_ne, beq_eq_false_iff_ne, bne_eq_false_iff_eq, Bool.not_eq_true, Bool.not_eq_false, Bool.not_eq_eq_eq_not, Bool.not_true, Bool.not_false, List.length_map, Int.not_lt, Int.not_le, ne_eq, Decidable.not_not] at hc5
      refine vc_seq fun K17 hK17 => ?_
      refine vc_region ?_
      refine vo_move_ref rfl rfl ?_
      refine vo_assign_ref rfl rfl ?_
      refine vo_nil ?_
      refine hK17 _ ?_
      refine vc_expose 1 (by omega) rfl ?_
      refine vc_stM ?_
      refine vc_ret ?_
      change retQ _ _ _ _ _
      refine retQ_sel [] (srows := []) (.inr rfl) hC rfl rfl rfl rfl rfl rfl rfl ?_
      first
        | (exfalso; rw [hg1] at hc3; cases hc3; done)
        | (exfalso; rw [hg1] at hc5; cases hc5; done)
        | (unfold chg; rw [if_neg (by simp [hg1]), if_pos (by assumption), ← set_pair1]; exact ⟨_, rfl, rfl⟩)
        | (unfold chg; rw [if_neg (by simp [hg1]), if_neg (by omega)]; exact ⟨_, rfl, rfl⟩)
    · try simp only [decide_eq_true_eq, decide_eq_false_iff_not, beq_iff_eq, bne_iff_ne, beq_eq_false_iff_ne, bne_eq_false_iff_eq, Bool.not_eq_true, Bool.not_eq_false, Bool.not_eq_eq_eq_not, Bool.not_true, Bool.not_false, List.length_map, Int.not_lt, Int.not_le, ne_eq, Decidable.not_not] at hc5
      refine vc_skip ?_
      refine hK15 _ ?_
      refine vc_seq fun K18 hK18 => ?_
      refine vc_seq fun K19 hK19 => ?_
      refine vc_region ?_
      refine vo_move_pv rfl rfl ?_
      refine vo_binI rfl rfl rfl rfl trivial ?_
      refine vo_nil ?_
      refine hK19 _ ?_
      refine vc_cond rfl (fun hc6 => ?_) (fun hc6 => ?_)
      · try simp only [decide_eq_true_eq, decide_eq_false_iff_not, beq_iff_eq, bne_iff_ne, beq_eq_false_iff_ne, bne_eq_false_iff_eq, Bool.not_eq_true, Bool.not_eq_false, Bool.not_eq_eq_eq_not, Bool.not_true, Bool.not_false, List.length_map, Int.not_lt, Int.not_le, ne_eq, Decidable.not_not] at hc6
        have hlt := findM_lt hc6
        refine vc_seq fun K20 hK20 => ?_
        refine vc_region ?_
        refine vo_move_ref rfl rfl ?_
        refine vo_move_pv rfl rfl ?_
        refine vo_fieldAddr_ptr rfl rfl Try.underlying46 rfl inf3 (by rw [sz3]; decide) ?_
        try simp only [Nat.zero_add]
        refine vo_load_var rfl rfl rfl Try.underlying3 rfl rfl ?_
        refine vo_index_ref rfl rfl rfl rfl E32.und inf37 sz37 sd sd ?_
        try simp only [Int.toNat_natCast]
        refine vo_fieldAddr_ptr rfl rfl Try.underlying37 rfl inf3 (by rw [sz3]; decide) ?_
        try simp only [Nat.zero_add]
        refine vo_store_ownC rfl rfl rfl rfl inf3 sz3 (getE_pairs (by omega)) rfl ?_
        try simp only [List.set_cons_zero, List.set_cons_succ, Int.toNat_natCast, Int.toNat_zero, set_pair1]
        refine vo_stM ?_
        refine vo_nil ?_
        refine hK20 _ ?_
        refine vc_seq fun K21 hK21 => ?_
        refine vc_region ?_
        refine vo_move_ref rfl rfl ?_
        refine vo_assign_ref rfl rfl ?_
        refine vo_nil ?_
        refine hK21 _ ?_
        refine vc_expose 1 (by omega) rfl ?_
        refine vc_stM ?_
        refine vc_ret ?_
        change retQ _ _ _ _ _
        refine retQ_sel [] (srows := []) (.inr rfl) hC rfl rfl rfl rfl rfl rfl rfl ?_
        first
          | (exfalso; rw [hg1] at hc3; cases hc3; done)
          | (exfalso; rw [hg1] at hc5; cases hc5; done)
          | (unfold chg; rw [if_neg (by simp [hg1]), if_pos (by assumption), ← set_pair1]; exact ⟨_, rfl, rfl⟩)
          | (unfold chg; rw [if_neg (by simp [hg1]), if_neg (by omega)]; exact ⟨_, rfl, rfl⟩)
      · try simp only [decide_eq_true_eq, decide_eq_false_iff_not, beq_iff_eq, bne_iff_ne, beq_eq_false_iff_ne, bne_eq_false_iff_eq, Bool.not_eq_true, Bool.not_eq_false, Bool.not_eq_eq_eq_not, Bool.not_true, Bool.not_false, List.length_map, Int.not_lt, Int.not_le, ne_eq, Decidable.not_not] at hc6
        refine vc_skip ?_
        refine hK18 _ ?_
        refine vc_seq fun K22 hK22 => ?_
        refine vc_region ?_
        refine vo_move_ref rfl rfl ?_
        refine vo_fieldAddr_ptr rfl rfl Try.underlying46 rfl inf3 (by rw [sz3]; decide) ?_
        try simp only [Nat.zero_add]
        refine vo_load_var rfl rfl rfl Try.underlying3 rfl rfl ?_
        refine vo_fieldAddr_ptr rfl rfl Try.underlying46 rfl inf3 (by rw [sz3]; decide) ?_
        try simp only [Nat.zero_add]
        refine vo_load_var rfl rfl rfl Try.underlying3 rfl rfl ?_
        refine vo_build S37 rfl rfl rfl ?_
        refine vo_stM ?_
        refine vo_buildSlice E32 rfl rfl rfl rfl rfl ?_
        refine vo_stM ?_
        refine vo_append E32 rfl (by omega) rfl rfl rfl sd sd ?_
        refine vo_stM ?_
        try simp only [app_ints, app_intss, app_bools, List.nil_append, app_pairs, ← List.map_take, ← List.map_drop, ← List.map_append]
        refine vo_assign_ref rfl rfl ?_
        refine vo_nil ?_
        refine hK22 _ ?_
        refine vc_expose 1 (by omega) rfl ?_
        refine vc_stM ?_
        refine vc_ret ?_
        change retQ _ _ _ _ _
        refine retQ_sel [] (srows := []) (.inr rfl) hC rfl rfl rfl rfl rfl rfl rfl ?_
        first
          | (exfalso; rw [hg1] at hc3; cases hc3; done)
          | (exfalso; rw [hg1] at hc5; cases hc5; done)
          | (unfold chg; rw [if_neg (by simp [hg1]), if_pos (by assumption), ← set_pair1]; exact ⟨_, rfl, rfl⟩)
          | (unfold chg; rw [if_neg (by simp [hg1]), if_neg (by omega)]; exact ⟨_, rfl, rfl⟩)


theorem specPlainPairs_sat {nl0 : Option Bool} {list : List OpM} {who : Int} (hlist : list.length < 1000000000)  : SatAt Try.prog 30 [.pv false (.sl nl0 4 (list.map opP)), i64 who] [] (fun res rows => ∃ nl, res = [.pv true (.sl nl 2 ((plp list who).map pairP))] ∧ rows = []) := by
  refine sat_entry_G (rs := [(4, none)]) Try.func30 rfl rfl (Nat.le_of_ble_eq_true rfl) (Nat.le_of_ble_eq_true rfl) (resTs1 trivial) fun C hC => ?_
  rw [Try.ntmps30]
  replace hC : C.nb = 0 := hC
  refine vc_seq fun K1 hK1 => ?_
  refine vc_region ?_
  refine vo_assign_pv rfl rfl ?_
  refine vo_own_nil 4 E32 rfl ?_
  refine vo_nil ?_
  refine hK1 _ ?_
  refine vc_seq fun K2 hK2 => ?_
  refine vc_seq fun K3 hK3 => ?_
  refine vc_region ?_
  refine vo_move_pv rfl rfl ?_
  refine vo_call0 Try.func55 rfl rfl rfl rfl (specValidOps0_sat hlist) ?_
  rintro _ _ ⟨rfl, rfl⟩
  refine ⟨rfl, rfl, .inl rfl, ?_⟩
  refine vo_stM ?_
  refine vo_not rfl rfl ?_
  refine vo_move_pv rfl rfl ?_
  refine vo_split 10 rfl (fun hg1 => ?_) (fun hg1 => ?_)
  · try simp only [decide_eq_true_eq, decide_eq_false_iff_not, beq_iff_eq, bne_iff_ne, beq_eq_false_iff_ne, bne_eq_false_iff_eq, Bool.not_eq_true, Bool.not_eq_false, Bool.not_eq_eq_eq_not, Bool.not_true, Bool.not_false, List.length_map, Int.not_lt, Int.not_le, ne_eq, Decidable.not_not] at hg1
    refine vo_guard_off rfl rfl rfl rfl rfl ?_
    refine vo_guard_off rfl rfl rfl rfl rfl ?_
    refine vo_guard_off rfl rfl rfl rfl rfl ?_
    refine vo_pick_t rfl rfl ?_
    refine vo_nil ?_
    refine hK3 _ ?_
    refine vc_cond_t rfl ?_
    refine vc_seq fun K4 hK4 => ?_
    refine vc_region ?_
    refine vo_assign_pv rfl rfl ?_
    refine vo_own_nil 4 E32 rfl ?_
    refine vo_nil ?_
    refine hK4 _ ?_
    refine vc_expose 1 (by omega) rfl ?_
    refine vc_stM ?_
    refine vc_ret ?_
    change retQ _ _ _ _ _
    refine retQ_sel [] (srows := []) (.inr rfl) hC rfl rfl rfl rfl rfl rfl rfl ?_
    have e : plp list who = [] := by unfold plp; rw [if_neg (fun h0 => absurd h0.1 (by assumption))]
    rw [e]; exact ⟨_, rfl, rfl⟩
  · try simp only [decide_eq_true_eq, decide_eq_false_iff_not, beq_iff_eq, bne_iff_ne, beq_eq_false_iff_ne, bne_eq_false_iff_eq, Bool.not_eq_true, Bool.not_eq_false, Bool.not_eq_eq_eq_not, Bool.not_true, Bool.not_false, List.length_map, Int.not_lt, Int.not_le, ne_eq, Decidable.not_not] at hg1
    refine vo_guard_on rfl rfl rfl ?_
    refine vo_move_pv rfl rfl ?_
    refine vo_guard_on rfl rfl rfl ?_
    refine vo_call0 Try.func69 rfl rfl rfl rfl inRange_sat ?_
    rintro _ _ ⟨rfl, rfl⟩
    refine ⟨rfl, rfl, .inl rfl, ?_⟩
    refine vo_stM ?_
    refine vo_guard_on rfl rfl rfl ?_
    refine vo_not rfl rfl ?_
    refine vo_pick_f rfl rfl ?_
    refine vo_nil ?_
    refine hK3 _ ?_
    refine vc_cond rfl (fun hc2 => ?_) (fun hc2 => ?_)
    · try simp only [decide_eq_true_eq, decide_eq_false_iff_not, beq_iff_eq, bne_iff_ne, beq_eq_false_iff_ne, bne_eq_false_iff_eq, Bool.not_eq_true, Bool.not_eq_false, Bool.not_eq_eq_eq_not, Bool.not_true, Bool.not_false, List.length_map, Int.not_lt, Int.not_le, ne_eq, Decidable.not_not] at hc2
      refine vc_seq fun K5 hK5 => ?_
      refine vc_region ?_
      refine vo_assign_pv rfl rfl ?_
      refine vo_own_nil 4 E32 rfl ?_
      refine vo_nil ?_
      refine hK5 _ ?_
      refine vc_expose 1 (by omega) rfl ?_
      refine vc_stM ?_
      refine vc_ret ?_
      change retQ _ _ _ _ _
      refine retQ_sel [] (srows := []) (.inr rfl) hC rfl rfl rfl rfl rfl rfl rfl ?_
      have e : plp list who = [] := by unfold plp; rw [if_neg (fun h0 => absurd h0.2 (by assumption))]
      rw [e]; exact ⟨_, rfl, rfl⟩
    · try simp only [decide_eq_true_eq, decide_eq_false_iff_not, beq_iff_eq, bne_iff_ne, beq_eq_false_iff_ne, bne_eq_false_iff_eq, Bool.not_eq_true, Bool.not_eq_false, Bool.not_eq_eq_eq_not, Bool.not_true, Bool.not_false, List.length_map, Int.not_lt, Int.not_le, ne_eq, Decidable.not_not] at hc2
      refine vc_skip ?_
      refine hK2 _ ?_
      refine vc_seq fun K6 hK6 => ?_
      refine vc_region ?_
      refine vo_buildSlice E32 rfl rfl rfl rfl rfl ?_
      refine vo_stM ?_
      refine vo_assign_ref rfl rfl ?_
      refine vo_nil ?_
      refine hK6 _ ?_
      refine vc_seq fun K7 hK7 => ?_
      refine vc_seq fun K8 hK8 => ?_
      refine vc_region ?_
      refine vo_assign_pv rfl rfl ?_
      refine vo_nil ?_
      refine hK8 _ ?_
      refine vc_block ?_
      refine vc_expose 1 (by omega) rfl ?_
      refine vc_stM ?_
      refine vc_weaken 5 rfl ?_
      refine vc_stM ?_
      refine vc_stM ?_
      refine vc_loopE [0, 1] [5, 6] [] _ _ (fun mz vs rs => ∃ (k : Nat), mz = list.length - k ∧ (k ≤ list.length) ∧ vs = [.pv true (.sl none 2 ((plpK list who k).map pairP)), i64 k] ∧ rs = []) (list.length) rfl rfl (le_len hC rfl) ⟨rfl, rfl, rfl⟩ rfl ⟨0, rfl, Nat.zero_le _, rfl, rfl⟩ ?_
      rintro mz vs rs - - ⟨k, rfl, hk, rfl, rfl⟩
      refine vc_stM ?_
      have hpl := plpK_len (list := list) (who := who) k hk
      have hvo := hg1.1
      refine vc_seq fun K9 hK9 => ?_
      refine vc_seq fun K10 hK10 => ?_
      refine vc_region ?_
      refine vo_move_pv rfl rfl ?_
      refine vo_move_pv rfl rfl ?_
      refine vo_len_pv rfl rfl Try.underlying23 ?_
      refine vo_binI rfl rfl rfl rfl trivial ?_
      refine vo_nil ?_
      refine hK10 _ ?_
      refine vc_cond rfl (fun hc3 => ?_) (fun hc3 => ?_)
      · try simp only [decide_eq_true_eq, decide_eq_false_iff_not, beq_iff_eq, bne_iff_ne, beq_eq_false_iff_ne, bne_eq_false_iff_eq, Bool.not_eq_true, Bool.not_eq_false, Bool.not_eq_eq_eq_not, Bool.not_true, Bool.not_false, List.length_map, Int.not_lt, Int.not_le, ne_eq, Decidable.not_not] at hc3
        refine vc_skip ?_
        refine hK9 _ ?_
        refine vc_seq fun K11 hK11 => ?_
        refine vc_block ?_
        refine vc_seq fun K12 hK12 => ?_
        refine vc_region ?_
        refine vo_move_pv rfl rfl ?_
        refine vo_move_pv rfl rfl ?_
        refine vo_index_pv (.agg [(.int .i64 0), (.int .i64 0), (.int .i64 0), (.bool false)]) rfl rfl rfl E23.und inf46 sz46 sd sd ?_
        simp only [Int.toNat_natCast, Int.toNat_zero, getD_ints, getD_intss, getD_bools, getD_bytes, PV.cells, getD_ops, getD_pairs, getD_insts]
        refine vo_fieldAddr_adr rfl rfl Try.underlying46 rfl inf3 (by rw [sz3]; decide) ?_
        refine vo_load_adr rfl rfl Try.underlying3 rfl ?_
        refine vo_move_pv rfl rfl ?_
        refine vo_binI rfl rfl rfl rfl trivial ?_
        refine vo_nil ?_
        refine hK12 _ ?_
        refine vc_cond rfl (fun hc4 => ?_) (fun hc4 => ?_)
        · try simp only [decide_eq_true_eq, decide_eq_false_iff_not, beq_iff_eq, bne_iff_ne, beq_eq_false_iff_ne, bne_eq_false_iff_eq, Bool.not_eq_true, Bool.not_eq_false, Bool.not_eq_eq_eq_not, Bool.not_true, Bool.not_false, List.length_map, Int.not_lt, Int.not_le, ne_eq, Decidable.not_not] at hc4
          refine vc_region ?_
          refine vo_move_pv rfl rfl ?_
          refine vo_move_pv rfl rfl ?_
          refine vo_move_pv rfl rfl ?_
          refine vo_index_pv (.agg [(.int .i64 0), (.int .i64 0), (.int .i64 0), (.bool false)]) rfl rfl rfl E23.und inf46 sz46 sd sd ?_
          simp only [Int.toNat_natCast, Int.toNat_zero, getD_ints, getD_intss, getD_bools, getD_bytes, PV.cells, getD_ops, getD_pairs, getD_insts]
          refine vo_load_adrS rfl rfl Try.underlying46 rfl inf46 sz46 rfl ?_
          refine vo_st (by (try simp only [St.put, PV.cells, PV.scal, List.drop_succ_cons, List.drop_zero, List.take_succ_cons, List.take_zero, List.map_cons, List.map_nil, Bool.or_true, Bool.or_false, Bool.false_or, Bool.true_or, opP, pairP, instP, heapP]); exact eq_refl _) ?_
          refine vo_call0 Try.func70 rfl rfl rfl rfl (change_sat (by omega)) ?_
          rintro _ _ ⟨nl9, rfl, rfl⟩
          refine ⟨rfl, rfl, .inl rfl, ?_⟩
          refine vo_stM ?_
          refine vo_weaken 34 rfl ?_
          refine vo_stM ?_
          refine vo_assign_pv rfl rfl ?_
          refine vo_nil ?_
          refine hK11 _ ?_
          refine vc_region ?_
          refine vo_move_pv rfl rfl ?_
          refine vo_binI rfl rfl rfl rfl sd ?_
          refine vo_assign_pv rfl rfl ?_
          refine vo_nil ?_
          change againE _ _ _ _ _ _ _ _ _ _
          refine againE_mk rfl rfl rfl rfl rfl rfl ⟨_, ?_, k + 1, rfl, ?_, (by rw [plpK_yes (by omega) (by assumption)]; rfl), rfl⟩
          · omega
          · omega
        · try simp only [decide_eq_true_eq, decide_eq_false_iff_not, beq_iff_eq, bne_iff_ne, beq_eq_false_iff_ne, bne_eq_false_iff_eq, Bool.not_eq_true, Bool.not_eq_false, Bool.not_eq_eq_eq_not, Bool.not_true, Bool.not_false, List.length_map, Int.not_lt, Int.not_le, ne_eq, Decidable.not_not] at hc4
          refine vc_skip ?_
          refine hK11 _ ?_
          refine vc_region ?_
          refine vo_move_pv rfl rfl ?_
          refine vo_binI rfl rfl rfl rfl sd ?_
          refine vo_assign_pv rfl rfl ?_
          refine vo_nil ?_
          change againE _ _ _ _ _ _ _ _ _ _
          refine againE_mk rfl rfl rfl rfl rfl rfl ⟨_, ?_, k + 1, rfl, ?_, (by rw [plpK_no (by omega) (by assumption)]; rfl), rfl⟩
          · omega
          · omega
      · try simp only [decide_eq_true_eq, decide_eq_false_iff_not, beq_iff_eq, bne_iff_ne, beq_eq_false_iff_ne, bne_eq_false_iff_eq, Bool.not_eq_true, Bool.not_eq_false, Bool.not_eq_eq_eq_not, Bool.not_true, Bool.not_false, List.length_map, Int.not_lt, Int.not_le, ne_eq, Decidable.not_not] at hc3
        refine vc_exit ?_
        refine hK7 _ ?_
        refine vc_seq fun K13 hK13 => ?_
        refine vc_region ?_
        refine vo_move_pv rfl rfl ?_
        refine vo_assign_pv rfl rfl ?_
        refine vo_nil ?_
        refine hK13 _ ?_
        refine vc_ret ?_
        change retQ _ _ _ _ _
        refine retQ_sel [] (srows := []) (.inr rfl) hC rfl rfl rfl rfl rfl rfl rfl ?_
        have e : plp list who = plpK list who k := by unfold plp; rw [if_pos ⟨hg1, hc2⟩, show k = list.length by omega]
        rw [e]; exact ⟨_, rfl, rfl⟩

end Go.Vl


/- A cell of a variable that holds a nil slice holds a row of the call's own that is empty. -/
namespace Go.Vl
set_option linter.unusedVariables false
set_option linter.unusedSimpArgs false
open Go.RowKit
section
variable {P : Program} {C : Ctx} {Q : Go.Exit → St → Prop} {s : St} {ops : Array Oper}

theorem SimM.ownCell {m : Nat → MV} {a : Act} {w : World} (hs : SimM C s m a w) (id k : Nat) {el e e0 t' : Nat} {f : Bool} {cs : List SV}
    (hrow : s.rows[id]? = some (.var t' cs)) (hk : cs[k]? = some (.pv f (.sl (some true) e0 []))) :
    ∃ m', SimM C ⟨s.n, s.env, (s.rows ++ [Row.own el e none true []]).set id (.var t' (cs.set k (.ref s.rows.length)))⟩ m' a w := by
  have hadd := hs.addRow (w' := w) ⟨rfl, rfl, rfl, Nat.le_refl _, fun _ _ _ => rfl⟩ (.own el e none true []) (.of <| .slice none 0 0)
    (fun b hb => by simp [MV.of, blk] at hb) (fun hG => .own _ el e _ true [] [] (World.ownsRow_nil w 0 el e) (fun h => by cases h) (fun h => by cases h) (fun i x hx => by simp at hx) (fun i x j c hx => by simp at hx))
  have hid : id < s.rows.length := (List.getElem?_eq_some_iff.1 hrow).1
  have hrow' : (s.rows ++ [Row.own el e none true []])[id]? = some (.var t' cs) := by rw [List.getElem?_append_left hid]; exact hrow
  have h1 := hadd.1
  refine ⟨_, h1.storeRow (w' := w) (id := id) ⟨_, hrow', rfl⟩ (bo := none) (fun _ e => by cases e) ⟨rfl, rfl, rfl, Nat.le_refl _, fun _ _ _ => rfl⟩ _ (fun hG => ?_)⟩
  have hR := h1.rows id _ hrow'
  have hme : updM m s.rows.length (.of (.slice none 0 0)) s.rows.length = .of (.slice none 0 0) := updM_same ..
  generalize updM m s.rows.length (.of (.slice none 0 0)) = m2 at *
  generalize hmv : m2 id = v at *
  cases hR with
  | var b t cs cur hb hl hr ho =>
    refine .var b _ _ cur hb (by simpa using hl) (fun j c u hc hu => ?_) ho
    rw [List.getElem?_set] at hc
    split at hc
    · rename_i hkj
      subst hkj
      split at hc
      · cases hc
        have hold := (hr k _ u hk hu).pv_inv
        have : u = .slice none 0 0 := by
          cases hold with
          | nilsl => rfl
          | sl nl e xs a len cap f h => exact (h rfl).elim
        subst this
        have := RS.ref (w := w) (G := Gd C ((s.rows ++ [Row.own el e none true []]).set id (.var t' (cs.set k (.ref s.rows.length)))) m2 w) (m := m2) (N := (s.rows ++ [Row.own el e none true []]).length) s.rows.length (by simp)
        rw [hme] at this
        exact this
      · cases hc
    · exact (hr j c u hc hu).mono (fun fr b h => hG fr b h) (by simp) (fun _ _ => rfl)

theorem vc_own_cell {code : Code} (id k : Nat) {T el e by' e0 t' : Nat} {d : PV} {f : Bool} {cs : List SV} (_hI : ElInfo P T el e by' d)
    (hrow : s.rows[id]? = some (.var t' cs)) (hk : cs[k]? = some (.pv f (.sl (some true) e0 [])))
    (next : VC P C code Q ⟨s.n, s.env, (s.rows ++ [Row.own el e none true []]).set id (.var t' (cs.set k (.ref s.rows.length)))⟩) : VC P C code Q s := by
  intro a w ⟨m, hs⟩
  obtain ⟨m', h⟩ := hs.ownCell id k hrow hk
  exact next a w ⟨m', h⟩
end
end Go.Vl


/- 'append' of a part of one row to another. -/
namespace Go.Vl
set_option linter.unusedVariables false
set_option linter.unusedSimpArgs false
open Go.RowKit
section
variable {P : Program} {C : Ctx} {Q : Go.Exit → St → Prop} {s : St}
variable {ops : Array Oper} {rest : List Oper} {t : Nat} {ty : TypeId} {pos : String} {af : Array Edge}

end
end Go.Vl


namespace Go.Vl
set_option linter.unusedVariables false
set_option linter.unusedSimpArgs false
open Go.Proofs

theorem findM_cons (n x : Int) (l : List Int) (k : Int) : findM n (x :: l) k = if x = n then k else findM n l (k+1) := rfl
/-- Where names differ, each is found at its place. -/
theorem findM_nd {N : List Int} (h : N.Nodup) : ∀ {q : Nat} {k : Int}, q < N.length → findM (N.getD q 0) N k = k + q := by
  induction N with
  | nil => intro q k hq; simp at hq
  | cons x xs ih =>
    intro q k hq
    have hn := List.nodup_cons.1 h
    cases q with
    | zero => simp [findM]
    | succ q =>
      have hq' : q < xs.length := by simpa using hq
      have hm : xs.getD q 0 ∈ xs := getD_mem hq' 0
      rw [List.getD_cons_succ, findM_cons, if_neg (fun e : x = xs.getD q 0 => hn.1 (by rw [e]; exact hm)), ih hn.2 hq']
      push_cast; omega
theorem findM_of {N : List Int} {n : Int} (h : 0 ≤ findM n N 0) : ∃ q : Nat, q < N.length ∧ findM n N 0 = q ∧ N.getD q 0 = n := by
  obtain ⟨i, h1, h2, h3, _⟩ := findM_pos_iff (n := n) (l := N) (k := 0) (by omega) h
  exact ⟨i, h1, by omega, h3⟩
/-- The places of names. -/
def plM (l : List (Int × Int)) : Int → Option Int := fun n => if 0 ≤ findM n (nms l) 0 then some (findM n (nms l) 0) else none
theorem plM_has (l : List (Int × Int)) (n : Int) : (plM l n).isSome = true ↔ 0 ≤ findM n (nms l) 0 := by
  unfold plM; split <;> simp_all
theorem plM_val {l : List (Int × Int)} {n : Int} (h : 0 ≤ findM n (nms l) 0) : (plM l n).getD 0 = findM n (nms l) 0 := by
  unfold plM; rw [if_pos h]; rfl
theorem plM_nil : plM [] = nilI := by funext n; simp [plM, nms, findM, nilI]
theorem findM_app {n y : Int} : ∀ {N : List Int} {k : Int}, 0 ≤ k → findM n (N ++ [y]) k = if 0 ≤ findM n N k then findM n N k else if y = n then k + N.length else -1
  | [], k, hk => by simp [findM]
  | x :: xs, k, hk => by
    rw [List.cons_append, findM_cons, findM_cons]
    by_cases hx : x = n
    · rw [if_pos hx, if_pos hx, if_pos hk]
    · rw [if_neg hx, if_neg hx, findM_app (by omega)]
      split
      · rfl
      · split
        · push_cast [List.length_cons]; omega
        · rfl
theorem plM_app {l : List (Int × Int)} {n v : Int} (h : findM n (nms l) 0 < 0) : plM (l ++ [(n, v)]) = updI (plM l) n ((l.map pairP).length : Nat) := by
  funext j
  have e : nms (l ++ [(n, v)]) = nms l ++ [n] := by simp [nms]
  show (if 0 ≤ findM j (nms (l ++ [(n, v)])) 0 then some (findM j (nms (l ++ [(n, v)])) 0) else none) = if j = n then some (((l.map pairP).length : Nat) : Int) else (if 0 ≤ findM j (nms l) 0 then some (findM j (nms l) 0) else none)
  rw [e, findM_app (by omega), nms_len, List.length_map]
  by_cases hj : j = n
  · subst hj
    rw [if_neg (by omega : ¬ 0 ≤ findM j (nms l) 0), if_pos rfl, if_pos rfl, if_pos (by omega)]; simp
  · rw [if_neg hj]
    by_cases h0 : 0 ≤ findM j (nms l) 0
    · rw [if_pos h0, if_pos h0]
    · rw [if_neg h0, if_neg (Ne.symm hj), if_neg h0, if_neg (by omega)]
theorem nms_set {l : List (Int × Int)} {i : Nat} {v : Int} (h : i < l.length) : nms (l.set i ((l.getD i (0, 0)).1, v)) = nms l := by
  unfold nms
  rw [List.map_set]
  apply List.ext_getElem?
  intro j
  rw [List.getElem?_set]
  split
  · rename_i hij
    subst hij
    rw [if_pos (by simpa using h)]
    simp [List.getD, List.getElem?_eq_getElem h]
  · rfl
theorem plM_set {l : List (Int × Int)} {i : Nat} {v : Int} (h : i < l.length) : plM (l.set i ((l.getD i (0, 0)).1, v)) = plM l := by
  unfold plM; rw [nms_set h]
def delP (l : List (Int × Int)) (n : Int) : List (Int × Int) := l.take ((plM l n).getD 0).toNat ++ l.drop ((plM l n).getD 0 + 1).toNat
def mpS (g : Int → Option Int) (l : List (Int × Int)) (p : Int) : Nat → Int → Option Int
  | 0 => g
  | k+1 => updI (mpS g l p k) (l.getD (p.toNat + k) (0, 0)).1 (p + k)
theorem mpS_eq {g : Int → Option Int} {l : List (Int × Int)} {p : Nat} (hn : (nms l).Nodup) : ∀ K, p + K ≤ l.length → ∀ j, mpS g l p K j = if (p : Int) ≤ findM j (nms l) 0 ∧ findM j (nms l) 0 < p + K then some (findM j (nms l) 0) else g j
  | 0, _, j => by
    rw [if_neg (by omega)]; rfl
  | K+1, hK, j => by
    have e : (l.getD ((p : Int).toNat + K) (0, 0)).1 = (nms l).getD (p + K) 0 := by rw [Int.toNat_natCast, getD_nms]
    have hf : findM ((nms l).getD (p + K) 0) (nms l) 0 = ((p + K : Nat) : Int) := by rw [findM_nd hn (by rw [nms_len]; omega)]; omega
    show updI (mpS g l p K) _ _ j = _
    unfold updI
    rw [e]
    by_cases hj : j = (nms l).getD (p + K) 0
    · rw [if_pos hj, hj, hf, if_pos (by omega)]; simp
    · rw [if_neg hj, mpS_eq hn K (by omega) j]
      have hne : findM j (nms l) 0 ≠ ((p + K : Nat) : Int) := fun h => by
        obtain ⟨q, h1, h2, h3⟩ := findM_of (n := j) (N := nms l) (by omega)
        have : q = p + K := by omega
        subst this
        exact hj h3.symm
      by_cases hc : (p : Int) ≤ findM j (nms l) 0 ∧ findM j (nms l) 0 < p + K
      · rw [if_pos hc, if_pos (by omega)]
      · rw [if_neg hc, if_neg (by omega)]
theorem nms_app (a b : List (Int × Int)) : nms (a ++ b) = nms a ++ nms b := by simp [nms]
theorem nms_drop (l : List (Int × Int)) (k : Nat) : nms (l.drop k) = (nms l).drop k := by simp [nms]
theorem delP_eq {l : List (Int × Int)} {n : Int} {i : Nat} (h : findM n (nms l) 0 = i) : delP l n = l.take i ++ l.drop (i + 1) := by
  unfold delP; rw [plM_val (by omega), h, Int.toNat_natCast, show ((i : Int) + 1).toNat = i + 1 by omega]
/-- The places behind a pair that is taken away. -/
theorem plM_del {l : List (Int × Int)} {n : Int} (hn : (nms l).Nodup) (h : 0 ≤ findM n (nms l) 0) {K : Nat} (hK : (delP l n).length = ((plM l n).getD 0).toNat + K) : mpS (delI (plM l) n) (delP l n) ((plM l n).getD 0) K = plM (delP l n) := by
  obtain ⟨i, hi, h1, h2⟩ := findM_of h
  rw [nms_len] at hi
  have e := delP_eq h1
  rw [plM_val h, h1] at hK ⊢
  rw [Int.toNat_natCast] at hK
  have hsplit : nms l = nms (l.take i) ++ n :: nms (l.drop (i + 1)) := by
    have hcd : (nms l).drop i = n :: (nms l).drop (i + 1) := by
      rw [List.drop_eq_getElem_cons (by rw [nms_len]; exact hi), ← h2]
      simp [List.getD, List.getElem?_eq_getElem (show i < (nms l).length by rw [nms_len]; exact hi)]
    rw [nms_drop, ← take_nms, ← hcd, List.take_append_drop]
  have hN : nms (delP l n) = nms (l.take i) ++ nms (l.drop (i + 1)) := by rw [e, nms_app]
  have hnd : (nms (l.take i) ++ n :: nms (l.drop (i + 1))).Nodup := hsplit ▸ hn
  have hp := (List.perm_middle (a := n) (l₁ := nms (l.take i)) (l₂ := nms (l.drop (i + 1)))).nodup_iff.1 hnd
  have hd := List.nodup_cons.1 hp
  have hn1 : (nms (delP l n)).Nodup := by rw [hN]; exact hd.2
  funext j
  rw [mpS_eq hn1 K (by omega) j]
  by_cases hj0 : 0 ≤ findM j (nms (delP l n)) 0
  · obtain ⟨q, hq, g1, g2⟩ := findM_of hj0
    rw [nms_len] at hq
    have hpl : plM (delP l n) j = some (findM j (nms (delP l n)) 0) := by unfold plM; rw [if_pos hj0]
    by_cases hqi : i ≤ q
    · rw [if_pos (by omega), hpl]
    · rw [if_neg (by omega), hpl, g1]
      have hmm : (nms (delP l n)).getD q 0 ∈ nms (delP l n) := getD_mem (by rw [nms_len]; exact hq) 0
      have hjn : j ≠ n := fun e2 => hd.1 (by rw [← hN]; rw [g2, e2] at hmm; exact hmm)
      have hq2 : (nms l).getD q 0 = j := by
        rw [← g2, hN, hsplit]
        have hlt : q < (nms (l.take i)).length := by rw [nms_len, List.length_take]; omega
        rw [List.getD_eq_getElem?_getD, List.getD_eq_getElem?_getD, List.getElem?_append_left hlt, List.getElem?_append_left hlt]
      have hfl : findM j (nms l) 0 = q := by rw [← hq2, findM_nd hn (by rw [nms_len]; omega)]; omega
      unfold delI plM
      rw [if_neg hjn, hfl, if_pos (by omega)]
  · rw [if_neg (by omega)]
    have hpl : plM (delP l n) j = none := by unfold plM; rw [if_neg hj0]
    rw [hpl]
    unfold delI
    split
    · rfl
    · rename_i hjn
      have hjN : j ∉ nms (delP l n) := (findM_not _ _ 0 (by omega)).1 (by omega)
      have : j ∉ nms l := by
        rw [hsplit]; rw [hN] at hjN
        intro hm
        rcases List.mem_append.1 hm with hm | hm
        · exact hjN (List.mem_append_left _ hm)
        · rcases List.mem_cons.1 hm with hm | hm
          · exact hjn hm
          · exact hjN (List.mem_append_right _ hm)
      unfold plM; rw [if_neg (by have := (findM_not j (nms l) 0 (by omega)).2 this; omega)]
theorem chg_nodup {l : List (Int × Int)} (o : OpM) (h : (nms l).Nodup) : (nms (chg l o)).Nodup := by
  unfold chg
  split
  · split
    · rename_i h0
      obtain ⟨i, hi, h1, _⟩ := findM_of h0
      rw [h1, Int.toNat_natCast, show ((i : Int) + 1).toNat = i + 1 by omega]
      have hs : (l.take i ++ l.drop (i + 1)).Sublist l := by
        have := List.Sublist.append (List.Sublist.refl (l.take i)) (List.drop_sublist_drop_left l (show i ≤ i + 1 by omega))
        rwa [List.take_append_drop] at this
      exact h.sublist (hs.map _)
    · exact h
  · split
    · rename_i h0
      rw [nms_set (by have := findM_lt h0; omega)]; exact h
    · rename_i h0
      rw [nms_app]
      have hnot := (findM_not o.name (nms l) 0 (by omega)).1 (by omega)
      rw [List.nodup_append]
      exact ⟨h, by simp [nms], fun a ha b hb e => hnot (by simp [nms] at hb; rw [← hb, ← e]; exact ha)⟩
theorem plpK_nodup (list : List OpM) (who : Int) : ∀ k, k ≤ list.length → (nms (plpK list who k)).Nodup
  | 0, _ => by simp [plpK, nms]
  | k+1, h => by
    by_cases hw : (list.getD k ⟨0, 0, 0, false⟩).who = who
    · rw [plpK_yes (by omega) hw]; exact chg_nodup _ (plpK_nodup list who k (by omega))
    · rw [plpK_no (by omega) hw]; exact plpK_nodup list who k (by omega)

end Go.Vl


namespace Go.Vl
set_option linter.unusedVariables false
set_option linter.unusedSimpArgs false
open Go.Proofs
theorem S70n : StInfo Try.prog 70 [(0, 1), (1, 1), (2, 1), (3, 1)] [(.bool false), (.sl (some true) 1 []), (.sl (some true) 1 []), (.sl (some true) 2 [])] := by
  refine ⟨⟨_, Try.underlying70⟩, #[(.bool false), (.slice none 0 0), (.slice none 0 0), (.slice none 0 0)], fun l => by kernel_rfl, fun w G => .agg _ _ rfl ?_ ?_⟩
  · intro j c h
    match j, h with
    | 0, h => cases h; rfl
    | 1, h => cases h; rfl
    | 2, h => cases h; rfl
    | 3, h => cases h; rfl
  · intro j c u h hu
    match j, h, hu with
    | 0, h, hu => cases h; cases hu; exact .bool _
    | 1, h, hu => cases h; cases hu; exact .nilsl _ _ (by decide)
    | 2, h, hu => cases h; cases hu; exact .nilsl _ _ (by decide)
    | 3, h, hu => cases h; cases hu; exact .nilsl _ _ (by decide)

theorem implPlainPairs_sat {nl0 : Option Bool} {list : List OpM} {who : Int} (hlist : list.length < 1000000000)  : SatAt Try.prog 28 [.pv false (.sl nl0 4 (list.map opP)), i64 who] [] (fun res rows => ∃ nl, res = [.ref 0] ∧ rows = [Row.own 37 2 nl true ((plp list who).map pairP)]) := by
  refine sat_entry_G (rs := [(4, none)]) Try.func28 rfl rfl (Nat.le_of_ble_eq_true rfl) (Nat.le_of_ble_eq_true rfl) (resTs1 trivial) fun C hC => ?_
  rw [Try.ntmps28]
  replace hC : C.nb = 0 := hC
  refine vc_seq fun K1 hK1 => ?_
  refine vc_region ?_
  refine vo_assign_pv rfl rfl ?_
  refine vo_own_nil 4 E32 rfl ?_
  refine vo_nil ?_
  refine hK1 _ ?_
  refine vc_seq fun K2 hK2 => ?_
  refine vc_seq fun K3 hK3 => ?_
  refine vc_region ?_
  refine vo_move_pv rfl rfl ?_
  refine vo_call0 Try.func16 rfl rfl rfl rfl (implValidOps_sat hlist) ?_
  rintro _ _ ⟨rfl, rfl⟩
  refine ⟨rfl, rfl, .inl rfl, ?_⟩
  refine vo_stM ?_
  refine vo_not rfl rfl ?_
  refine vo_move_pv rfl rfl ?_
  refine vo_split 11 rfl (fun hg1 => ?_) (fun hg1 => ?_)
  · try simp only [decide_eq_true_eq, decide_eq_false_iff_not, beq_iff_eq, bne_iff_ne, beq_eq_false_iff_ne, bne_eq_false_iff_eq, Bool.not_eq_true, Bool.not_eq_false, Bool.not_eq_eq_eq_not, Bool.not_true, Bool.not_false, List.length_map, Int.not_lt, Int.not_le, ne_eq, Decidable.not_not] at hg1
    refine vo_guard_off rfl rfl rfl rfl rfl ?_
    refine vo_guard_off rfl rfl rfl rfl rfl ?_
    refine vo_guard_off rfl rfl rfl rfl rfl ?_
    refine vo_pick_t rfl rfl ?_
    refine vo_nil ?_
    refine hK3 _ ?_
    refine vc_cond_t rfl ?_
    refine vc_seq fun K4 hK4 => ?_
    refine vc_region ?_
    refine vo_assign_pv rfl rfl ?_
    refine vo_own_nil 4 E32 rfl ?_
    refine vo_nil ?_
    refine hK4 _ ?_
    refine vc_ret ?_
    change retQ _ _ _ _ _
    refine retQ_sel [1] (srows := [_]) (.inr rfl) hC rfl rfl rfl rfl rfl rfl rfl ?_
    have e : plp list who = [] := by unfold plp; rw [if_neg (fun h0 => absurd h0.1 (by assumption))]
    rw [e]; exact ⟨_, rfl, rfl⟩
  · try simp only [decide_eq_true_eq, decide_eq_false_iff_not, beq_iff_eq, bne_iff_ne, beq_eq_false_iff_ne, bne_eq_false_iff_eq, Bool.not_eq_true, Bool.not_eq_false, Bool.not_eq_eq_eq_not, Bool.not_true, Bool.not_false, List.length_map, Int.not_lt, Int.not_le, ne_eq, Decidable.not_not] at hg1
    refine vo_guard_on rfl rfl rfl ?_
    refine vo_move_pv rfl rfl ?_
    refine vo_guard_on rfl rfl rfl ?_
    refine vo_call0 Try.func66 rfl rfl rfl rfl isWho_sat ?_
    rintro _ _ ⟨rfl, rfl⟩
    refine ⟨rfl, rfl, .inl rfl, ?_⟩
    refine vo_stM ?_
    refine vo_guard_on rfl rfl rfl ?_
    refine vo_not rfl rfl ?_
    refine vo_pick_f rfl rfl ?_
    refine vo_nil ?_
    refine hK3 _ ?_
    refine vc_cond rfl (fun hc2 => ?_) (fun hc2 => ?_)
    · try simp only [decide_eq_true_eq, decide_eq_false_iff_not, beq_iff_eq, bne_iff_ne, beq_eq_false_iff_ne, bne_eq_false_iff_eq, Bool.not_eq_true, Bool.not_eq_false, Bool.not_eq_eq_eq_not, Bool.not_true, Bool.not_false, List.length_map, Int.not_lt, Int.not_le, ne_eq, Decidable.not_not] at hc2
      refine vc_seq fun K5 hK5 => ?_
      refine vc_region ?_
      refine vo_assign_pv rfl rfl ?_
      refine vo_own_nil 4 E32 rfl ?_
      refine vo_nil ?_
      refine hK5 _ ?_
      refine vc_ret ?_
      change retQ _ _ _ _ _
      refine retQ_sel [1] (srows := [_]) (.inr rfl) hC rfl rfl rfl rfl rfl rfl rfl ?_
      have e : plp list who = [] := by unfold plp; rw [if_neg (fun h0 => absurd h0.2 (by assumption))]
      rw [e]; exact ⟨_, rfl, rfl⟩
    · try simp only [decide_eq_true_eq, decide_eq_false_iff_not, beq_iff_eq, bne_iff_ne, beq_eq_false_iff_ne, bne_eq_false_iff_eq, Bool.not_eq_true, Bool.not_eq_false, Bool.not_eq_eq_eq_not, Bool.not_true, Bool.not_false, List.length_map, Int.not_lt, Int.not_le, ne_eq, Decidable.not_not] at hc2
      refine vc_skip ?_
      refine hK2 _ ?_
      refine vc_seq fun K6 hK6 => ?_
      refine vc_region ?_
      refine vo_buildG S70n rfl rfl rfl ?_
      refine vo_stM ?_
      refine vo_inline [0, 1] [(4, none)] Try.func67 rfl rfl rfl rfl (Nat.le_of_ble_eq_true rfl) (resTs1 trivial) rfl rfl fun us1 => ?_
      rw [Try.ntmps67]
      refine vc_stM ?_
      refine vc_seq fun K7 hK7 => ?_
      refine vc_region ?_
      refine vo_boxG rfl rfl rfl ?_
      refine vo_stM ?_
      refine vo_assign rfl ?_
      refine vo_stM ?_
      refine vo_nil ?_
      refine hK7 _ ?_
      refine vc_seq fun K8 hK8 => ?_
      refine vc_region ?_
      refine vo_load_varG rfl rfl rfl Try.underlying70 rfl inf70 sz70 rfl ?_
      refine vo_stM ?_
      refine vo_move_pv rfl rfl ?_
      refine vo_makeMap rfl ?_
      refine vo_stM ?_
      refine vo_buildG S95 rfl rfl rfl ?_
      refine vo_stM ?_
      refine vo_boxG rfl rfl rfl ?_
      refine vo_stM ?_
      refine vo_assign_ptr rfl rfl ?_
      refine vo_nil ?_
      refine hK8 _ ?_
      refine vc_seq fun K9 hK9 => ?_
      refine vc_seq fun K10 hK10 => ?_
      refine vc_region ?_
      refine vo_fieldAddr_ptr rfl rfl Try.underlying70 rfl inf4 (by rw [sz4]; decide) ?_
      try simp only [Nat.zero_add]
      refine vo_load_var rfl rfl rfl Try.underlying4 rfl rfl ?_
      refine vo_not rfl rfl ?_
      refine vo_nil ?_
      refine hK10 _ ?_
      refine vc_cond_t rfl ?_
      refine vc_seq fun K11 hK11 => ?_
      refine vc_region ?_
      refine vo_move_ptr rfl rfl ?_
      refine vo_fieldAddr_ptr rfl rfl Try.underlying70 rfl inf32 (by rw [sz32]; decide) ?_
      try simp only [Nat.zero_add]
      refine vo_load_var rfl rfl rfl Try.underlying32 rfl rfl ?_
      refine vo_inline [5] [] Try.func94 rfl rfl rfl rfl (Nat.le_of_ble_eq_true rfl) (fun r h => by cases h) rfl rfl fun us2 => ?_
      rw [Try.ntmps94]
      refine vc_stM ?_
      refine vc_seq fun K12 hK12 => ?_
      refine vc_region ?_
      refine vo_move_ptr rfl rfl ?_
      refine vo_buildG S70n rfl rfl rfl ?_
      refine vo_stM ?_
      refine vo_nilCheck_ptr rfl rfl ?_
      refine vo_fieldAddr_ptr rfl rfl Try.underlying95 rfl inf70 (by rw [sz70]; decide) ?_
      try simp only [Nat.zero_add]
      refine vo_store_varG rfl rfl rfl rfl inf70 sz70 rfl ?_
      refine vo_stM ?_
      refine vo_nil ?_
      refine hK12 _ ?_
      refine vc_seq fun K13 hK13 => ?_
      refine vc_region ?_
      refine vo_move_ptr rfl rfl ?_
      refine vo_nilCheck_ptr rfl rfl ?_
      refine vo_fieldAddr_ptr rfl rfl Try.underlying95 rfl inf93 (by rw [sz93]; decide) ?_
      try simp only [Nat.zero_add]
      refine vo_load_var rfl rfl rfl Try.underlying93 rfl rfl ?_
      refine vo_clearMap rfl rfl Try.underlying93 ?_
      refine vo_stM ?_
      refine vo_nil ?_
      refine hK13 _ ?_
      refine vc_seq fun K14 hK14 => ?_
      refine vc_region ?_
      refine vo_move_pv rfl rfl ?_
      refine vo_len_pv rfl rfl Try.underlying32 ?_
      refine vo_move_pv rfl rfl ?_
      refine vo_nil ?_
      refine hK14 _ ?_
      refine vc_block ?_
      refine vc_stM ?_
      refine vc_loopE [0, 14, 15] [16] [] _ _ (fun mz vs rs => ∃ (k3 : Nat), mz = 0 - k3 ∧ vs = [i64 k3] ∧ rs = []) (0) rfl rfl (le_len hC rfl) ⟨rfl, rfl, rfl⟩ rfl ⟨0, rfl, rfl, rfl⟩ ?_
      rintro mz vs rs - - ⟨k3, rfl, rfl, rfl⟩
      refine vc_stM ?_
      refine vc_seq fun K15 hK15 => ?_
      refine vc_region ?_
      refine vo_binI rfl rfl rfl rfl trivial ?_
      refine vo_nil ?_
      refine hK15 _ ?_
      refine vc_seq fun K16 hK16 => ?_
      refine vc_cond rfl (fun hci21 => ?_) (fun hci21 => ?_)
      · try simp only [decide_eq_true_eq, decide_eq_false_iff_not, beq_iff_eq, bne_iff_ne, beq_eq_false_iff_ne, bne_eq_false_iff_eq, Bool.not_eq_true, Bool.not_eq_false, Bool.not_eq_eq_eq_not, Bool.not_true, Bool.not_false, List.length_map, Int.not_lt, Int.not_le, ne_eq, Decidable.not_not] at hci21
        exfalso; simp at hci21; omega
      · try simp only [decide_eq_true_eq, decide_eq_false_iff_not, beq_iff_eq, bne_iff_ne, beq_eq_false_iff_ne, bne_eq_false_iff_eq, Bool.not_eq_true, Bool.not_eq_false, Bool.not_eq_eq_eq_not, Bool.not_true, Bool.not_false, List.length_map, Int.not_lt, Int.not_le, ne_eq, Decidable.not_not] at hci21
        refine vc_exit ?_
        refine inQ_nrm rfl rfl ?_
        refine vo_stM ?_
        refine vo_nil ?_
        refine hK11 _ ?_
        refine vc_seq fun K17 hK17 => ?_
        refine vc_region ?_
        refine vo_move_ptr rfl rfl ?_
        refine vo_assign_ptr rfl rfl ?_
        refine vo_nil ?_
        refine hK17 _ ?_
        refine vc_ret ?_
        refine inQ_ret rfl rfl ?_
        refine vo_stM ?_
        refine vo_assign_ptr rfl rfl ?_
        refine vo_nil ?_
        refine hK6 _ ?_
        refine vc_seq fun K18 hK18 => ?_
        refine vc_seq fun K19 hK19 => ?_
        refine vc_region ?_
        refine vo_move_pv rfl rfl ?_
        refine vo_len_pv rfl rfl Try.underlying23 ?_
        refine vo_move_pv rfl rfl ?_
        refine vo_nil ?_
        refine hK19 _ ?_
        refine vc_block ?_
        refine vc_own_cell 4 3 E32 rfl rfl ?_
        refine vc_stM ?_
        refine vc_stM ?_
        refine vc_loopE [1, 5, 18, 19] [20] [3, 6] _ _ (fun mz vs rs => ∃ (k : Nat), mz = list.length - k ∧ (k ≤ list.length) ∧ vs = [i64 k] ∧ rs = [.mp (mapI (plM (plpK list who k))), Row.own 37 2 none true ((plpK list who k).map pairP)]) (list.length) rfl rfl (le_len hC rfl) ⟨rfl, rfl, rfl⟩ rfl ⟨0, rfl, Nat.zero_le _, rfl, (by rw [← plM_nil]; rfl)⟩ ?_
        rintro mz vs rs - - ⟨k, rfl, hk, rfl, rfl⟩
        refine vc_stM ?_
        have hpl := plpK_len (list := list) (who := who) k hk
        have hnd := plpK_nodup list who k hk
        have hvo := hg1.1
        refine vc_seq fun K20 hK20 => ?_
        refine vc_region ?_
        refine vo_binI rfl rfl rfl rfl trivial ?_
        refine vo_nil ?_
        refine hK20 _ ?_
        refine vc_seq fun K21 hK21 => ?_
        refine vc_cond rfl (fun hc3 => ?_) (fun hc3 => ?_)
        · try simp only [decide_eq_true_eq, decide_eq_false_iff_not, beq_iff_eq, bne_iff_ne, beq_eq_false_iff_ne, bne_eq_false_iff_eq, Bool.not_eq_true, Bool.not_eq_false, Bool.not_eq_eq_eq_not, Bool.not_true, Bool.not_false, List.length_map, Int.not_lt, Int.not_le, ne_eq, Decidable.not_not] at hc3
          refine vc_skip ?_
          refine hK21 _ ?_
          refine vc_seq fun K22 hK22 => ?_
          refine vc_block ?_
          refine vc_seq fun K23 hK23 => ?_
          refine vc_region ?_
          refine vo_index_pv (.agg [(.int .i64 0), (.int .i64 0), (.int .i64 0), (.bool false)]) rfl rfl rfl E23.und inf46 sz46 sd sd ?_
          simp only [Int.toNat_natCast, Int.toNat_zero, getD_ints, getD_intss, getD_bools, getD_bytes, PV.cells, getD_ops, getD_pairs, getD_insts]
          refine vo_load_adrS rfl rfl Try.underlying46 rfl inf46 sz46 rfl ?_
          refine vo_st (by (try simp only [St.put, PV.cells, PV.scal, List.drop_succ_cons, List.drop_zero, List.take_succ_cons, List.take_zero, List.map_cons, List.map_nil, Bool.or_true, Bool.or_false, Bool.false_or, Bool.true_or, opP, pairP, instP, heapP]); exact eq_refl _) ?_
          refine vo_alloc Z46 rfl ?_
          refine vo_stM ?_
          refine vo_store_varS rfl rfl rfl inf46 sz46 rfl ?_
          refine vo_stM ?_
          refine vo_nil ?_
          refine hK23 _ ?_
          refine vc_seq fun K24 hK24 => ?_
          refine vc_region ?_
          refine vo_fieldAddr_ptr rfl rfl Try.underlying46 rfl inf3 (by rw [sz3]; decide) ?_
          try simp only [Nat.zero_add]
          refine vo_load_var rfl rfl rfl Try.underlying3 rfl rfl ?_
          refine vo_move_pv rfl rfl ?_
          refine vo_binI rfl rfl rfl rfl trivial ?_
          refine vo_nil ?_
          refine hK24 _ ?_
          refine vc_cond rfl (fun hc4 => ?_) (fun hc4 => ?_)
          · try simp only [decide_eq_true_eq, decide_eq_false_iff_not, beq_iff_eq, bne_iff_ne, beq_eq_false_iff_ne, bne_eq_false_iff_eq, Bool.not_eq_true, Bool.not_eq_false, Bool.not_eq_eq_eq_not, Bool.not_true, Bool.not_false, List.length_map, Int.not_lt, Int.not_le, ne_eq, Decidable.not_not] at hc4
            have hwho := hc4
            refine vc_region ?_
            refine vo_move_ptr rfl rfl ?_
            refine vo_load_varS rfl rfl rfl Try.underlying46 rfl inf46 sz46 rfl rfl ?_
            refine vo_inline [1, 5, 18, 19, 20] [] Try.func68 rfl rfl rfl rfl (Nat.le_of_ble_eq_true rfl) (fun r h => by cases h) rfl rfl fun us3 => ?_
            rw [Try.ntmps68]
            refine vc_stM ?_
            refine vc_seq fun K25 hK25 => ?_
            refine vc_region ?_
            refine vo_box rfl rfl ?_
            refine vo_stM ?_
            refine vo_nil ?_
            refine hK25 _ ?_
            refine vc_block ?_
            refine vc_seq fun K26 hK26 => ?_
            refine vc_region ?_
            refine vo_fieldAddr_ptr rfl rfl Try.underlying46 rfl inf4 (by rw [sz4]; decide) ?_
            try simp only [Nat.zero_add]
            refine vo_load_var rfl rfl rfl Try.underlying4 rfl rfl ?_
            refine vo_move_pv rfl rfl ?_
            refine vo_split 13 rfl (fun hgi31 => ?_) (fun hgi31 => ?_)
            · try simp only [decide_eq_true_eq, decide_eq_false_iff_not, beq_iff_eq, bne_iff_ne, beq_eq_false_iff_ne, bne_eq_false_iff_eq, Bool.not_eq_true, Bool.not_eq_false, Bool.not_eq_eq_eq_not, Bool.not_true, Bool.not_false, List.length_map, Int.not_lt, Int.not_le, ne_eq, Decidable.not_not] at hgi31
              have hgone := hgi31
              refine vo_guard_on rfl rfl rfl ?_
              refine vo_move_ptr rfl rfl ?_
              refine vo_guard_on rfl rfl rfl ?_
              refine vo_nilCheck_ptr rfl rfl ?_
              refine vo_guard_on rfl rfl rfl ?_
              refine vo_fieldAddr_ptr rfl rfl Try.underlying95 rfl inf70 (by rw [sz70]; decide) ?_
              try simp only [Nat.zero_add]
              refine vo_guard_on rfl rfl rfl ?_
              refine vo_fieldAddr_ptr rfl rfl Try.underlying70 rfl inf4 (by rw [sz4]; decide) ?_
              try simp only [Nat.zero_add]
              refine vo_guard_on rfl rfl rfl ?_
              refine vo_load_var rfl rfl rfl Try.underlying4 rfl rfl ?_
              refine vo_pick_t rfl rfl ?_
              refine vo_assign_pv rfl rfl ?_
              refine vo_nil ?_
              refine hK26 _ ?_
              refine vc_cond_f rfl ?_
              refine vc_seq fun K27 hK27 => ?_
              refine vc_region ?_
              refine vo_fieldAddr_ptr rfl rfl Try.underlying46 rfl inf4 (by rw [sz4]; decide) ?_
              try simp only [Nat.zero_add]
              refine vo_load_var rfl rfl rfl Try.underlying4 rfl rfl ?_
              refine vo_assign_pv rfl rfl ?_
              refine vo_nil ?_
              refine hK27 _ ?_
              refine vc_cond rfl (fun hci32 => ?_) (fun hci32 => ?_)
              · try simp only [decide_eq_true_eq, decide_eq_false_iff_not, beq_iff_eq, bne_iff_ne, beq_eq_false_iff_ne, bne_eq_false_iff_eq, Bool.not_eq_true, Bool.not_eq_false, Bool.not_eq_eq_eq_not, Bool.not_true, Bool.not_false, List.length_map, Int.not_lt, Int.not_le, ne_eq, Decidable.not_not] at hci32
                refine vc_region ?_
                refine vo_move_ptr rfl rfl ?_
                refine vo_fieldAddr_ptr rfl rfl Try.underlying46 rfl inf3 (by rw [sz3]; decide) ?_
                try simp only [Nat.zero_add]
                refine vo_load_var rfl rfl rfl Try.underlying3 rfl rfl ?_
                refine vo_inline [] [] Try.func96 rfl rfl rfl rfl (Nat.le_of_ble_eq_true rfl) (fun r h => by cases h) rfl rfl fun us4 => ?_
                rw [Try.ntmps96]
                refine vc_stM ?_
                refine vc_seq fun K28 hK28 => ?_
                refine vc_region ?_
                refine vo_move_ptr rfl rfl ?_
                refine vo_nilCheck_ptr rfl rfl ?_
                refine vo_fieldAddr_ptr rfl rfl Try.underlying95 rfl inf93 (by rw [sz93]; decide) ?_
                try simp only [Nat.zero_add]
                refine vo_load_var rfl rfl rfl Try.underlying93 rfl rfl ?_
                refine vo_move_pv rfl rfl ?_
                refine vo_lookup rfl rfl rfl rfl Try.underlying93 Try.underlying3 inf3 (by kernel_rfl) ?_
                refine vo_move rfl ?_
                refine vo_stM ?_
                refine vo_extract rfl rfl rfl ?_
                refine vo_extract rfl rfl rfl ?_
                refine vo_assign_pv rfl rfl ?_
                refine vo_assign_pv rfl rfl ?_
                refine vo_nil ?_
                refine hK28 _ ?_
                refine vc_seq fun K29 hK29 => ?_
                refine vc_seq fun K30 hK30 => ?_
                refine vc_region ?_
                refine vo_move_pv rfl rfl ?_
                refine vo_not rfl rfl ?_
                refine vo_nil ?_
                refine hK30 _ ?_
                refine vc_cond rfl (fun hci41 => ?_) (fun hci41 => ?_)
                · try simp only [decide_eq_true_eq, decide_eq_false_iff_not, beq_iff_eq, bne_iff_ne, beq_eq_false_iff_ne, bne_eq_false_iff_eq, Bool.not_eq_true, Bool.not_eq_false, Bool.not_eq_eq_eq_not, Bool.not_true, Bool.not_false, List.length_map, Int.not_lt, Int.not_le, ne_eq, Decidable.not_not] at hci41
                  have hneg : findM (list.getD k ⟨0, 0, 0, false⟩).name (nms (plpK list who k)) 0 < 0 := by
                    have h9 : ¬ 0 ≤ findM (list.getD k ⟨0, 0, 0, false⟩).name (nms (plpK list who k)) 0 := fun h9 => by have := (plM_has (plpK list who k) (list.getD k ⟨0, 0, 0, false⟩).name).2 h9; simp_all
                    omega
                  have hE : plpK list who (k+1) = (plpK list who k) := by rw [plpK_yes (by omega) hwho]; unfold chg; rw [if_pos hgone, if_neg (by omega)]
                  refine vc_ret ?_
                  refine inQ_ret rfl rfl ?_
                  refine vo_stM ?_
                  refine vo_nil ?_
                  refine inQ_nrm rfl rfl ?_
                  refine vo_stM ?_
                  refine vo_nil ?_
                  refine hK22 _ ?_
                  refine vc_region ?_
                  refine vo_binI rfl rfl rfl rfl sd ?_
                  refine vo_move_pv rfl rfl ?_
                  refine vo_nil ?_
                  change againE _ _ _ _ _ _ _ _ _ _
                  refine againE_mk rfl rfl rfl rfl rfl rfl ⟨_, ?_, k + 1, rfl, ?_, rfl, (by rw [hE]; rfl)⟩
                  · omega
                  · omega
                · try simp only [decide_eq_true_eq, decide_eq_false_iff_not, beq_iff_eq, bne_iff_ne, beq_eq_false_iff_ne, bne_eq_false_iff_eq, Bool.not_eq_true, Bool.not_eq_false, Bool.not_eq_eq_eq_not, Bool.not_true, Bool.not_false, List.length_map, Int.not_lt, Int.not_le, ne_eq, Decidable.not_not] at hci41
                  have hpos := (plM_has (plpK list who k) (list.getD k ⟨0, 0, 0, false⟩).name).1 (by first | exact hci41 | simpa using hci41)
                  have hlt := findM_lt hpos
                  have hval := plM_val hpos
                  have hb : 0 ≤ ((plM (plpK list who k) (list.getD k ⟨0, 0, 0, false⟩).name).getD 0) ∧ ((plM (plpK list who k) (list.getD k ⟨0, 0, 0, false⟩).name).getD 0) < (plpK list who k).length := by rw [hval]; exact ⟨hpos, hlt⟩
                  have hE : plpK list who (k+1) = delP (plpK list who k) (list.getD k ⟨0, 0, 0, false⟩).name := by rw [plpK_yes (by omega) hwho]; unfold chg delP; rw [if_pos hgone, if_pos hpos, hval]
                  have hdl : (List.map pairP (List.take ((plM (plpK list who k) (list.getD k ⟨0, 0, 0, false⟩).name).getD 0).toNat (plpK list who k) ++ List.drop (((plM (plpK list who k) (list.getD k ⟨0, 0, 0, false⟩).name).getD 0) + 1).toNat (plpK list who k))).length = (delP (plpK list who k) (list.getD k ⟨0, 0, 0, false⟩).name).length := by rw [List.length_map]; rfl
                  have hdl3 : (List.take ((plM (plpK list who k) (list.getD k ⟨0, 0, 0, false⟩).name).getD 0).toNat (plpK list who k) ++ List.drop (((plM (plpK list who k) (list.getD k ⟨0, 0, 0, false⟩).name).getD 0) + 1).toNat (plpK list who k)).length = (delP (plpK list who k) (list.getD k ⟨0, 0, 0, false⟩).name).length := rfl
                  have hdl2 : (delP (plpK list who k) (list.getD k ⟨0, 0, 0, false⟩).name).length = (plpK list who k).length - 1 := by unfold delP; rw [List.length_append, List.length_take, List.length_drop]; omega
                  refine vc_skip ?_
                  refine hK29 _ ?_
                  refine vc_seq fun K31 hK31 => ?_
                  refine vc_region ?_
                  refine vo_move_ptr rfl rfl ?_
                  refine vo_move_ptr rfl rfl ?_
                  refine vo_nilCheck_ptr rfl rfl ?_
                  refine vo_fieldAddr_ptr rfl rfl Try.underlying95 rfl inf70 (by rw [sz70]; decide) ?_
                  try simp only [Nat.zero_add]
                  refine vo_fieldAddr_ptr rfl rfl Try.underlying70 rfl inf32 (by rw [sz32]; decide) ?_
                  try simp only [Nat.zero_add]
                  refine vo_load_var rfl rfl rfl Try.underlying32 rfl rfl ?_
                  refine vo_move_pv rfl rfl ?_
                  refine vo_move_pv rfl rfl ?_
                  refine vo_binI rfl rfl rfl rfl sd ?_
                  refine vo_inline [0, 1, 4, 19] [(6, none)] Try.func119 rfl rfl rfl rfl (Nat.le_of_ble_eq_true rfl) (resTs1 trivial) rfl rfl fun us5 => ?_
                  rw [Try.ntmps119]
                  refine vc_stM ?_
                  refine vc_seq fun K32 hK32 => ?_
                  refine vc_region ?_
                  refine vo_assign_pv rfl rfl ?_
                  refine vo_nil ?_
                  refine hK32 _ ?_
                  refine vc_seq fun K33 hK33 => ?_
                  refine vc_region ?_
                  refine vo_move_ref rfl rfl ?_
                  refine vo_move_pv rfl rfl ?_
                  refine vo_move_pv rfl rfl ?_
                  refine vo_move_ref rfl rfl ?_
                  refine vo_len_ref rfl rfl rfl Try.underlying32 ?_
                  refine vo_slice3_ref rfl rfl rfl rfl rfl rfl E32.und inf37 sz37 sd sd sd sd ?_
                  refine vo_nil ?_
                  refine hK33 _ ?_
                  refine vc_seq fun K34 hK34 => ?_
                  refine vc_seq fun K35 hK35 => ?_
                  refine vc_region ?_
                  refine vo_move_pv rfl rfl ?_
                  refine vo_move_pv rfl rfl ?_
                  refine vo_binI rfl rfl rfl rfl trivial ?_
                  refine vo_nil ?_
                  refine hK35 _ ?_
                  refine vc_cond rfl (fun hci51 => ?_) (fun hci51 => ?_)
                  · try simp only [decide_eq_true_eq, decide_eq_false_iff_not, beq_iff_eq, bne_iff_ne, beq_eq_false_iff_ne, bne_eq_false_iff_eq, Bool.not_eq_true, Bool.not_eq_false, Bool.not_eq_eq_eq_not, Bool.not_true, Bool.not_false, List.length_map, Int.not_lt, Int.not_le, ne_eq, Decidable.not_not] at hci51
                    exfalso; omega
                  · try simp only [decide_eq_true_eq, decide_eq_false_iff_not, beq_iff_eq, bne_iff_ne, beq_eq_false_iff_ne, bne_eq_false_iff_eq, Bool.not_eq_true, Bool.not_eq_false, Bool.not_eq_eq_eq_not, Bool.not_true, Bool.not_false, List.length_map, Int.not_lt, Int.not_le, ne_eq, Decidable.not_not] at hci51
                    refine vc_skip ?_
                    refine hK34 _ ?_
                    refine vc_seq fun K36 hK36 => ?_
                    refine vc_region ?_
                    refine vo_move_ref rfl rfl ?_
                    refine vo_len_ref rfl rfl rfl Try.underlying32 ?_
                    refine vo_assign_pv rfl rfl ?_
                    refine vo_nil ?_
                    refine hK36 _ ?_
                    refine vc_seq fun K37 hK37 => ?_
                    refine vc_drawL [6, 7] (by kernel_rfl) ?_
                    change VL [6, 7] _ _ _ 8 _ _ _
                    refine vl_light 0 [1, 3, 4, 5] rfl rfl rfl (by kernel_rfl) (by kernel_rfl) (by kernel_rfl) (by kernel_rfl) (by kernel_rfl) (wnt_none rfl) (lt_move_ref rfl) ?_
                    refine vl_light 1 [0, 3, 4, 5] rfl rfl rfl (by kernel_rfl) (by kernel_rfl) (by kernel_rfl) (by kernel_rfl) (by kernel_rfl) (wnt_none rfl) (lt_move_pv rfl) ?_
                    refine vl_light 2 [0, 1, 3, 4, 5] rfl rfl rfl (by kernel_rfl) (by kernel_rfl) (by kernel_rfl) (by kernel_rfl) (by kernel_rfl) (wnt_none rfl) (lt_slice_ref rfl rfl rfl rfl E32.und inf37 sz37 sd sd sd) ?_
                    try simp only [Int.toNat_natCast, Int.toNat_zero]
                    refine vl_light 3 [0, 1, 2, 4] rfl rfl rfl (by kernel_rfl) (by kernel_rfl) (by kernel_rfl) (by kernel_rfl) (by kernel_rfl) (wnt_none rfl) (lt_move_ref rfl) ?_
                    refine vl_light 4 [0, 1, 2, 3] rfl rfl rfl (by kernel_rfl) (by kernel_rfl) (by kernel_rfl) (by kernel_rfl) (by kernel_rfl) (wnt_none rfl) (lt_move_pv rfl) ?_
                    refine vl_light 5 [0, 1, 2, 3, 4] rfl rfl rfl (by kernel_rfl) (by kernel_rfl) (by kernel_rfl) (by kernel_rfl) (by kernel_rfl) (wnt_none rfl) (lt_slice_ref rfl rfl rfl rfl E32.und inf37 sz37 sd sd sd) ?_
                    try simp only [Int.toNat_natCast, Int.toNat_zero]
                    refine vl_one 6 rfl (by kernel_rfl) rfl ?_
                    refine vo_append_del rfl (by omega) rfl rfl rfl sd sd sd sd E32.und inf37 sz37 ?_
                    refine vo_stM ?_
                    try simp only [app_ints, app_intss, app_bools, List.nil_append, app_pairs, ← List.map_take, ← List.map_drop, ← List.map_append]
                    refine vo_done ⟨rfl, ?_⟩
                    refine vl_one 7 rfl (by kernel_rfl) rfl ?_
                    refine vo_assign_sub rfl rfl ?_
                    refine vo_done ⟨rfl, ?_⟩
                    refine vl_nil (by kernel_rfl) ?_
                    refine hK37 _ ?_
                    refine vc_seq fun K38 hK38 => ?_
                    refine vc_region ?_
                    refine vo_move_sub rfl rfl ?_
                    refine vo_move_sub rfl rfl ?_
                    refine vo_len_sub rfl rfl Try.underlying32 ?_
                    refine vo_move_pv rfl rfl ?_
                    refine vo_slice_sub rfl rfl rfl rfl E32.und inf37 sz37 sd sd sd ?_
                    try simp only [Int.toNat_natCast, Int.toNat_zero]
                    refine vo_clearTail E32 rfl rfl sd ?_
                    refine vo_nil ?_
                    refine hK38 _ ?_
                    refine vc_seq fun K39 hK39 => ?_
                    refine vc_region ?_
                    refine vo_move_sub rfl rfl ?_
                    refine vo_assign_sub rfl rfl ?_
                    refine vo_unsub 6 rfl rfl sd ?_
                    refine vo_stM ?_
                    refine vo_nil ?_
                    refine hK39 _ ?_
                    refine vc_ret ?_
                    refine inQ_ret rfl rfl ?_
                    refine vo_stM ?_
                    refine vo_nilCheck_ptr rfl rfl ?_
                    refine vo_fieldAddr_ptr rfl rfl Try.underlying95 rfl inf70 (by rw [sz70]; decide) ?_
                    try simp only [Nat.zero_add]
                    refine vo_fieldAddr_ptr rfl rfl Try.underlying70 rfl inf32 (by rw [sz32]; decide) ?_
                    try simp only [Nat.zero_add]
                    refine vo_store_varG rfl rfl rfl rfl inf32 sz32 rfl ?_
                    refine vo_stM ?_
                    refine vo_nil ?_
                    refine hK31 _ ?_
                    refine vc_seq fun K40 hK40 => ?_
                    refine vc_region ?_
                    refine vo_move_ptr rfl rfl ?_
                    refine vo_nilCheck_ptr rfl rfl ?_
                    refine vo_fieldAddr_ptr rfl rfl Try.underlying95 rfl inf93 (by rw [sz93]; decide) ?_
                    try simp only [Nat.zero_add]
                    refine vo_load_var rfl rfl rfl Try.underlying93 rfl rfl ?_
                    refine vo_move_pv rfl rfl ?_
                    refine vo_delete rfl rfl rfl Try.underlying93 Try.underlying3 ?_
                    refine vo_stM ?_
                    refine vo_nil ?_
                    refine hK40 _ ?_
                    refine vc_seq fun K41 hK41 => ?_
                    refine vc_region ?_
                    refine vo_move_ptr rfl rfl ?_
                    refine vo_nilCheck_ptr rfl rfl ?_
                    refine vo_fieldAddr_ptr rfl rfl Try.underlying95 rfl inf70 (by rw [sz70]; decide) ?_
                    try simp only [Nat.zero_add]
                    refine vo_fieldAddr_ptr rfl rfl Try.underlying70 rfl inf32 (by rw [sz32]; decide) ?_
                    try simp only [Nat.zero_add]
                    refine vo_load_var rfl rfl rfl Try.underlying32 rfl rfl ?_
                    refine vo_move_pv rfl rfl ?_
                    refine vo_slice_ref rfl rfl rfl rfl rfl E32.und inf37 sz37 sd sd sd ?_
                    try simp only [Int.toNat_natCast, Int.toNat_zero]
                    refine vo_len_sub rfl rfl Try.underlying32 ?_
                    refine vo_move_pv rfl rfl ?_
                    refine vo_nil ?_
                    refine hK41 _ ?_
                    refine vc_block ?_
                    refine vc_stM ?_
                    refine vc_loopE [0, 4, 43, 44] [45] [3] _ _ (fun mz vs rs => ∃ (k2 : Nat), mz = (delP (plpK list who k) (list.getD k ⟨0, 0, 0, false⟩).name).length - ((plM (plpK list who k) (list.getD k ⟨0, 0, 0, false⟩).name).getD 0).toNat - k2 ∧ (k2 ≤ (delP (plpK list who k) (list.getD k ⟨0, 0, 0, false⟩).name).length - ((plM (plpK list who k) (list.getD k ⟨0, 0, 0, false⟩).name).getD 0).toNat) ∧ vs = [i64 k2] ∧ rs = [.mp (mapI (mpS (delI (plM (plpK list who k)) (list.getD k ⟨0, 0, 0, false⟩).name) (delP (plpK list who k) (list.getD k ⟨0, 0, 0, false⟩).name) ((plM (plpK list who k) (list.getD k ⟨0, 0, 0, false⟩).name).getD 0) k2))]) ((delP (plpK list who k) (list.getD k ⟨0, 0, 0, false⟩).name).length - ((plM (plpK list who k) (list.getD k ⟨0, 0, 0, false⟩).name).getD 0).toNat) rfl rfl (le_len hC rfl) ⟨rfl, rfl, rfl⟩ rfl ⟨0, rfl, Nat.zero_le _, rfl, rfl⟩ ?_
                    rintro mz vs rs - - ⟨k2, rfl, hk2, rfl, rfl⟩
                    refine vc_stM ?_
                    refine vc_seq fun K42 hK42 => ?_
                    refine vc_region ?_
                    refine vo_binI rfl rfl rfl rfl trivial ?_
                    refine vo_nil ?_
                    refine hK42 _ ?_
                    refine vc_seq fun K43 hK43 => ?_
                    refine vc_cond rfl (fun hci42 => ?_) (fun hci42 => ?_)
                    · try simp only [decide_eq_true_eq, decide_eq_false_iff_not, beq_iff_eq, bne_iff_ne, beq_eq_false_iff_ne, bne_eq_false_iff_eq, Bool.not_eq_true, Bool.not_eq_false, Bool.not_eq_eq_eq_not, Bool.not_true, Bool.not_false, List.length_map, Int.not_lt, Int.not_le, ne_eq, Decidable.not_not] at hci42
                      refine vc_skip ?_
                      refine hK43 _ ?_
                      refine vc_seq fun K44 hK44 => ?_
                      refine vc_block ?_
                      refine vc_seq fun K45 hK45 => ?_
                      refine vc_region ?_
                      refine vo_move_pv rfl rfl ?_
                      refine vo_index_sub rfl rfl rfl E32.und inf37 sz37 sd sd ?_
                      try simp only [Int.toNat_natCast]
                      refine vo_load_ownS (d := (.agg [.int .i64 0, .int .i64 0])) rfl rfl rfl Try.underlying37 rfl inf37 sz37 sd (getD_pairs _ _) (Nat.le_of_ble_eq_true rfl) ?_
                      try simp only [Int.toNat_natCast]
                      refine vo_st (by (try simp only [St.put, PV.cells, PV.scal, List.drop_succ_cons, List.drop_zero, List.take_succ_cons, List.take_zero, List.map_cons, List.map_nil, Bool.or_true, Bool.or_false, Bool.false_or, Bool.true_or]); exact eq_refl _) ?_
                      refine vo_alloc Z37 rfl ?_
                      refine vo_stM ?_
                      refine vo_assign_pv rfl rfl ?_
                      refine vo_store_varS rfl rfl rfl inf37 sz37 rfl ?_
                      refine vo_stM ?_
                      refine vo_nil ?_
                      refine hK45 _ ?_
                      refine vc_drawL [9] (by kernel_rfl) ?_
                      change VL [9] _ _ _ 10 _ _ _
                      refine vl_light 0 [4, 5, 6, 7, 8] rfl rfl rfl (by kernel_rfl) (by kernel_rfl) (by kernel_rfl) (by kernel_rfl) (by kernel_rfl) (wnt_none rfl) (lt_move_ptr rfl) ?_
                      refine vl_light 1 [0, 4, 5, 6, 7, 8] rfl rfl rfl (by kernel_rfl) (by kernel_rfl) (by kernel_rfl) (by kernel_rfl) (by kernel_rfl) (wnt_none rfl) (lt_nilCheck_ptr rfl) ?_
                      refine vl_light 2 [0, 1, 4, 5, 6, 7, 8] rfl rfl rfl (by kernel_rfl) (by kernel_rfl) (by kernel_rfl) (by kernel_rfl) (by kernel_rfl) (wnt_none rfl) (lt_fieldAddr_ptr rfl Try.underlying95 rfl inf93 (by rw [sz93]; decide)) ?_
                      try simp only [Nat.zero_add]
                      refine vl_light 3 [0, 1, 2, 4, 5, 6, 7, 8] rfl rfl rfl (by kernel_rfl) (by kernel_rfl) (by kernel_rfl) (by kernel_rfl) (by kernel_rfl) (wnt_none rfl) (lt_load_var rfl rfl Try.underlying93 rfl rfl) ?_
                      refine vl_light 4 [0, 1, 2, 3, 6, 7, 8] rfl rfl rfl (by kernel_rfl) (by kernel_rfl) (by kernel_rfl) (by kernel_rfl) (by kernel_rfl) (wnt_none rfl) (lt_fieldAddr_ptr rfl Try.underlying37 rfl inf3 (by rw [sz3]; decide)) ?_
                      try simp only [Nat.zero_add]
                      refine vl_light 5 [0, 1, 2, 3, 4, 6, 7, 8] rfl rfl rfl (by kernel_rfl) (by kernel_rfl) (by kernel_rfl) (by kernel_rfl) (by kernel_rfl) (wnt_none rfl) (lt_load_var rfl rfl Try.underlying3 rfl rfl) ?_
                      refine vl_light 6 [0, 1, 2, 3, 4, 5, 7] rfl rfl rfl (by kernel_rfl) (by kernel_rfl) (by kernel_rfl) (by kernel_rfl) (by kernel_rfl) (wnt_none rfl) (lt_move_pv rfl) ?_
                      refine vl_light 7 [0, 1, 2, 3, 4, 5, 6] rfl rfl rfl (by kernel_rfl) (by kernel_rfl) (by kernel_rfl) (by kernel_rfl) (by kernel_rfl) (wnt_none rfl) (lt_move_pv rfl) ?_
                      refine vl_light 8 [0, 1, 2, 3, 4, 5, 6, 7] rfl rfl rfl (by kernel_rfl) (by kernel_rfl) (by kernel_rfl) (by kernel_rfl) (by kernel_rfl) (wnt_none rfl) (lt_binI rfl rfl rfl sd) ?_
                      refine vl_one 9 rfl (by kernel_rfl) rfl ?_
                      refine vo_mapUpdate rfl rfl rfl rfl Try.underlying93 Try.underlying3 ?_
                      refine vo_stM ?_
                      refine vo_done ⟨rfl, ?_⟩
                      refine vl_nil (by kernel_rfl) ?_
                      refine hK44 _ ?_
                      refine vc_region ?_
                      refine vo_binI rfl rfl rfl rfl sd ?_
                      refine vo_move_pv rfl rfl ?_
                      refine vo_nil ?_
                      change againE _ _ _ _ _ _ _ _ _ _
                      refine againE_mk rfl rfl rfl rfl rfl rfl ⟨_, ?_, k2 + 1, rfl, ?_, rfl, rfl⟩
                      · omega
                      · omega
                    · try simp only [decide_eq_true_eq, decide_eq_false_iff_not, beq_iff_eq, bne_iff_ne, beq_eq_false_iff_ne, bne_eq_false_iff_eq, Bool.not_eq_true, Bool.not_eq_false, Bool.not_eq_eq_eq_not, Bool.not_true, Bool.not_false, List.length_map, Int.not_lt, Int.not_le, ne_eq, Decidable.not_not] at hci42
                      refine vc_exit ?_
                      refine inQ_nrm rfl rfl ?_
                      refine vo_stM ?_
                      refine vo_nil ?_
                      refine inQ_nrm rfl rfl ?_
                      refine vo_stM ?_
                      refine vo_nil ?_
                      refine hK22 _ ?_
                      refine vc_region ?_
                      refine vo_binI rfl rfl rfl rfl sd ?_
                      refine vo_move_pv rfl rfl ?_
                      refine vo_nil ?_
                      change againE _ _ _ _ _ _ _ _ _ _
                      refine againE_mk rfl rfl rfl rfl rfl rfl ⟨_, ?_, k + 1, rfl, ?_, rfl, (by rw [hE, ← plM_del hnd hpos (K := k2) (by omega)]; rfl)⟩
                      · omega
                      · omega
              · try simp only [decide_eq_true_eq, decide_eq_false_iff_not, beq_iff_eq, bne_iff_ne, beq_eq_false_iff_ne, bne_eq_false_iff_eq, Bool.not_eq_true, Bool.not_eq_false, Bool.not_eq_eq_eq_not, Bool.not_true, Bool.not_false, List.length_map, Int.not_lt, Int.not_le, ne_eq, Decidable.not_not] at hci32
                rw [hgi31] at hci32; cases hci32
            · try simp only [decide_eq_true_eq, decide_eq_false_iff_not, beq_iff_eq, bne_iff_ne, beq_eq_false_iff_ne, bne_eq_false_iff_eq, Bool.not_eq_true, Bool.not_eq_false, Bool.not_eq_eq_eq_not, Bool.not_true, Bool.not_false, List.length_map, Int.not_lt, Int.not_le, ne_eq, Decidable.not_not] at hgi31
              have hgone := hgi31
              refine vo_guard_off rfl rfl rfl rfl rfl ?_
              refine vo_guard_off rfl rfl rfl rfl rfl ?_
              refine vo_guard_off rfl rfl rfl rfl rfl ?_
              refine vo_guard_off rfl rfl rfl rfl rfl ?_
              refine vo_guard_off rfl rfl rfl rfl rfl ?_
              refine vo_pick_f rfl rfl ?_
              refine vo_assign_pv rfl rfl ?_
              refine vo_nil ?_
              refine hK26 _ ?_
              refine vc_cond_f rfl ?_
              refine vc_seq fun K46 hK46 => ?_
              refine vc_region ?_
              refine vo_fieldAddr_ptr rfl rfl Try.underlying46 rfl inf4 (by rw [sz4]; decide) ?_
              try simp only [Nat.zero_add]
              refine vo_load_var rfl rfl rfl Try.underlying4 rfl rfl ?_
              refine vo_assign_pv rfl rfl ?_
              refine vo_nil ?_
              refine hK46 _ ?_
              refine vc_cond rfl (fun hci33 => ?_) (fun hci33 => ?_)
              · try simp only [decide_eq_true_eq, decide_eq_false_iff_not, beq_iff_eq, bne_iff_ne, beq_eq_false_iff_ne, bne_eq_false_iff_eq, Bool.not_eq_true, Bool.not_eq_false, Bool.not_eq_eq_eq_not, Bool.not_true, Bool.not_false, List.length_map, Int.not_lt, Int.not_le, ne_eq, Decidable.not_not] at hci33
                rw [hgi31] at hci33; cases hci33
              · try simp only [decide_eq_true_eq, decide_eq_false_iff_not, beq_iff_eq, bne_iff_ne, beq_eq_false_iff_ne, bne_eq_false_iff_eq, Bool.not_eq_true, Bool.not_eq_false, Bool.not_eq_eq_eq_not, Bool.not_true, Bool.not_false, List.length_map, Int.not_lt, Int.not_le, ne_eq, Decidable.not_not] at hci33
                refine vc_region ?_
                refine vo_move_ptr rfl rfl ?_
                refine vo_fieldAddr_ptr rfl rfl Try.underlying46 rfl inf3 (by rw [sz3]; decide) ?_
                try simp only [Nat.zero_add]
                refine vo_load_var rfl rfl rfl Try.underlying3 rfl rfl ?_
                refine vo_fieldAddr_ptr rfl rfl Try.underlying46 rfl inf3 (by rw [sz3]; decide) ?_
                try simp only [Nat.zero_add]
                refine vo_load_var rfl rfl rfl Try.underlying3 rfl rfl ?_
                refine vo_inline [] [] Try.func97 rfl rfl rfl rfl (Nat.le_of_ble_eq_true rfl) (fun r h => by cases h) rfl rfl fun us6 => ?_
                rw [Try.ntmps97]
                refine vc_stM ?_
                refine vc_seq fun K47 hK47 => ?_
                refine vc_seq fun K48 hK48 => ?_
                refine vc_region ?_
                refine vo_move_ptr rfl rfl ?_
                refine vo_nilCheck_ptr rfl rfl ?_
                refine vo_fieldAddr_ptr rfl rfl Try.underlying95 rfl inf70 (by rw [sz70]; decide) ?_
                try simp only [Nat.zero_add]
                refine vo_fieldAddr_ptr rfl rfl Try.underlying70 rfl inf4 (by rw [sz4]; decide) ?_
                try simp only [Nat.zero_add]
                refine vo_load_var rfl rfl rfl Try.underlying4 rfl rfl ?_
                refine vo_move_pv rfl rfl ?_
                refine vo_guard_off rfl rfl rfl rfl rfl ?_
                refine vo_guard_off rfl rfl rfl rfl rfl ?_
                refine vo_guard_off rfl rfl rfl rfl rfl ?_
                refine vo_guard_off rfl rfl rfl rfl rfl ?_
                refine vo_pick_f rfl rfl ?_
                refine vo_nil ?_
                refine hK48 _ ?_
                refine vc_cond_f rfl ?_
                refine vc_skip ?_
                refine hK47 _ ?_
                refine vc_seq fun K49 hK49 => ?_
                refine vc_region ?_
                refine vo_move_ptr rfl rfl ?_
                refine vo_nilCheck_ptr rfl rfl ?_
                refine vo_fieldAddr_ptr rfl rfl Try.underlying95 rfl inf70 (by rw [sz70]; decide) ?_
                try simp only [Nat.zero_add]
                refine vo_fieldAddr_ptr rfl rfl Try.underlying70 rfl inf4 (by rw [sz4]; decide) ?_
                try simp only [Nat.zero_add]
                refine vo_load_var rfl rfl rfl Try.underlying4 rfl rfl ?_
                refine vo_nil ?_
                refine hK49 _ ?_
                refine vc_cond_f rfl ?_
                refine vc_region ?_
                refine vo_move_ptr rfl rfl ?_
                refine vo_move_pv rfl rfl ?_
                refine vo_move_pv rfl rfl ?_
                refine vo_inline [] [] Try.func115 rfl rfl rfl rfl (Nat.le_of_ble_eq_true rfl) (fun r h => by cases h) rfl rfl fun us7 => ?_
                rw [Try.ntmps115]
                refine vc_stM ?_
                refine vc_seq fun K50 hK50 => ?_
                refine vc_seq fun K51 hK51 => ?_
                refine vc_region ?_
                refine vo_move_ptr rfl rfl ?_
                refine vo_nilCheck_ptr rfl rfl ?_
                refine vo_fieldAddr_ptr rfl rfl Try.underlying95 rfl inf93 (by rw [sz93]; decide) ?_
                try simp only [Nat.zero_add]
                refine vo_load_var rfl rfl rfl Try.underlying93 rfl rfl ?_
                refine vo_move_pv rfl rfl ?_
                refine vo_lookup rfl rfl rfl rfl Try.underlying93 Try.underlying3 inf3 (by kernel_rfl) ?_
                refine vo_move rfl ?_
                refine vo_stM ?_
                refine vo_extract rfl rfl rfl ?_
                refine vo_extract rfl rfl rfl ?_
                refine vo_assign_pv rfl rfl ?_
                refine vo_assign_pv rfl rfl ?_
                refine vo_nil ?_
                refine hK51 _ ?_
                refine vc_seq fun K52 hK52 => ?_
                refine vc_region ?_
                refine vo_move_pv rfl rfl ?_
                refine vo_nil ?_
                refine hK52 _ ?_
                refine vc_cond rfl (fun hci71 => ?_) (fun hci71 => ?_)
                · try simp only [decide_eq_true_eq, decide_eq_false_iff_not, beq_iff_eq, bne_iff_ne, beq_eq_false_iff_ne, bne_eq_false_iff_eq, Bool.not_eq_true, Bool.not_eq_false, Bool.not_eq_eq_eq_not, Bool.not_true, Bool.not_false, List.length_map, Int.not_lt, Int.not_le, ne_eq, Decidable.not_not] at hci71
                  have hpos := (plM_has (plpK list who k) (list.getD k ⟨0, 0, 0, false⟩).name).1 (by first | exact hci71 | simpa using hci71)
                  have hlt := findM_lt hpos
                  have hval := plM_val hpos
                  have hb : 0 ≤ ((plM (plpK list who k) (list.getD k ⟨0, 0, 0, false⟩).name).getD 0) ∧ ((plM (plpK list who k) (list.getD k ⟨0, 0, 0, false⟩).name).getD 0) < (plpK list who k).length := by rw [hval]; exact ⟨hpos, hlt⟩
                  have hE : plpK list who (k+1) = (plpK list who k).set ((plM (plpK list who k) (list.getD k ⟨0, 0, 0, false⟩).name).getD 0).toNat (((plpK list who k).getD ((plM (plpK list who k) (list.getD k ⟨0, 0, 0, false⟩).name).getD 0).toNat (0, 0)).1, (list.getD k ⟨0, 0, 0, false⟩).value) := by rw [plpK_yes (by omega) hwho]; unfold chg; rw [if_neg (by rw [hgone]; decide), if_pos hpos, hval]
                  refine vc_seq fun K53 hK53 => ?_
                  refine vc_region ?_
                  refine vo_move_ptr rfl rfl ?_
                  refine vo_nilCheck_ptr rfl rfl ?_
                  refine vo_fieldAddr_ptr rfl rfl Try.underlying95 rfl inf70 (by rw [sz70]; decide) ?_
                  try simp only [Nat.zero_add]
                  refine vo_fieldAddr_ptr rfl rfl Try.underlying70 rfl inf32 (by rw [sz32]; decide) ?_
                  try simp only [Nat.zero_add]
                  refine vo_load_var rfl rfl rfl Try.underlying32 rfl rfl ?_
                  refine vo_move_pv rfl rfl ?_
                  refine vo_move_pv rfl rfl ?_
                  refine vo_index_ref rfl rfl rfl rfl E32.und inf37 sz37 sd sd ?_
                  try simp only [Int.toNat_natCast]
                  refine vo_fieldAddr_ptr rfl rfl Try.underlying37 rfl inf3 (by rw [sz3]; decide) ?_
                  try simp only [Nat.zero_add]
                  refine vo_store_ownC rfl rfl rfl rfl inf3 sz3 (getE_pairs (by omega)) rfl ?_
                  try simp only [List.set_cons_zero, List.set_cons_succ, Int.toNat_natCast, Int.toNat_zero]
                  refine vo_stM ?_
                  refine vo_nil ?_
                  refine hK53 _ ?_
                  refine vc_ret ?_
                  refine inQ_ret rfl rfl ?_
                  refine vo_stM ?_
                  refine vo_nil ?_
                  refine inQ_nrm rfl rfl ?_
                  refine vo_stM ?_
                  refine vo_nil ?_
                  refine inQ_nrm rfl rfl ?_
                  refine vo_stM ?_
                  refine vo_nil ?_
                  refine hK22 _ ?_
                  refine vc_region ?_
                  refine vo_binI rfl rfl rfl rfl sd ?_
                  refine vo_move_pv rfl rfl ?_
                  refine vo_nil ?_
                  change againE _ _ _ _ _ _ _ _ _ _
                  refine againE_mk rfl rfl rfl rfl rfl rfl ⟨_, ?_, k + 1, rfl, ?_, rfl, (by rw [hE, plM_set (by omega), ← set_pair1]; rfl)⟩
                  · omega
                  · omega
                · try simp only [decide_eq_true_eq, decide_eq_false_iff_not, beq_iff_eq, bne_iff_ne, beq_eq_false_iff_ne, bne_eq_false_iff_eq, Bool.not_eq_true, Bool.not_eq_false, Bool.not_eq_eq_eq_not, Bool.not_true, Bool.not_false, List.length_map, Int.not_lt, Int.not_le, ne_eq, Decidable.not_not] at hci71
                  have hneg : findM (list.getD k ⟨0, 0, 0, false⟩).name (nms (plpK list who k)) 0 < 0 := by
                    have h9 : ¬ 0 ≤ findM (list.getD k ⟨0, 0, 0, false⟩).name (nms (plpK list who k)) 0 := fun h9 => by have := (plM_has (plpK list who k) (list.getD k ⟨0, 0, 0, false⟩).name).2 h9; simp_all
                    omega
                  have hE : plpK list who (k+1) = (plpK list who k) ++ [((list.getD k ⟨0, 0, 0, false⟩).name, (list.getD k ⟨0, 0, 0, false⟩).value)] := by rw [plpK_yes (by omega) hwho]; unfold chg; rw [if_neg (by rw [hgone]; decide), if_neg (by omega)]
                  refine vc_skip ?_
                  refine hK50 _ ?_
                  refine vc_seq fun K54 hK54 => ?_
                  refine vc_drawL [11] (by kernel_rfl) ?_
                  change VL [11] _ _ _ 12 _ _ _
                  refine vl_light 0 [4, 5, 6, 7, 8, 9, 10] rfl rfl rfl (by kernel_rfl) (by kernel_rfl) (by kernel_rfl) (by kernel_rfl) (by kernel_rfl) (wnt_none rfl) (lt_move_ptr rfl) ?_
                  refine vl_light 1 [0, 4, 5, 6, 7, 8, 9, 10] rfl rfl rfl (by kernel_rfl) (by kernel_rfl) (by kernel_rfl) (by kernel_rfl) (by kernel_rfl) (wnt_none rfl) (lt_nilCheck_ptr rfl) ?_
                  refine vl_light 2 [0, 1, 4, 5, 6, 7, 8, 9, 10] rfl rfl rfl (by kernel_rfl) (by kernel_rfl) (by kernel_rfl) (by kernel_rfl) (by kernel_rfl) (wnt_none rfl) (lt_fieldAddr_ptr rfl Try.underlying95 rfl inf93 (by rw [sz93]; decide)) ?_
                  try simp only [Nat.zero_add]
                  refine vl_light 3 [0, 1, 2, 4, 5, 6, 7, 8, 9, 10] rfl rfl rfl (by kernel_rfl) (by kernel_rfl) (by kernel_rfl) (by kernel_rfl) (by kernel_rfl) (wnt_none rfl) (lt_load_var rfl rfl Try.underlying93 rfl rfl) ?_
                  refine vl_light 4 [0, 1, 2, 3, 5, 6, 7, 8, 9, 10] rfl rfl rfl (by kernel_rfl) (by kernel_rfl) (by kernel_rfl) (by kernel_rfl) (by kernel_rfl) (wnt_none rfl) (lt_move_pv rfl) ?_
                  refine vl_light 5 [0, 1, 2, 3, 4] rfl rfl rfl (by kernel_rfl) (by kernel_rfl) (by kernel_rfl) (by kernel_rfl) (by kernel_rfl) (wnt_none rfl) (lt_move_ptr rfl) ?_
                  refine vl_light 6 [0, 1, 2, 3, 4, 5] rfl rfl rfl (by kernel_rfl) (by kernel_rfl) (by kernel_rfl) (by kernel_rfl) (by kernel_rfl) (wnt_none rfl) (lt_nilCheck_ptr rfl) ?_
                  refine vl_light 7 [0, 1, 2, 3, 4, 5, 6] rfl rfl rfl (by kernel_rfl) (by kernel_rfl) (by kernel_rfl) (by kernel_rfl) (by kernel_rfl) (wnt_none rfl) (lt_fieldAddr_ptr rfl Try.underlying95 rfl inf70 (by rw [sz70]; decide)) ?_
                  try simp only [Nat.zero_add]
                  refine vl_light 8 [0, 1, 2, 3, 4, 5, 6, 7] rfl rfl rfl (by kernel_rfl) (by kernel_rfl) (by kernel_rfl) (by kernel_rfl) (by kernel_rfl) (wnt_none rfl) (lt_fieldAddr_ptr rfl Try.underlying70 rfl inf32 (by rw [sz32]; decide)) ?_
                  try simp only [Nat.zero_add]
                  refine vl_light 9 [0, 1, 2, 3, 4, 5, 6, 7, 8] rfl rfl rfl (by kernel_rfl) (by kernel_rfl) (by kernel_rfl) (by kernel_rfl) (by kernel_rfl) (wnt_none rfl) (lt_load_var rfl rfl Try.underlying32 rfl rfl) ?_
                  refine vl_light 10 [0, 1, 2, 3, 4, 5, 6, 7, 8, 9] rfl rfl rfl (by kernel_rfl) (by kernel_rfl) (by kernel_rfl) (by kernel_rfl) (by kernel_rfl) (wnt_none rfl) (lt_len_ref rfl rfl Try.underlying32) ?_
                  refine vl_one 11 rfl (by kernel_rfl) rfl ?_
                  refine vo_mapUpdate rfl rfl rfl rfl Try.underlying93 Try.underlying3 ?_
                  refine vo_stM ?_
                  refine vo_done ⟨rfl, ?_⟩
                  refine vl_nil (by kernel_rfl) ?_
                  refine hK54 _ ?_
                  refine vc_region ?_
                  refine vo_move_ptr rfl rfl ?_
                  refine vo_move_ptr rfl rfl ?_
                  refine vo_nilCheck_ptr rfl rfl ?_
                  refine vo_fieldAddr_ptr rfl rfl Try.underlying95 rfl inf70 (by rw [sz70]; decide) ?_
                  try simp only [Nat.zero_add]
                  refine vo_fieldAddr_ptr rfl rfl Try.underlying70 rfl inf32 (by rw [sz32]; decide) ?_
                  try simp only [Nat.zero_add]
                  refine vo_load_var rfl rfl rfl Try.underlying32 rfl rfl ?_
                  refine vo_move_pv rfl rfl ?_
                  refine vo_move_pv rfl rfl ?_
                  refine vo_build S37 rfl rfl rfl ?_
                  refine vo_stM ?_
                  refine vo_buildSlice E32 rfl rfl rfl rfl rfl ?_
                  refine vo_stM ?_
                  refine vo_append E32 rfl (by omega) rfl rfl rfl sd sd ?_
                  refine vo_stM ?_
                  try simp only [app_ints, app_intss, app_bools, List.nil_append, app_pairs, ← List.map_take, ← List.map_drop, ← List.map_append]
                  refine vo_nilCheck_ptr rfl rfl ?_
                  refine vo_fieldAddr_ptr rfl rfl Try.underlying95 rfl inf70 (by rw [sz70]; decide) ?_
                  try simp only [Nat.zero_add]
                  refine vo_fieldAddr_ptr rfl rfl Try.underlying70 rfl inf32 (by rw [sz32]; decide) ?_
                  try simp only [Nat.zero_add]
                  refine vo_store_varG rfl rfl rfl rfl inf32 sz32 rfl ?_
                  refine vo_stM ?_
                  refine vo_nil ?_
                  refine inQ_nrm rfl rfl ?_
                  refine vo_stM ?_
                  refine vo_nil ?_
                  refine inQ_nrm rfl rfl ?_
                  refine vo_stM ?_
                  refine vo_nil ?_
                  refine inQ_nrm rfl rfl ?_
                  refine vo_stM ?_
                  refine vo_nil ?_
                  refine hK22 _ ?_
                  refine vc_region ?_
                  refine vo_binI rfl rfl rfl rfl sd ?_
                  refine vo_move_pv rfl rfl ?_
                  refine vo_nil ?_
                  change againE _ _ _ _ _ _ _ _ _ _
                  refine againE_mk rfl rfl rfl rfl rfl rfl ⟨_, ?_, k + 1, rfl, ?_, rfl, (by rw [hE, plM_app hneg]; rfl)⟩
                  · omega
                  · omega
          · try simp only [decide_eq_true_eq, decide_eq_false_iff_not, beq_iff_eq, bne_iff_ne, beq_eq_false_iff_ne, bne_eq_false_iff_eq, Bool.not_eq_true, Bool.not_eq_false, Bool.not_eq_eq_eq_not, Bool.not_true, Bool.not_false, List.length_map, Int.not_lt, Int.not_le, ne_eq, Decidable.not_not] at hc4
            refine vc_skip ?_
            refine hK22 _ ?_
            refine vc_region ?_
            refine vo_binI rfl rfl rfl rfl sd ?_
            refine vo_move_pv rfl rfl ?_
            refine vo_nil ?_
            change againE _ _ _ _ _ _ _ _ _ _
            refine againE_mk rfl rfl rfl rfl rfl rfl ⟨_, ?_, k + 1, rfl, ?_, rfl, (by rw [plpK_no (by omega) (by assumption)]; rfl)⟩
            · omega
            · omega
        · try simp only [decide_eq_true_eq, decide_eq_false_iff_not, beq_iff_eq, bne_iff_ne, beq_eq_false_iff_ne, bne_eq_false_iff_eq, Bool.not_eq_true, Bool.not_eq_false, Bool.not_eq_eq_eq_not, Bool.not_true, Bool.not_false, List.length_map, Int.not_lt, Int.not_le, ne_eq, Decidable.not_not] at hc3
          refine vc_exit ?_
          refine hK18 _ ?_
          refine vc_seq fun K55 hK55 => ?_
          refine vc_region ?_
          refine vo_move_ptr rfl rfl ?_
          refine vo_nilCheck_ptr rfl rfl ?_
          refine vo_fieldAddr_ptr rfl rfl Try.underlying95 rfl inf70 (by rw [sz70]; decide) ?_
          try simp only [Nat.zero_add]
          refine vo_fieldAddr_ptr rfl rfl Try.underlying70 rfl inf32 (by rw [sz32]; decide) ?_
          try simp only [Nat.zero_add]
          refine vo_load_var rfl rfl rfl Try.underlying32 rfl rfl ?_
          refine vo_assign_ref rfl rfl ?_
          refine vo_nil ?_
          refine hK55 _ ?_
          refine vc_ret ?_
          change retQ _ _ _ _ _
          refine retQ_sel [6] (srows := [_]) (.inr rfl) hC rfl rfl rfl rfl rfl rfl rfl ?_
          have e : plp list who = plpK list who k := by unfold plp; rw [if_pos ⟨hg1, hc2⟩, show k = list.length by omega]
          rw [e]; exact ⟨_, rfl, rfl⟩

end Go.Vl


namespace Go.Vl
set_option linter.unusedVariables false
set_option linter.unusedSimpArgs false
open Go.Proofs

/-- A reader that has given p numbers. -/
abbrev rdr (nl : Option Bool) (c : List (Fin 256)) (p : Nat) : Row := .var 113 [.pv false (.sl nl 1 (c.map byteP)), i64 p]
/-- Bases as the readers make them. -/
def SB (B : List (List Int)) : Prop := 1 ≤ B.length ∧ B.getD 0 [] = [] ∧ ∀ i, i < B.length → 0 < i → B.getD i [] ≠ [] ∧ (B.getD i []).length ≤ 3 ∧ (B.getD i []).Nodup ∧ ∀ x ∈ B.getD i [], 0 ≤ x ∧ x < i
end Go.Vl


namespace Go.Vl
set_option linter.unusedVariables false
set_option linter.unusedSimpArgs false
open Go.Proofs

end Go.Vl


namespace Go.Vl
set_option linter.unusedVariables false
set_option linter.unusedSimpArgs false
open Go.Proofs

end Go.Vl


namespace Go.Vl
set_option linter.unusedVariables false
set_option linter.unusedSimpArgs false
open Go.Proofs

def AGG (xs : List PV) : Prop := ∀ x ∈ xs, ∃ cs, x = .agg cs
theorem AGG.get {xs : List PV} (h : AGG xs) {i : Nat} (hi : i < xs.length) : ∃ cs, xs[i]? = some (.agg cs) := by
  obtain ⟨cs, hc⟩ := h xs[i] (List.getElem_mem hi)
  exact ⟨cs, by rw [List.getElem?_eq_getElem hi, hc]⟩
theorem AGG.set {xs : List PV} (h : AGG xs) (i : Nat) (cs : List PV) : AGG (xs.set i (.agg cs)) := by
  intro x hx
  rcases List.mem_or_eq_of_mem_set hx with h1 | h1
  · exact h x h1
  · exact ⟨cs, h1⟩
theorem AGG.ops (l : List OpM) : AGG (l.map opP) := by
  intro x hx; obtain ⟨o, _, rfl⟩ := List.mem_map.1 hx; exact ⟨_, rfl⟩
theorem getE_self {xs : List PV} {i : Nat} {x : PV} (h : i < xs.length) : (xs.set i x)[i]? = some x := List.getElem?_set_self h
def MkP (L : List (Int × Int)) (k : Int) (n : Nat) : Prop := ∀ j : Nat, j < n → L.getD j (0, 0) = (k + 2 * j, k + 2 * j + 1)
theorem MkP.set {L : List (Int × Int)} {k y : Int} {n : Nat} (h : MkP L k n) (hn : n < L.length) (hy : y = k + 2 * n) : MkP (L.set n (y, y + 1)) k (n + 1) := by
  intro j hj
  rcases Nat.lt_or_ge j n with h1 | h1
  · rw [← h j h1]
    simp [List.getD, List.getElem?_set, show n ≠ j by omega]
  · have : j = n := by omega
    subst this
    rw [hy]
    simp [List.getD, List.getElem?_set, hn]
theorem set2_pairs (L : List (Int × Int)) (i : Nat) (x : PV) (a b : Int) : ((L.map pairP).set i x).set i (.agg [.int .i64 a, .int .i64 b]) = (L.set i (a, b)).map pairP := by
  rw [List.set_set, set_pair1]
theorem rowP_eq {el : TypeId} {e : Nat} {nl : Option Bool} {f : Bool} {xs ys : List PV} (h : xs = ys) : [Row.own el e nl f xs] = [Row.own el e nl f ys] := by rw [h]

theorem toOpSO_sat {nl0 : Option Bool} {a : List OpM} (ha : a.length < 1000000000)  : SatAt Try.prog 19 [.pv false (.sl nl0 4 (a.map opP))] [] (fun res rows => res = [.ref 0] ∧ rows = [Row.own 46 4 (some false) true (a.map opP)]) := by
  have hcl := fun k h => cpy_len (⟨0, 0, 0, false⟩ : OpM) a k h
  refine sat_entry_G (rs := [(2, none)]) Try.func19 rfl rfl (Nat.le_of_ble_eq_true rfl) (Nat.le_of_ble_eq_true rfl) (resTs1 trivial) fun C hC => ?_
  rw [Try.ntmps19]
  replace hC : C.nb = 0 := hC
  refine vc_seq fun K1 hK1 => ?_
  refine vc_region ?_
  refine vo_assign_pv rfl rfl ?_
  refine vo_nil ?_
  refine hK1 _ ?_
  refine vc_seq fun K2 hK2 => ?_
  refine vc_region ?_
  refine vo_move_pv rfl rfl ?_
  refine vo_len_pv rfl rfl Try.underlying27 ?_
  refine vo_make E23 rfl rfl rfl sd sd sd ?_
  refine vo_assign_ref rfl rfl ?_
  refine vo_nil ?_
  refine hK2 _ ?_
  refine vc_seq fun K3 hK3 => ?_
  refine vc_seq fun K4 hK4 => ?_
  refine vc_region ?_
  refine vo_assign_pv rfl rfl ?_
  refine vo_nil ?_
  refine hK4 _ ?_
  refine vc_block ?_
  refine vc_stM ?_
  refine vc_loopE [0] [3, 4] [0] _ _ (fun mz vs rs => ∃ (k : Nat), mz = a.length - k ∧ (k ≤ a.length) ∧ vs = [.ref 0, i64 k] ∧ rs = [Row.own 46 4 (some false) true ((cpy ⟨0, 0, 0, false⟩ a k).map opP)]) (a.length) rfl rfl (le_len hC rfl) ⟨rfl, rfl, rfl⟩ rfl ⟨0, rfl, Nat.zero_le _, rfl, (by simp only [rep_ops, cpy_0, List.length_map]; rfl)⟩ ?_
  rintro mz vs rs - - ⟨k, rfl, hk, rfl, rfl⟩
  refine vc_stM ?_
  have hcl9 := hcl k hk
  refine vc_seq fun K5 hK5 => ?_
  refine vc_seq fun K6 hK6 => ?_
  refine vc_region ?_
  refine vo_move_pv rfl rfl ?_
  refine vo_move_pv rfl rfl ?_
  refine vo_len_pv rfl rfl Try.underlying27 ?_
  refine vo_binI rfl rfl rfl rfl trivial ?_
  refine vo_nil ?_
  refine hK6 _ ?_
  refine vc_cond rfl (fun hc1 => ?_) (fun hc1 => ?_)
  · try simp only [decide_eq_true_eq, decide_eq_false_iff_not, beq_iff_eq, bne_iff_ne, beq_eq_false_iff_ne, bne_eq_false_iff_eq, Bool.not_eq_true, Bool.not_eq_false, Bool.not_eq_eq_eq_not, Bool.not_true, Bool.not_false, List.length_map, Int.not_lt, Int.not_le, ne_eq, Decidable.not_not] at hc1
    refine vc_skip ?_
    refine hK5 _ ?_
    refine vc_seq fun K7 hK7 => ?_
    refine vc_block ?_
    refine vc_region ?_
    refine vo_move_ref rfl rfl ?_
    refine vo_move_pv rfl rfl ?_
    refine vo_move_pv rfl rfl ?_
    refine vo_move_pv rfl rfl ?_
    refine vo_index_pv (.agg [(.int .i64 0), (.int .i64 0), (.int .i64 0), (.bool false)]) rfl rfl rfl E27.und inf72 sz72 sd sd ?_
    simp only [Int.toNat_natCast, Int.toNat_zero, getD_ints, getD_intss, getD_bools, getD_bytes, PV.cells, getD_ops, getD_pairs, getD_insts]
    refine vo_load_adrS rfl rfl Try.underlying72 rfl inf72 sz72 rfl ?_
    refine vo_st (by (try simp only [St.put, PV.cells, PV.scal, List.drop_succ_cons, List.drop_zero, List.take_succ_cons, List.take_zero, List.map_cons, List.map_nil, Bool.or_true, Bool.or_false, Bool.false_or, Bool.true_or, opP, pairP, instP, heapP]); exact eq_refl _) ?_
    refine vo_call0 Try.func49 rfl rfl rfl rfl toOp_sat ?_
    rintro _ _ ⟨rfl, rfl⟩
    refine ⟨rfl, rfl, .inl rfl, ?_⟩
    refine vo_stM ?_
    refine vo_index_ref rfl rfl rfl rfl E23.und inf46 sz46 sd sd ?_
    try simp only [Int.toNat_natCast]
    refine vo_store_own rfl rfl rfl inf46 sz46 (by decide) rfl sd ?_
    try simp only [set_ints, set_intss, set_bools, rep_bools, rep_ints, Int.toNat_natCast, Int.toNat_zero, set_op1, rep_ops]
    refine vo_stM ?_
    refine vo_nil ?_
    refine hK7 _ ?_
    refine vc_region ?_
    refine vo_move_pv rfl rfl ?_
    refine vo_binI rfl rfl rfl rfl sd ?_
    refine vo_assign_pv rfl rfl ?_
    refine vo_nil ?_
    change againE _ _ _ _ _ _ _ _ _ _
    refine againE_mk rfl rfl rfl rfl rfl rfl ⟨_, ?_, k + 1, rfl, ?_, rfl, (by rw [← cpy_set _ _ _ (by omega)]; rfl)⟩
    · omega
    · omega
  · try simp only [decide_eq_true_eq, decide_eq_false_iff_not, beq_iff_eq, bne_iff_ne, beq_eq_false_iff_ne, bne_eq_false_iff_eq, Bool.not_eq_true, Bool.not_eq_false, Bool.not_eq_eq_eq_not, Bool.not_true, Bool.not_false, List.length_map, Int.not_lt, Int.not_le, ne_eq, Decidable.not_not] at hc1
    refine vc_exit ?_
    refine hK3 _ ?_
    refine vc_seq fun K8 hK8 => ?_
    refine vc_region ?_
    refine vo_move_ref rfl rfl ?_
    refine vo_assign_ref rfl rfl ?_
    refine vo_nil ?_
    refine hK8 _ ?_
    refine vc_ret ?_
    change retQ _ _ _ _ _
    refine retQ_sel [0] (srows := [_]) (.inr rfl) hC rfl rfl rfl rfl rfl rfl rfl ?_
    have : k = a.length := by omega
    subst this
    rw [cpy_end]
    exact ⟨rfl, rfl⟩


theorem markOpS_sat {Rc : TypeId} {nl : Option Bool} {a : List OpM} {k : Int} (ha : a.length < 1000000000) (hk : 0 ≤ k ∧ k < 1000000000) : SatAt Try.prog 31 [.ref 0, i64 k] [.own Rc 4 nl false (a.map opP)] (fun res rows => ∃ xs : List PV, AGG xs ∧ res = [i64 (k + 4 * a.length)] ∧ rows = [.own Rc 4 nl false xs]) := by
  refine sat_entry_G (rs := [(4, none)]) Try.func31 rfl rfl (Nat.le_of_ble_eq_true rfl) (Nat.le_of_ble_eq_true rfl) (resTs1 trivial) fun C hC => ?_
  rw [Try.ntmps31]
  replace hC : C.nb = 1 := hC
  refine vc_seq fun K1 hK1 => ?_
  refine vc_region ?_
  refine vo_assign_pv rfl rfl ?_
  refine vo_nil ?_
  refine hK1 _ ?_
  refine vc_seq fun K2 hK2 => ?_
  refine vc_seq fun K3 hK3 => ?_
  refine vc_region ?_
  refine vo_assign_pv rfl rfl ?_
  refine vo_nil ?_
  refine hK3 _ ?_
  refine vc_block ?_
  refine vc_stM ?_
  refine vc_loopE [] [0, 1, 5] [0] _ _ (fun mz vs rs => ∃ (i : Nat) (y : Int) (xs : List PV), mz = a.length - i ∧ ((i ≤ a.length ∧ xs.length = a.length ∧ y = k + 4 * i)) ∧ (AGG xs) ∧ vs = [.ref 0, i64 y, i64 i] ∧ rs = [Row.own Rc 4 nl false xs]) (a.length) rfl rfl (le_len hC rfl) ⟨rfl, rfl, rfl⟩ rfl ⟨0, k, a.map opP, rfl, (by simp), (AGG.ops a), rfl, rfl⟩ ?_
  rintro mz vs rs - - ⟨i, y, xs, rfl, hi, hA, rfl, rfl⟩
  refine vc_stM ?_
  refine vc_seq fun K4 hK4 => ?_
  refine vc_seq fun K5 hK5 => ?_
  refine vc_region ?_
  refine vo_move_pv rfl rfl ?_
  refine vo_move_ref rfl rfl ?_
  refine vo_len_ref rfl rfl rfl Try.underlying23 ?_
  refine vo_binI rfl rfl rfl rfl trivial ?_
  refine vo_nil ?_
  refine hK5 _ ?_
  refine vc_cond rfl (fun hc1 => ?_) (fun hc1 => ?_)
  · try simp only [decide_eq_true_eq, decide_eq_false_iff_not, beq_iff_eq, bne_iff_ne, beq_eq_false_iff_ne, bne_eq_false_iff_eq, Bool.not_eq_true, Bool.not_eq_false, Bool.not_eq_eq_eq_not, Bool.not_true, Bool.not_false, List.length_map, Int.not_lt, Int.not_le, ne_eq, Decidable.not_not] at hc1
    obtain ⟨cs, hcs⟩ := hA.get (show i < xs.length by omega)
    refine vc_skip ?_
    refine hK4 _ ?_
    refine vc_seq fun K6 hK6 => ?_
    refine vc_block ?_
    refine vc_seq fun K7 hK7 => ?_
    refine vc_region ?_
    refine vo_move_ref rfl rfl ?_
    refine vo_move_pv rfl rfl ?_
    refine vo_move_pv rfl rfl ?_
    refine vo_index_ref rfl rfl rfl rfl E23.und inf46 sz46 sd sd ?_
    try simp only [Int.toNat_natCast]
    refine vo_fieldAddr_ptr rfl rfl Try.underlying46 rfl inf3 (by rw [sz3]; decide) ?_
    try simp only [Nat.zero_add]
    refine vo_store_ownC rfl rfl rfl rfl inf3 sz3 hcs rfl ?_
    try simp only [List.set_cons_zero, List.set_cons_succ, Int.toNat_natCast, Int.toNat_zero]
    refine vo_stM ?_
    refine vo_nil ?_
    refine hK7 _ ?_
    refine vc_seq fun K8 hK8 => ?_
    refine vc_region ?_
    refine vo_move_pv rfl rfl ?_
    refine vo_binI rfl rfl rfl rfl sd ?_
    refine vo_assign_pv rfl rfl ?_
    refine vo_nil ?_
    refine hK8 _ ?_
    refine vc_seq fun K9 hK9 => ?_
    refine vc_region ?_
    refine vo_move_ref rfl rfl ?_
    refine vo_move_pv rfl rfl ?_
    refine vo_move_pv rfl rfl ?_
    refine vo_index_ref rfl rfl rfl rfl E23.und inf46 sz46 sd sd ?_
    try simp only [Int.toNat_natCast]
    refine vo_fieldAddr_ptr rfl rfl Try.underlying46 rfl inf3 (by rw [sz3]; decide) ?_
    try simp only [Nat.zero_add]
    refine vo_store_ownC rfl rfl rfl rfl inf3 sz3 (getE_self (by first | omega | (simp only [List.length_set]; omega))) rfl ?_
    try simp only [List.set_cons_zero, List.set_cons_succ, Int.toNat_natCast, Int.toNat_zero]
    refine vo_stM ?_
    refine vo_nil ?_
    refine hK9 _ ?_
    refine vc_seq fun K10 hK10 => ?_
    refine vc_region ?_
    refine vo_move_pv rfl rfl ?_
    refine vo_binI rfl rfl rfl rfl sd ?_
    refine vo_assign_pv rfl rfl ?_
    refine vo_nil ?_
    refine hK10 _ ?_
    refine vc_seq fun K11 hK11 => ?_
    refine vc_region ?_
    refine vo_move_ref rfl rfl ?_
    refine vo_move_pv rfl rfl ?_
    refine vo_move_pv rfl rfl ?_
    refine vo_index_ref rfl rfl rfl rfl E23.und inf46 sz46 sd sd ?_
    try simp only [Int.toNat_natCast]
    refine vo_fieldAddr_ptr rfl rfl Try.underlying46 rfl inf3 (by rw [sz3]; decide) ?_
    try simp only [Nat.zero_add]
    refine vo_store_ownC rfl rfl rfl rfl inf3 sz3 (getE_self (by first | omega | (simp only [List.length_set]; omega))) rfl ?_
    try simp only [List.set_cons_zero, List.set_cons_succ, Int.toNat_natCast, Int.toNat_zero]
    refine vo_stM ?_
    refine vo_nil ?_
    refine hK11 _ ?_
    refine vc_seq fun K12 hK12 => ?_
    refine vc_region ?_
    refine vo_move_pv rfl rfl ?_
    refine vo_binI rfl rfl rfl rfl sd ?_
    refine vo_assign_pv rfl rfl ?_
    refine vo_nil ?_
    refine hK12 _ ?_
    refine vc_seq fun K13 hK13 => ?_
    refine vc_region ?_
    refine vo_move_ref rfl rfl ?_
    refine vo_move_pv rfl rfl ?_
    refine vo_move_pv rfl rfl ?_
    refine vo_binI rfl rfl rfl rfl sd ?_
    refine vo_binI rfl rfl rfl rfl trivial ?_
    refine vo_index_ref rfl rfl rfl rfl E23.und inf46 sz46 sd sd ?_
    try simp only [Int.toNat_natCast]
    refine vo_fieldAddr_ptr rfl rfl Try.underlying46 rfl inf4 (by rw [sz4]; decide) ?_
    try simp only [Nat.zero_add]
    refine vo_store_ownC rfl rfl rfl rfl inf4 sz4 (getE_self (by first | omega | (simp only [List.length_set]; omega))) rfl ?_
    try simp only [List.set_cons_zero, List.set_cons_succ, Int.toNat_natCast, Int.toNat_zero]
    refine vo_stM ?_
    refine vo_nil ?_
    refine hK13 _ ?_
    refine vc_region ?_
    refine vo_move_pv rfl rfl ?_
    refine vo_binI rfl rfl rfl rfl sd ?_
    refine vo_assign_pv rfl rfl ?_
    refine vo_nil ?_
    refine hK6 _ ?_
    refine vc_region ?_
    refine vo_move_pv rfl rfl ?_
    refine vo_binI rfl rfl rfl rfl sd ?_
    refine vo_assign_pv rfl rfl ?_
    refine vo_nil ?_
    change againE _ _ _ _ _ _ _ _ _ _
    refine againE_mk rfl rfl rfl rfl rfl rfl ⟨_, ?_, i + 1, y + 1 + 1 + 1 + 1, _, rfl, ?_, ?_, rfl, rfl⟩
    · omega
    · refine ⟨by omega, ?_, by omega⟩; simp only [List.length_set]; omega
    · exact (((hA.set _ _).set _ _).set _ _).set _ _
  · try simp only [decide_eq_true_eq, decide_eq_false_iff_not, beq_iff_eq, bne_iff_ne, beq_eq_false_iff_ne, bne_eq_false_iff_eq, Bool.not_eq_true, Bool.not_eq_false, Bool.not_eq_eq_eq_not, Bool.not_true, Bool.not_false, List.length_map, Int.not_lt, Int.not_le, ne_eq, Decidable.not_not] at hc1
    refine vc_exit ?_
    refine hK2 _ ?_
    refine vc_seq fun K14 hK14 => ?_
    refine vc_region ?_
    refine vo_move_pv rfl rfl ?_
    refine vo_assign_pv rfl rfl ?_
    refine vo_nil ?_
    refine hK14 _ ?_
    refine vc_ret ?_
    change retQ _ _ _ _ _
    refine retQ_sel [] (srows := []) (.inr rfl) hC rfl rfl rfl rfl rfl rfl rfl ?_
    have e : y = k + 4 * (a.length : Int) := by omega
    subst e
    exact ⟨_, hA, rfl, rfl⟩


theorem markPairS_sat {Rc : TypeId} {nl : Option Bool} {a : List (Int × Int)} {k : Int} (ha : a.length < 1000000000) (hk : 0 ≤ k ∧ k < 1000000000) : SatAt Try.prog 32 [.ref 0, i64 k] [.own Rc 2 nl false (a.map pairP)] (fun res rows => ∃ L : List (Int × Int), (L.length = a.length ∧ MkP L k L.length) ∧ res = [i64 (k + 2 * L.length)] ∧ rows = [.own Rc 2 nl false (L.map pairP)]) := by
  refine sat_entry_G (rs := [(4, none)]) Try.func32 rfl rfl (Nat.le_of_ble_eq_true rfl) (Nat.le_of_ble_eq_true rfl) (resTs1 trivial) fun C hC => ?_
  rw [Try.ntmps32]
  replace hC : C.nb = 1 := hC
  refine vc_seq fun K1 hK1 => ?_
  refine vc_region ?_
  refine vo_assign_pv rfl rfl ?_
  refine vo_nil ?_
  refine hK1 _ ?_
  refine vc_seq fun K2 hK2 => ?_
  refine vc_seq fun K3 hK3 => ?_
  refine vc_region ?_
  refine vo_assign_pv rfl rfl ?_
  refine vo_nil ?_
  refine hK3 _ ?_
  refine vc_block ?_
  refine vc_stM ?_
  refine vc_loopE [] [0, 1, 5] [0] _ _ (fun mz vs rs => ∃ (i : Nat) (y : Int) (L : List (Int × Int)), mz = a.length - i ∧ ((i ≤ a.length ∧ L.length = a.length ∧ y = k + 2 * i)) ∧ (MkP L k i) ∧ vs = [.ref 0, i64 y, i64 i] ∧ rs = [Row.own Rc 2 nl false (L.map pairP)]) (a.length) rfl rfl (le_len hC rfl) ⟨rfl, rfl, rfl⟩ rfl ⟨0, k, a, rfl, (by simp), (fun j hj => by omega), rfl, rfl⟩ ?_
  rintro mz vs rs - - ⟨i, y, L, rfl, hi, hM, rfl, rfl⟩
  refine vc_stM ?_
  refine vc_seq fun K4 hK4 => ?_
  refine vc_seq fun K5 hK5 => ?_
  refine vc_region ?_
  refine vo_move_pv rfl rfl ?_
  refine vo_move_ref rfl rfl ?_
  refine vo_len_ref rfl rfl rfl Try.underlying32 ?_
  refine vo_binI rfl rfl rfl rfl trivial ?_
  refine vo_nil ?_
  refine hK5 _ ?_
  refine vc_cond rfl (fun hc1 => ?_) (fun hc1 => ?_)
  · try simp only [decide_eq_true_eq, decide_eq_false_iff_not, beq_iff_eq, bne_iff_ne, beq_eq_false_iff_ne, bne_eq_false_iff_eq, Bool.not_eq_true, Bool.not_eq_false, Bool.not_eq_eq_eq_not, Bool.not_true, Bool.not_false, List.length_map, Int.not_lt, Int.not_le, ne_eq, Decidable.not_not] at hc1
    refine vc_skip ?_
    refine hK4 _ ?_
    refine vc_seq fun K6 hK6 => ?_
    refine vc_block ?_
    refine vc_seq fun K7 hK7 => ?_
    refine vc_region ?_
    refine vo_move_ref rfl rfl ?_
    refine vo_move_pv rfl rfl ?_
    refine vo_move_pv rfl rfl ?_
    refine vo_index_ref rfl rfl rfl rfl E32.und inf37 sz37 sd sd ?_
    try simp only [Int.toNat_natCast]
    refine vo_fieldAddr_ptr rfl rfl Try.underlying37 rfl inf3 (by rw [sz3]; decide) ?_
    try simp only [Nat.zero_add]
    refine vo_store_ownC rfl rfl rfl rfl inf3 sz3 (getE_pairs (by omega)) rfl ?_
    try simp only [List.set_cons_zero, List.set_cons_succ, Int.toNat_natCast, Int.toNat_zero]
    refine vo_stM ?_
    refine vo_nil ?_
    refine hK7 _ ?_
    refine vc_seq fun K8 hK8 => ?_
    refine vc_region ?_
    refine vo_move_pv rfl rfl ?_
    refine vo_binI rfl rfl rfl rfl sd ?_
    refine vo_assign_pv rfl rfl ?_
    refine vo_nil ?_
    refine hK8 _ ?_
    refine vc_seq fun K9 hK9 => ?_
    refine vc_region ?_
    refine vo_move_ref rfl rfl ?_
    refine vo_move_pv rfl rfl ?_
    refine vo_move_pv rfl rfl ?_
    refine vo_index_ref rfl rfl rfl rfl E32.und inf37 sz37 sd sd ?_
    try simp only [Int.toNat_natCast]
    refine vo_fieldAddr_ptr rfl rfl Try.underlying37 rfl inf3 (by rw [sz3]; decide) ?_
    try simp only [Nat.zero_add]
    refine vo_store_ownC rfl rfl rfl rfl inf3 sz3 (getE_self (by rw [List.length_map]; omega)) rfl ?_
    try simp only [List.set_cons_zero, List.set_cons_succ, Int.toNat_natCast, Int.toNat_zero]
    refine vo_stM ?_
    refine vo_nil ?_
    refine hK9 _ ?_
    refine vc_region ?_
    refine vo_move_pv rfl rfl ?_
    refine vo_binI rfl rfl rfl rfl sd ?_
    refine vo_assign_pv rfl rfl ?_
    refine vo_nil ?_
    refine hK6 _ ?_
    refine vc_region ?_
    refine vo_move_pv rfl rfl ?_
    refine vo_binI rfl rfl rfl rfl sd ?_
    refine vo_assign_pv rfl rfl ?_
    refine vo_nil ?_
    change againE _ _ _ _ _ _ _ _ _ _
    refine againE_mk rfl rfl rfl rfl rfl rfl ⟨_, ?_, i + 1, y + 1 + 1, L.set i (y, y + 1), rfl, ?_, ?_, rfl, (rowP_eq (set2_pairs L i _ y (y + 1)))⟩
    · omega
    · refine ⟨by omega, ?_, by omega⟩; rw [List.length_set]; omega
    · exact hM.set (by omega) hi.2.2
  · try simp only [decide_eq_true_eq, decide_eq_false_iff_not, beq_iff_eq, bne_iff_ne, beq_eq_false_iff_ne, bne_eq_false_iff_eq, Bool.not_eq_true, Bool.not_eq_false, Bool.not_eq_eq_eq_not, Bool.not_true, Bool.not_false, List.length_map, Int.not_lt, Int.not_le, ne_eq, Decidable.not_not] at hc1
    refine vc_exit ?_
    refine hK2 _ ?_
    refine vc_seq fun K10 hK10 => ?_
    refine vc_region ?_
    refine vo_move_pv rfl rfl ?_
    refine vo_assign_pv rfl rfl ?_
    refine vo_nil ?_
    refine hK10 _ ?_
    refine vc_ret ?_
    change retQ _ _ _ _ _
    refine retQ_sel [] (srows := []) (.inr rfl) hC rfl rfl rfl rfl rfl rfl rfl ?_
    have e : y = k + 2 * (L.length : Int) := by omega
    subst e
    have e2 : i = L.length := by omega
    subst e2
    exact ⟨L, ⟨hi.2.1, hM⟩, rfl, rfl⟩


theorem heldPairS_sat {nl0 : Option Bool} {L : List (Int × Int)} {k : Int}  (hl : L.length < 1000000000) (hk : 0 ≤ k ∧ k < 1000000000) (hM : MkP L k L.length) : SatAt Try.prog 33 [.pv false (.sl nl0 2 (L.map pairP)), i64 k] [] (fun res rows => res = [i64 (k + 2 * L.length)] ∧ rows = []) := by
  refine sat_entry_G (rs := [(4, none)]) Try.func33 rfl rfl (Nat.le_of_ble_eq_true rfl) (Nat.le_of_ble_eq_true rfl) (resTs1 trivial) fun C hC => ?_
  rw [Try.ntmps33]
  replace hC : C.nb = 0 := hC
  refine vc_seq fun K1 hK1 => ?_
  refine vc_region ?_
  refine vo_assign_pv rfl rfl ?_
  refine vo_nil ?_
  refine hK1 _ ?_
  refine vc_seq fun K2 hK2 => ?_
  refine vc_seq fun K3 hK3 => ?_
  refine vc_region ?_
  refine vo_assign_pv rfl rfl ?_
  refine vo_nil ?_
  refine hK3 _ ?_
  refine vc_block ?_
  refine vc_stM ?_
  refine vc_loopE [0] [1, 5] [] _ _ (fun mz vs rs => ∃ (i : Nat) (y : Int), mz = L.length - i ∧ ((i ≤ L.length ∧ y = k + 2 * i)) ∧ vs = [i64 y, i64 i] ∧ rs = []) (L.length) rfl rfl (le_len hC rfl) ⟨rfl, rfl, rfl⟩ rfl ⟨0, k, rfl, (by simp), rfl, rfl⟩ ?_
  rintro mz vs rs - - ⟨i, y, rfl, hi, rfl, rfl⟩
  refine vc_stM ?_
  refine vc_seq fun K4 hK4 => ?_
  refine vc_seq fun K5 hK5 => ?_
  refine vc_region ?_
  refine vo_move_pv rfl rfl ?_
  refine vo_move_pv rfl rfl ?_
  refine vo_len_pv rfl rfl Try.underlying32 ?_
  refine vo_binI rfl rfl rfl rfl trivial ?_
  refine vo_nil ?_
  refine hK5 _ ?_
  refine vc_cond rfl (fun hc1 => ?_) (fun hc1 => ?_)
  · try simp only [decide_eq_true_eq, decide_eq_false_iff_not, beq_iff_eq, bne_iff_ne, beq_eq_false_iff_ne, bne_eq_false_iff_eq, Bool.not_eq_true, Bool.not_eq_false, Bool.not_eq_eq_eq_not, Bool.not_true, Bool.not_false, List.length_map, Int.not_lt, Int.not_le, ne_eq, Decidable.not_not] at hc1
    have hj := hM i (by omega)
    have hj1 : (L.getD i (0, 0)).1 = y := by rw [hj]; omega
    have hj2 : (L.getD i (0, 0)).2 = y + 1 := by rw [hj]; omega
    refine vc_skip ?_
    refine hK4 _ ?_
    refine vc_seq fun K6 hK6 => ?_
    refine vc_block ?_
    refine vc_seq fun K7 hK7 => ?_
    refine vc_seq fun K8 hK8 => ?_
    refine vc_region ?_
    refine vo_move_pv rfl rfl ?_
    refine vo_move_pv rfl rfl ?_
    refine vo_index_pv (.agg [(.int .i64 0), (.int .i64 0)]) rfl rfl rfl E32.und inf37 sz37 sd sd ?_
    simp only [Int.toNat_natCast, Int.toNat_zero, getD_ints, getD_intss, getD_bools, getD_bytes, PV.cells, getD_ops, getD_pairs, getD_insts]
    refine vo_fieldAddr_adr rfl rfl Try.underlying37 rfl inf3 (by rw [sz3]; decide) ?_
    refine vo_load_adr rfl rfl Try.underlying3 rfl ?_
    refine vo_move_pv rfl rfl ?_
    refine vo_binI rfl rfl rfl rfl trivial ?_
    refine vo_nil ?_
    refine hK8 _ ?_
    refine vc_cond rfl (fun hc2 => ?_) (fun hc2 => ?_)
    · try simp only [decide_eq_true_eq, decide_eq_false_iff_not, beq_iff_eq, bne_iff_ne, beq_eq_false_iff_ne, bne_eq_false_iff_eq, Bool.not_eq_true, Bool.not_eq_false, Bool.not_eq_eq_eq_not, Bool.not_true, Bool.not_false, List.length_map, Int.not_lt, Int.not_le, ne_eq, Decidable.not_not] at hc2
      refine vc_seq fun K9 hK9 => ?_
      refine vc_region ?_
      refine vo_assign_pv rfl rfl ?_
      refine vo_nil ?_
      refine hK9 _ ?_
      refine vc_ret ?_
      change retQ _ _ _ _ _
      refine retQ_sel [] (srows := []) (.inr rfl) hC rfl rfl rfl rfl rfl rfl rfl ?_
      refine ⟨?_, rfl⟩
      refine (congrArg (fun b => [i64 b]) (?_ : _ = _) : [i64 _] = [i64 _])
      exfalso; omega
    · try simp only [decide_eq_true_eq, decide_eq_false_iff_not, beq_iff_eq, bne_iff_ne, beq_eq_false_iff_ne, bne_eq_false_iff_eq, Bool.not_eq_true, Bool.not_eq_false, Bool.not_eq_eq_eq_not, Bool.not_true, Bool.not_false, List.length_map, Int.not_lt, Int.not_le, ne_eq, Decidable.not_not] at hc2
      refine vc_skip ?_
      refine hK7 _ ?_
      refine vc_seq fun K10 hK10 => ?_
      refine vc_region ?_
      refine vo_move_pv rfl rfl ?_
      refine vo_binI rfl rfl rfl rfl sd ?_
      refine vo_assign_pv rfl rfl ?_
      refine vo_nil ?_
      refine hK10 _ ?_
      refine vc_seq fun K11 hK11 => ?_
      refine vc_seq fun K12 hK12 => ?_
      refine vc_region ?_
      refine vo_move_pv rfl rfl ?_
      refine vo_move_pv rfl rfl ?_
      refine vo_index_pv (.agg [(.int .i64 0), (.int .i64 0)]) rfl rfl rfl E32.und inf37 sz37 sd sd ?_
      simp only [Int.toNat_natCast, Int.toNat_zero, getD_ints, getD_intss, getD_bools, getD_bytes, PV.cells, getD_ops, getD_pairs, getD_insts]
      refine vo_fieldAddr_adr rfl rfl Try.underlying37 rfl inf3 (by rw [sz3]; decide) ?_
      refine vo_load_adr rfl rfl Try.underlying3 rfl ?_
      refine vo_move_pv rfl rfl ?_
      refine vo_binI rfl rfl rfl rfl trivial ?_
      refine vo_nil ?_
      refine hK12 _ ?_
      refine vc_cond rfl (fun hc3 => ?_) (fun hc3 => ?_)
      · try simp only [decide_eq_true_eq, decide_eq_false_iff_not, beq_iff_eq, bne_iff_ne, beq_eq_false_iff_ne, bne_eq_false_iff_eq, Bool.not_eq_true, Bool.not_eq_false, Bool.not_eq_eq_eq_not, Bool.not_true, Bool.not_false, List.length_map, Int.not_lt, Int.not_le, ne_eq, Decidable.not_not] at hc3
        refine vc_seq fun K13 hK13 => ?_
        refine vc_region ?_
        refine vo_assign_pv rfl rfl ?_
        refine vo_nil ?_
        refine hK13 _ ?_
        refine vc_ret ?_
        change retQ _ _ _ _ _
        refine retQ_sel [] (srows := []) (.inr rfl) hC rfl rfl rfl rfl rfl rfl rfl ?_
        refine ⟨?_, rfl⟩
        refine (congrArg (fun b => [i64 b]) (?_ : _ = _) : [i64 _] = [i64 _])
        exfalso; omega
      · try simp only [decide_eq_true_eq, decide_eq_false_iff_not, beq_iff_eq, bne_iff_ne, beq_eq_false_iff_ne, bne_eq_false_iff_eq, Bool.not_eq_true, Bool.not_eq_false, Bool.not_eq_eq_eq_not, Bool.not_true, Bool.not_false, List.length_map, Int.not_lt, Int.not_le, ne_eq, Decidable.not_not] at hc3
        refine vc_skip ?_
        refine hK11 _ ?_
        refine vc_region ?_
        refine vo_move_pv rfl rfl ?_
        refine vo_binI rfl rfl rfl rfl sd ?_
        refine vo_assign_pv rfl rfl ?_
        refine vo_nil ?_
        refine hK6 _ ?_
        refine vc_region ?_
        refine vo_move_pv rfl rfl ?_
        refine vo_binI rfl rfl rfl rfl sd ?_
        refine vo_assign_pv rfl rfl ?_
        refine vo_nil ?_
        change againE _ _ _ _ _ _ _ _ _ _
        refine againE_mk rfl rfl rfl rfl rfl rfl ⟨_, ?_, i + 1, y + 1 + 1, rfl, ?_, rfl, rfl⟩
        · omega
        · omega
  · try simp only [decide_eq_true_eq, decide_eq_false_iff_not, beq_iff_eq, bne_iff_ne, beq_eq_false_iff_ne, bne_eq_false_iff_eq, Bool.not_eq_true, Bool.not_eq_false, Bool.not_eq_eq_eq_not, Bool.not_true, Bool.not_false, List.length_map, Int.not_lt, Int.not_le, ne_eq, Decidable.not_not] at hc1
    refine vc_exit ?_
    refine hK2 _ ?_
    refine vc_seq fun K14 hK14 => ?_
    refine vc_region ?_
    refine vo_move_pv rfl rfl ?_
    refine vo_assign_pv rfl rfl ?_
    refine vo_nil ?_
    refine hK14 _ ?_
    refine vc_ret ?_
    change retQ _ _ _ _ _
    refine retQ_sel [] (srows := []) (.inr rfl) hC rfl rfl rfl rfl rfl rfl rfl ?_
    refine ⟨?_, rfl⟩
    refine (congrArg (fun b => [i64 b]) (?_ : _ = _) : [i64 _] = [i64 _])
    omega


theorem FnExactPlainPairs_sat {nl0 : Option Bool} {a : List OpM} {who : Int}  (ha : a.length ≤ 9223372036854775807 ∧ ∀ x ∈ a, True) : SatAt Try.prog 8 [.pv false (.sl nl0 4 (a.map opP)), i64 who] [] (fun res rows => res = [bo true] ∧ rows = []) := by
  have hpl := plp_len a who
  refine sat_entry_G (rs := [(4, none)]) Try.func8 rfl rfl (Nat.le_of_ble_eq_true rfl) (Nat.le_of_ble_eq_true rfl) (resTs1 trivial) fun C hC => ?_
  rw [Try.ntmps8]
  replace hC : C.nb = 0 := hC
  refine vc_seq fun K1 hK1 => ?_
  refine vc_region ?_
  refine vo_assign_pv rfl rfl ?_
  refine vo_nil ?_
  refine hK1 _ ?_
  refine vc_seq fun K2 hK2 => ?_
  refine vc_region ?_
  refine vo_assign_pv rfl rfl ?_
  refine vo_nil ?_
  refine hK2 _ ?_
  refine vc_seq fun K3 hK3 => ?_
  refine vc_region ?_
  refine vo_move_pv rfl rfl ?_
  refine vo_move_pv rfl rfl ?_
  refine vo_call0 Try.func18 rfl rfl rfl rfl (szOpS_satX ha.1 (by omega)) ?_
  rintro _ _ ⟨rfl, rfl⟩
  refine ⟨rfl, rfl, .inl rfl, ?_⟩
  refine vo_stM ?_
  refine vo_assign_pv rfl rfl ?_
  refine vo_nil ?_
  refine hK3 _ ?_
  refine vc_seq fun K4 hK4 => ?_
  refine vc_seq fun K5 hK5 => ?_
  refine vc_region ?_
  refine vo_move_pv rfl rfl ?_
  refine vo_binI rfl rfl rfl rfl trivial ?_
  refine vo_nil ?_
  refine hK5 _ ?_
  refine vc_cond rfl (fun hc1 => ?_) (fun hc1 => ?_)
  · try simp only [decide_eq_true_eq, decide_eq_false_iff_not, beq_iff_eq, bne_iff_ne, beq_eq_false_iff_ne, bne_eq_false_iff_eq, Bool.not_eq_true, Bool.not_eq_false, Bool.not_eq_eq_eq_not, Bool.not_true, Bool.not_false, List.length_map, Int.not_lt, Int.not_le, ne_eq, Decidable.not_not] at hc1
    refine vc_seq fun K6 hK6 => ?_
    refine vc_region ?_
    refine vo_assign_pv rfl rfl ?_
    refine vo_nil ?_
    refine hK6 _ ?_
    refine vc_ret ?_
    change retQ _ _ _ _ _
    refine retQ_sel [] (srows := []) (.inr rfl) hC rfl rfl rfl rfl rfl rfl rfl ?_
    exact ⟨rfl, rfl⟩
  · try simp only [decide_eq_true_eq, decide_eq_false_iff_not, beq_iff_eq, bne_iff_ne, beq_eq_false_iff_ne, bne_eq_false_iff_eq, Bool.not_eq_true, Bool.not_eq_false, Bool.not_eq_eq_eq_not, Bool.not_true, Bool.not_false, List.length_map, Int.not_lt, Int.not_le, ne_eq, Decidable.not_not] at hc1
    split at hc1
    · omega
    have hlen : a.length ≤ 1048576 := by omega
    refine vc_skip ?_
    refine hK4 _ ?_
    refine vc_seq fun K7 hK7 => ?_
    refine vc_region ?_
    refine vo_move_pv rfl rfl ?_
    refine vo_call [] Try.func19 rfl rfl rfl rfl rfl rfl rfl (toOpSO_sat (by omega)) ?_
    rintro _ _ ⟨rfl, rfl⟩
    refine ⟨Nat.le_of_ble_eq_true rfl, ⟨rfl, rfl, rfl, rfl⟩, .inl rfl, ?_⟩
    refine vo_stM ?_
    refine vo_move_pv rfl rfl ?_
    refine vo_call0 Try.func30 rfl rfl rfl rfl (specPlainPairs_sat (by omega)) ?_
    rintro _ _ ⟨nlw, rfl, rfl⟩
    refine ⟨rfl, rfl, .inr rfl, ?_⟩
    refine vo_stM ?_
    refine vo_assign_pv rfl rfl ?_
    refine vo_nil ?_
    refine hK7 _ ?_
    refine vc_seq fun K8 hK8 => ?_
    refine vc_region ?_
    refine vo_move_pv rfl rfl ?_
    refine vo_call [] Try.func19 rfl rfl rfl rfl rfl rfl rfl (toOpSO_sat (by omega)) ?_
    rintro _ _ ⟨rfl, rfl⟩
    refine ⟨Nat.le_of_ble_eq_true rfl, ⟨rfl, rfl, rfl, rfl⟩, .inl rfl, ?_⟩
    refine vo_stM ?_
    refine vo_assign_ref rfl rfl ?_
    refine vo_nil ?_
    refine hK8 _ ?_
    refine vc_seq fun K9 hK9 => ?_
    refine vc_region ?_
    refine vo_move_ref rfl rfl ?_
    refine vo_move_pv rfl rfl ?_
    refine vo_call [] Try.func28 rfl rfl rfl rfl rfl rfl rfl (implPlainPairs_sat (by omega)) ?_
    rintro _ _ ⟨nlg, rfl, rfl⟩
    refine ⟨Nat.le_of_ble_eq_true rfl, ⟨rfl, rfl, rfl, rfl⟩, .inr ⟨rfl, rfl⟩, ?_⟩
    refine vo_stM ?_
    refine vo_assign_ref rfl rfl ?_
    refine vo_nil ?_
    refine hK9 _ ?_
    refine vc_seq fun K10 hK10 => ?_
    refine vc_seq fun K11 hK11 => ?_
    refine vc_region ?_
    refine vo_move_ref rfl rfl ?_
    refine vo_move_pv rfl rfl ?_
    refine vo_call0 Try.func26 rfl rfl rfl rfl (eqPairS_sat (by omega) (by omega)) ?_
    rintro _ _ ⟨rfl, rfl⟩
    refine ⟨rfl, rfl, .inr rfl, ?_⟩
    refine vo_stM ?_
    refine vo_not rfl rfl ?_
    refine vo_nil ?_
    refine hK11 _ ?_
    refine vc_cond rfl (fun hc2 => ?_) (fun hc2 => ?_)
    · try simp only [decide_eq_true_eq, decide_eq_false_iff_not, beq_iff_eq, bne_iff_ne, beq_eq_false_iff_ne, bne_eq_false_iff_eq, Bool.not_eq_true, Bool.not_eq_false, Bool.not_eq_eq_eq_not, Bool.not_true, Bool.not_false, List.length_map, Int.not_lt, Int.not_le, ne_eq, Decidable.not_not] at hc2
      refine vc_seq fun K12 hK12 => ?_
      refine vc_region ?_
      refine vo_assign_pv rfl rfl ?_
      refine vo_nil ?_
      refine hK12 _ ?_
      refine vc_ret ?_
      change retQ _ _ _ _ _
      refine retQ_sel [] (srows := []) (.inr rfl) hC rfl rfl rfl rfl rfl rfl rfl ?_
      first | exact ⟨rfl, rfl⟩ | (exfalso; omega) | (exfalso; simp_all; done) | (exfalso; simp_all; omega)
    · try simp only [decide_eq_true_eq, decide_eq_false_iff_not, beq_iff_eq, bne_iff_ne, beq_eq_false_iff_ne, bne_eq_false_iff_eq, Bool.not_eq_true, Bool.not_eq_false, Bool.not_eq_eq_eq_not, Bool.not_true, Bool.not_false, List.length_map, Int.not_lt, Int.not_le, ne_eq, Decidable.not_not] at hc2
      refine vc_skip ?_
      refine hK10 _ ?_
      refine vc_seq fun K13 hK13 => ?_
      refine vc_seq fun K14 hK14 => ?_
      refine vc_region ?_
      refine vo_move_ref rfl rfl ?_
      refine vo_move_pv rfl rfl ?_
      refine vo_call [] Try.func19 rfl rfl rfl rfl rfl rfl rfl (toOpSO_sat (by omega)) ?_
      rintro _ _ ⟨rfl, rfl⟩
      refine ⟨Nat.le_of_ble_eq_true rfl, ⟨rfl, rfl, rfl, rfl⟩, .inl rfl, ?_⟩
      refine vo_stM ?_
      refine vo_call0 Try.func20 rfl rfl rfl rfl (eqOpS_sat (by omega) (by omega)) ?_
      rintro _ _ ⟨rfl, rfl⟩
      refine ⟨rfl, rfl, .inr rfl, ?_⟩
      refine vo_stM ?_
      refine vo_not rfl rfl ?_
      refine vo_nil ?_
      refine hK14 _ ?_
      refine vc_cond rfl (fun hc3 => ?_) (fun hc3 => ?_)
      · try simp only [decide_eq_true_eq, decide_eq_false_iff_not, beq_iff_eq, bne_iff_ne, beq_eq_false_iff_ne, bne_eq_false_iff_eq, Bool.not_eq_true, Bool.not_eq_false, Bool.not_eq_eq_eq_not, Bool.not_true, Bool.not_false, List.length_map, Int.not_lt, Int.not_le, ne_eq, Decidable.not_not] at hc3
        refine vc_seq fun K15 hK15 => ?_
        refine vc_region ?_
        refine vo_assign_pv rfl rfl ?_
        refine vo_nil ?_
        refine hK15 _ ?_
        refine vc_ret ?_
        change retQ _ _ _ _ _
        refine retQ_sel [] (srows := []) (.inr rfl) hC rfl rfl rfl rfl rfl rfl rfl ?_
        first | exact ⟨rfl, rfl⟩ | (exfalso; omega) | (exfalso; simp_all; done) | (exfalso; simp_all; omega)
      · try simp only [decide_eq_true_eq, decide_eq_false_iff_not, beq_iff_eq, bne_iff_ne, beq_eq_false_iff_ne, bne_eq_false_iff_eq, Bool.not_eq_true, Bool.not_eq_false, Bool.not_eq_eq_eq_not, Bool.not_true, Bool.not_false, List.length_map, Int.not_lt, Int.not_le, ne_eq, Decidable.not_not] at hc3
        refine vc_skip ?_
        refine hK13 _ ?_
        refine vc_seq fun K16 hK16 => ?_
        refine vc_region ?_
        refine vo_assign_pv rfl rfl ?_
        refine vo_nil ?_
        refine hK16 _ ?_
        refine vc_seq fun K17 hK17 => ?_
        refine vc_region ?_
        refine vo_move_ref rfl rfl ?_
        refine vo_move_pv rfl rfl ?_
        refine vo_call [1] Try.func31 rfl rfl rfl rfl rfl rfl rfl (markOpS_sat (by omega) (by omega)) ?_
        rintro _ _ ⟨xs, hA, rfl, rfl⟩
        refine ⟨Nat.le_of_ble_eq_true rfl, ⟨rfl, rfl, rfl, rfl⟩, .inl rfl, ?_⟩
        refine vo_stM ?_
        refine vo_assign_pv rfl rfl ?_
        refine vo_nil ?_
        refine hK17 _ ?_
        refine vc_seq fun K18 hK18 => ?_
        refine vc_seq fun K19 hK19 => ?_
        refine vc_region ?_
        refine vo_move_pv rfl rfl ?_
        refine vo_binI rfl rfl rfl rfl trivial ?_
        refine vo_move_pv rfl rfl ?_
        refine vo_split 41 rfl (fun hg4 => ?_) (fun hg4 => ?_)
        · try simp only [decide_eq_true_eq, decide_eq_false_iff_not, beq_iff_eq, bne_iff_ne, beq_eq_false_iff_ne, bne_eq_false_iff_eq, Bool.not_eq_true, Bool.not_eq_false, Bool.not_eq_eq_eq_not, Bool.not_true, Bool.not_false, List.length_map, Int.not_lt, Int.not_le, ne_eq, Decidable.not_not] at hg4
          refine vo_guard_off rfl rfl rfl rfl rfl ?_
          refine vo_guard_off rfl rfl rfl rfl rfl ?_
          refine vo_guard_off rfl rfl rfl rfl rfl ?_
          refine vo_guard_off rfl rfl rfl rfl rfl ?_
          refine vo_pick_t rfl rfl ?_
          refine vo_nil ?_
          refine hK19 _ ?_
          refine vc_cond_t rfl ?_
          refine vc_seq fun K20 hK20 => ?_
          refine vc_region ?_
          refine vo_assign_pv rfl rfl ?_
          refine vo_nil ?_
          refine hK20 _ ?_
          refine vc_ret ?_
          change retQ _ _ _ _ _
          refine retQ_sel [] (srows := []) (.inr rfl) hC rfl rfl rfl rfl rfl rfl rfl ?_
          first | exact ⟨rfl, rfl⟩ | (exfalso; omega) | (exfalso; simp_all; done) | (exfalso; simp_all; omega)
        · try simp only [decide_eq_true_eq, decide_eq_false_iff_not, beq_iff_eq, bne_iff_ne, beq_eq_false_iff_ne, bne_eq_false_iff_eq, Bool.not_eq_true, Bool.not_eq_false, Bool.not_eq_eq_eq_not, Bool.not_true, Bool.not_false, List.length_map, Int.not_lt, Int.not_le, ne_eq, Decidable.not_not] at hg4
          refine vo_guard_on rfl rfl rfl ?_
          refine vo_move_ref rfl rfl ?_
          refine vo_guard_on rfl rfl rfl ?_
          refine vo_move_pv rfl rfl ?_
          refine vo_guard_on rfl rfl rfl ?_
          refine vo_call0 Try.func26 rfl rfl rfl rfl (eqPairS_sat (by omega) (by omega)) ?_
          rintro _ _ ⟨rfl, rfl⟩
          refine ⟨rfl, rfl, .inr rfl, ?_⟩
          refine vo_stM ?_
          refine vo_guard_on rfl rfl rfl ?_
          refine vo_not rfl rfl ?_
          refine vo_pick_f rfl rfl ?_
          refine vo_nil ?_
          refine hK19 _ ?_
          refine vc_cond rfl (fun hc5 => ?_) (fun hc5 => ?_)
          · try simp only [decide_eq_true_eq, decide_eq_false_iff_not, beq_iff_eq, bne_iff_ne, beq_eq_false_iff_ne, bne_eq_false_iff_eq, Bool.not_eq_true, Bool.not_eq_false, Bool.not_eq_eq_eq_not, Bool.not_true, Bool.not_false, List.length_map, Int.not_lt, Int.not_le, ne_eq, Decidable.not_not] at hc5
            refine vc_seq fun K21 hK21 => ?_
            refine vc_region ?_
            refine vo_assign_pv rfl rfl ?_
            refine vo_nil ?_
            refine hK21 _ ?_
            refine vc_ret ?_
            change retQ _ _ _ _ _
            refine retQ_sel [] (srows := []) (.inr rfl) hC rfl rfl rfl rfl rfl rfl rfl ?_
            first | exact ⟨rfl, rfl⟩ | (exfalso; omega) | (exfalso; simp_all; done) | (exfalso; simp_all; omega)
          · try simp only [decide_eq_true_eq, decide_eq_false_iff_not, beq_iff_eq, bne_iff_ne, beq_eq_false_iff_ne, bne_eq_false_iff_eq, Bool.not_eq_true, Bool.not_eq_false, Bool.not_eq_eq_eq_not, Bool.not_true, Bool.not_false, List.length_map, Int.not_lt, Int.not_le, ne_eq, Decidable.not_not] at hc5
            refine vc_skip ?_
            refine hK18 _ ?_
            refine vc_seq fun K22 hK22 => ?_
            refine vc_region ?_
            refine vo_assign_pv rfl rfl ?_
            refine vo_nil ?_
            refine hK22 _ ?_
            refine vc_seq fun K23 hK23 => ?_
            refine vc_region ?_
            refine vo_move_ref rfl rfl ?_
            refine vo_move_pv rfl rfl ?_
            refine vo_call [2] Try.func32 rfl rfl rfl rfl rfl rfl rfl (markPairS_sat (by omega) (by omega)) ?_
            rintro _ _ ⟨LM, ⟨hL1, hL2⟩, rfl, rfl⟩
            refine ⟨Nat.le_of_ble_eq_true rfl, ⟨rfl, rfl, rfl, rfl⟩, .inl rfl, ?_⟩
            refine vo_stM ?_
            refine vo_assign_pv rfl rfl ?_
            refine vo_nil ?_
            refine hK23 _ ?_
            refine vc_seq fun K24 hK24 => ?_
            refine vc_region ?_
            refine vo_assign_pv rfl rfl ?_
            refine vo_nil ?_
            refine hK24 _ ?_
            refine vc_seq fun K25 hK25 => ?_
            refine vc_region ?_
            refine vo_move_ref rfl rfl ?_
            refine vo_move_pv rfl rfl ?_
            refine vo_call0 Try.func33 rfl rfl rfl rfl (heldPairS_sat (by omega) (by omega) hL2) ?_
            rintro _ _ ⟨rfl, rfl⟩
            refine ⟨rfl, rfl, .inr rfl, ?_⟩
            refine vo_stM ?_
            refine vo_assign_pv rfl rfl ?_
            refine vo_nil ?_
            refine hK25 _ ?_
            refine vc_seq fun K26 hK26 => ?_
            refine vc_seq fun K27 hK27 => ?_
            refine vc_region ?_
            refine vo_move_pv rfl rfl ?_
            refine vo_binI rfl rfl rfl rfl trivial ?_
            refine vo_nil ?_
            refine hK27 _ ?_
            refine vc_cond rfl (fun hc6 => ?_) (fun hc6 => ?_)
            · try simp only [decide_eq_true_eq, decide_eq_false_iff_not, beq_iff_eq, bne_iff_ne, beq_eq_false_iff_ne, bne_eq_false_iff_eq, Bool.not_eq_true, Bool.not_eq_false, Bool.not_eq_eq_eq_not, Bool.not_true, Bool.not_false, List.length_map, Int.not_lt, Int.not_le, ne_eq, Decidable.not_not] at hc6
              refine vc_seq fun K28 hK28 => ?_
              refine vc_region ?_
              refine vo_assign_pv rfl rfl ?_
              refine vo_nil ?_
              refine hK28 _ ?_
              refine vc_ret ?_
              change retQ _ _ _ _ _
              refine retQ_sel [] (srows := []) (.inr rfl) hC rfl rfl rfl rfl rfl rfl rfl ?_
              first | exact ⟨rfl, rfl⟩ | (exfalso; omega) | (exfalso; simp_all; done) | (exfalso; simp_all; omega)
            · try simp only [decide_eq_true_eq, decide_eq_false_iff_not, beq_iff_eq, bne_iff_ne, beq_eq_false_iff_ne, bne_eq_false_iff_eq, Bool.not_eq_true, Bool.not_eq_false, Bool.not_eq_eq_eq_not, Bool.not_true, Bool.not_false, List.length_map, Int.not_lt, Int.not_le, ne_eq, Decidable.not_not] at hc6
              refine vc_skip ?_
              refine hK26 _ ?_
              refine vc_seq fun K29 hK29 => ?_
              refine vc_seq fun K30 hK30 => ?_
              refine vc_region ?_
              refine vo_move_pv rfl rfl ?_
              refine vo_move_pv rfl rfl ?_
              refine vo_binI rfl rfl rfl rfl trivial ?_
              refine vo_nil ?_
              refine hK30 _ ?_
              refine vc_cond rfl (fun hc7 => ?_) (fun hc7 => ?_)
              · try simp only [decide_eq_true_eq, decide_eq_false_iff_not, beq_iff_eq, bne_iff_ne, beq_eq_false_iff_ne, bne_eq_false_iff_eq, Bool.not_eq_true, Bool.not_eq_false, Bool.not_eq_eq_eq_not, Bool.not_true, Bool.not_false, List.length_map, Int.not_lt, Int.not_le, ne_eq, Decidable.not_not] at hc7
                refine vc_seq fun K31 hK31 => ?_
                refine vc_region ?_
                refine vo_assign_pv rfl rfl ?_
                refine vo_nil ?_
                refine hK31 _ ?_
                refine vc_ret ?_
                change retQ _ _ _ _ _
                refine retQ_sel [] (srows := []) (.inr rfl) hC rfl rfl rfl rfl rfl rfl rfl ?_
                first | exact ⟨rfl, rfl⟩ | (exfalso; omega) | (exfalso; simp_all; done) | (exfalso; simp_all; omega)
              · try simp only [decide_eq_true_eq, decide_eq_false_iff_not, beq_iff_eq, bne_iff_ne, beq_eq_false_iff_ne, bne_eq_false_iff_eq, Bool.not_eq_true, Bool.not_eq_false, Bool.not_eq_eq_eq_not, Bool.not_true, Bool.not_false, List.length_map, Int.not_lt, Int.not_le, ne_eq, Decidable.not_not] at hc7
                refine vc_skip ?_
                refine hK29 _ ?_
                refine vc_seq fun K32 hK32 => ?_
                refine vc_region ?_
                refine vo_move_pv rfl rfl ?_
                refine vo_call [] Try.func19 rfl rfl rfl rfl rfl rfl rfl (toOpSO_sat (by omega)) ?_
                rintro _ _ ⟨rfl, rfl⟩
                refine ⟨Nat.le_of_ble_eq_true rfl, ⟨rfl, rfl, rfl, rfl⟩, .inl rfl, ?_⟩
                refine vo_stM ?_
                refine vo_move_pv rfl rfl ?_
                refine vo_call [] Try.func28 rfl rfl rfl rfl rfl rfl rfl (implPlainPairs_sat (by omega)) ?_
                rintro _ _ ⟨nlh, rfl, rfl⟩
                refine ⟨Nat.le_of_ble_eq_true rfl, ⟨rfl, rfl, rfl, rfl⟩, .inr ⟨rfl, rfl⟩, ?_⟩
                refine vo_stM ?_
                refine vo_assign_ref rfl rfl ?_
                refine vo_nil ?_
                refine hK32 _ ?_
                refine vc_seq fun K33 hK33 => ?_
                refine vc_seq fun K34 hK34 => ?_
                refine vc_region ?_
                refine vo_move_ref rfl rfl ?_
                refine vo_move_pv rfl rfl ?_
                refine vo_call0 Try.func26 rfl rfl rfl rfl (eqPairS_sat (by omega) (by omega)) ?_
                rintro _ _ ⟨rfl, rfl⟩
                refine ⟨rfl, rfl, .inr rfl, ?_⟩
                refine vo_stM ?_
                refine vo_not rfl rfl ?_
                refine vo_nil ?_
                refine hK34 _ ?_
                refine vc_cond rfl (fun hc8 => ?_) (fun hc8 => ?_)
                · try simp only [decide_eq_true_eq, decide_eq_false_iff_not, beq_iff_eq, bne_iff_ne, beq_eq_false_iff_ne, bne_eq_false_iff_eq, Bool.not_eq_true, Bool.not_eq_false, Bool.not_eq_eq_eq_not, Bool.not_true, Bool.not_false, List.length_map, Int.not_lt, Int.not_le, ne_eq, Decidable.not_not] at hc8
                  refine vc_seq fun K35 hK35 => ?_
                  refine vc_region ?_
                  refine vo_assign_pv rfl rfl ?_
                  refine vo_nil ?_
                  refine hK35 _ ?_
                  refine vc_ret ?_
                  change retQ _ _ _ _ _
                  refine retQ_sel [] (srows := []) (.inr rfl) hC rfl rfl rfl rfl rfl rfl rfl ?_
                  first | exact ⟨rfl, rfl⟩ | (exfalso; omega) | (exfalso; simp_all; done) | (exfalso; simp_all; omega)
                · try simp only [decide_eq_true_eq, decide_eq_false_iff_not, beq_iff_eq, bne_iff_ne, beq_eq_false_iff_ne, bne_eq_false_iff_eq, Bool.not_eq_true, Bool.not_eq_false, Bool.not_eq_eq_eq_not, Bool.not_true, Bool.not_false, List.length_map, Int.not_lt, Int.not_le, ne_eq, Decidable.not_not] at hc8
                  refine vc_skip ?_
                  refine hK33 _ ?_
                  refine vc_seq fun K36 hK36 => ?_
                  refine vc_region ?_
                  refine vo_assign_pv rfl rfl ?_
                  refine vo_nil ?_
                  refine hK36 _ ?_
                  refine vc_seq fun K37 hK37 => ?_
                  refine vc_region ?_
                  refine vo_move_ref rfl rfl ?_
                  refine vo_move_pv rfl rfl ?_
                  refine vo_call0 Try.func33 rfl rfl rfl rfl (heldPairS_sat (by omega) (by omega) hL2) ?_
                  rintro _ _ ⟨rfl, rfl⟩
                  refine ⟨rfl, rfl, .inr rfl, ?_⟩
                  refine vo_stM ?_
                  refine vo_assign_pv rfl rfl ?_
                  refine vo_nil ?_
                  refine hK37 _ ?_
                  refine vc_seq fun K38 hK38 => ?_
                  refine vc_seq fun K39 hK39 => ?_
                  refine vc_region ?_
                  refine vo_move_pv rfl rfl ?_
                  refine vo_binI rfl rfl rfl rfl trivial ?_
                  refine vo_nil ?_
                  refine hK39 _ ?_
                  refine vc_cond rfl (fun hc9 => ?_) (fun hc9 => ?_)
                  · try simp only [decide_eq_true_eq, decide_eq_false_iff_not, beq_iff_eq, bne_iff_ne, beq_eq_false_iff_ne, bne_eq_false_iff_eq, Bool.not_eq_true, Bool.not_eq_false, Bool.not_eq_eq_eq_not, Bool.not_true, Bool.not_false, List.length_map, Int.not_lt, Int.not_le, ne_eq, Decidable.not_not] at hc9
                    refine vc_seq fun K40 hK40 => ?_
                    refine vc_region ?_
                    refine vo_assign_pv rfl rfl ?_
                    refine vo_nil ?_
                    refine hK40 _ ?_
                    refine vc_ret ?_
                    change retQ _ _ _ _ _
                    refine retQ_sel [] (srows := []) (.inr rfl) hC rfl rfl rfl rfl rfl rfl rfl ?_
                    first | exact ⟨rfl, rfl⟩ | (exfalso; omega) | (exfalso; simp_all; done) | (exfalso; simp_all; omega)
                  · try simp only [decide_eq_true_eq, decide_eq_false_iff_not, beq_iff_eq, bne_iff_ne, beq_eq_false_iff_ne, bne_eq_false_iff_eq, Bool.not_eq_true, Bool.not_eq_false, Bool.not_eq_eq_eq_not, Bool.not_true, Bool.not_false, List.length_map, Int.not_lt, Int.not_le, ne_eq, Decidable.not_not] at hc9
                    refine vc_skip ?_
                    refine hK38 _ ?_
                    refine vc_seq fun K41 hK41 => ?_
                    refine vc_seq fun K42 hK42 => ?_
                    refine vc_region ?_
                    refine vo_move_pv rfl rfl ?_
                    refine vo_move_pv rfl rfl ?_
                    refine vo_binI rfl rfl rfl rfl trivial ?_
                    refine vo_nil ?_
                    refine hK42 _ ?_
                    refine vc_cond rfl (fun hc10 => ?_) (fun hc10 => ?_)
                    · try simp only [decide_eq_true_eq, decide_eq_false_iff_not, beq_iff_eq, bne_iff_ne, beq_eq_false_iff_ne, bne_eq_false_iff_eq, Bool.not_eq_true, Bool.not_eq_false, Bool.not_eq_eq_eq_not, Bool.not_true, Bool.not_false, List.length_map, Int.not_lt, Int.not_le, ne_eq, Decidable.not_not] at hc10
                      refine vc_seq fun K43 hK43 => ?_
                      refine vc_region ?_
                      refine vo_assign_pv rfl rfl ?_
                      refine vo_nil ?_
                      refine hK43 _ ?_
                      refine vc_ret ?_
                      change retQ _ _ _ _ _
                      refine retQ_sel [] (srows := []) (.inr rfl) hC rfl rfl rfl rfl rfl rfl rfl ?_
                      first | exact ⟨rfl, rfl⟩ | (exfalso; omega) | (exfalso; simp_all; done) | (exfalso; simp_all; omega)
                    · try simp only [decide_eq_true_eq, decide_eq_false_iff_not, beq_iff_eq, bne_iff_ne, beq_eq_false_iff_ne, bne_eq_false_iff_eq, Bool.not_eq_true, Bool.not_eq_false, Bool.not_eq_eq_eq_not, Bool.not_true, Bool.not_false, List.length_map, Int.not_lt, Int.not_le, ne_eq, Decidable.not_not] at hc10
                      refine vc_skip ?_
                      refine hK41 _ ?_
                      refine vc_seq fun K44 hK44 => ?_
                      refine vc_region ?_
                      refine vo_assign_pv rfl rfl ?_
                      refine vo_nil ?_
                      refine hK44 _ ?_
                      refine vc_ret ?_
                      change retQ _ _ _ _ _
                      refine retQ_sel [] (srows := []) (.inr rfl) hC rfl rfl rfl rfl rfl rfl rfl ?_
                      first | exact ⟨rfl, rfl⟩ | (exfalso; omega) | (exfalso; simp_all; done) | (exfalso; simp_all; omega)

end Go.Vl

