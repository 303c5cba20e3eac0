/- Part 3 of the texts that the proof of FnSamePairs is built on. -/
import Derived.Test.YtajolcdboifjaaaVl2
namespace Go.Vl
set_option linter.unusedVariables false
set_option linter.unusedSimpArgs false
open Go.Proofs

theorem getE_pairs {l : List (Int × Int)} {i : Nat} (h : i < l.length) : (l.map pairP)[i]? = some (.agg [.int .i64 (l.getD i (0, 0)).1, .int .i64 (l.getD i (0, 0)).2]) := by
  rw [List.getElem?_map, List.getElem?_eq_getElem h]
  simp [List.getD, List.getElem?_eq_getElem h]
/-- Pairs after a change. -/
def chg (l : List (Int × Int)) (o : OpM) : List (Int × Int) :=
  if o.gone = true then (if 0 ≤ findM o.name (nms l) 0 then l.take (findM o.name (nms l) 0).toNat ++ l.drop (findM o.name (nms l) 0 + 1).toNat else l)
  else if 0 ≤ findM o.name (nms l) 0 then l.set (findM o.name (nms l) 0).toNat ((l.getD (findM o.name (nms l) 0).toNat (0, 0)).1, o.value) else l ++ [(o.name, o.value)]
theorem chg_len (l : List (Int × Int)) (o : OpM) : (chg l o).length ≤ l.length + 1 := by
  unfold chg
  split
  · split
    · rw [List.length_append, List.length_take, List.length_drop]; omega
    · omega
  · split
    · rw [List.length_set]; omega
    · simp
def plpK (list : List OpM) (who : Int) (k : Nat) : List (Int × Int) := (list.take k).foldl (fun l o => if o.who = who then chg l o else l) []
theorem plpK_yes {list : List OpM} {who : Int} {k : Nat} (h : k < list.length) (hw : (list.getD k ⟨0, 0, 0, false⟩).who = who) : plpK list who (k+1) = chg (plpK list who k) (list.getD k ⟨0, 0, 0, false⟩) := by
  have : list.take (k+1) = list.take k ++ [list.getD k ⟨0, 0, 0, false⟩] := by rw [List.take_add_one, List.getD, List.getElem?_eq_getElem h]; rfl
  unfold plpK; rw [this, List.foldl_append, List.foldl_cons, List.foldl_nil, if_pos hw]
theorem plpK_no {list : List OpM} {who : Int} {k : Nat} (h : k < list.length) (hw : ¬ (list.getD k ⟨0, 0, 0, false⟩).who = who) : plpK list who (k+1) = plpK list who k := by
  have : list.take (k+1) = list.take k ++ [list.getD k ⟨0, 0, 0, false⟩] := by rw [List.take_add_one, List.getD, List.getElem?_eq_getElem h]; rfl
  unfold plpK; rw [this, List.foldl_append, List.foldl_cons, List.foldl_nil, if_neg hw]
theorem plpK_len {list : List OpM} {who : Int} : ∀ k, k ≤ list.length → (plpK list who k).length ≤ k
  | 0, _ => by simp [plpK]
  | k+1, h => by
    have ih := plpK_len (list := list) (who := who) k (by omega)
    by_cases hw : (list.getD k ⟨0, 0, 0, false⟩).who = who
    · rw [plpK_yes (by omega) hw]; have := chg_len (plpK list who k) (list.getD k ⟨0, 0, 0, false⟩); omega
    · rw [plpK_no (by omega) hw]; omega
def plp (list : List OpM) (who : Int) : List (Int × Int) := if VOps list ∧ 0 ≤ who ∧ who ≤ 3 then plpK list who list.length else []
theorem plp_len (list : List OpM) (who : Int) : (plp list who).length ≤ 40 := by
  unfold plp
  split
  · rename_i h; have := plpK_len (list := list) (who := who) list.length (Nat.le_refl _); have := h.1.1; omega
  · simp

theorem change_sat {nl0 : Option Bool} {list : List (Int × Int)} {o : OpM} (hlist : list.length < 1000000000)  : SatAt Try.prog 70 [.pv false (.sl nl0 2 (list.map pairP)), .pv false (opP o)] [] (fun res rows => ∃ nl, res = [.pv true (.sl nl 2 ((chg list o).map pairP))] ∧ rows = []) := by
  refine sat_entry_G (rs := [(4, none)]) Try.func70 rfl rfl (Nat.le_of_ble_eq_true rfl) (Nat.le_of_ble_eq_true rfl) (resTs1 trivial) fun C hC => ?_
  rw [Try.ntmps70]
  replace hC : C.nb = 0 := hC
  refine vc_seq fun K1 hK1 => ?_
  refine vc_region ?_
  refine vo_box rfl rfl ?_
  refine vo_stM ?_
  refine vo_assign_pv rfl rfl ?_
  refine vo_nil ?_
  refine hK1 _ ?_
  refine vc_seq fun K2 hK2 => ?_
  refine vc_region ?_
  refine vo_buildSlice E32 rfl rfl rfl rfl rfl ?_
  refine vo_stM ?_
  refine vo_move_pv rfl rfl ?_
  refine vo_append E32 rfl (by omega) rfl rfl rfl sd sd ?_
  refine vo_stM ?_
  try simp only [app_ints, app_intss, app_bools, List.nil_append, app_pairs, ← List.map_take, ← List.map_drop, ← List.map_append]
  refine vo_clean 1 rfl (scal_pairs _) ?_
  refine vo_stM ?_
  refine vo_assign_ref rfl rfl ?_
  refine vo_nil ?_
  refine hK2 _ ?_
  refine vc_seq fun K3 hK3 => ?_
  refine vc_region ?_
  refine vo_move_ref rfl rfl ?_
  refine vo_fieldAddr_ptr rfl rfl Try.underlying46 rfl inf3 (by rw [sz3]; decide) ?_
  try simp only [Nat.zero_add]
  refine vo_load_var rfl rfl rfl Try.underlying3 rfl rfl ?_
  refine vo_call0 Try.func62 rfl rfl rfl rfl (pairAt_sat (by omega)) ?_
  rintro _ _ ⟨rfl, rfl⟩
  refine ⟨rfl, rfl, .inr rfl, ?_⟩
  refine vo_stM ?_
  refine vo_assign_pv rfl rfl ?_
  refine vo_nil ?_
  refine hK3 _ ?_
  refine vc_seq fun K4 hK4 => ?_
  refine vc_seq fun K5 hK5 => ?_
  refine vc_region ?_
  refine vo_fieldAddr_ptr rfl rfl Try.underlying46 rfl inf4 (by rw [sz4]; decide) ?_
  try simp only [Nat.zero_add]
  refine vo_load_var rfl rfl rfl Try.underlying4 rfl rfl ?_
  refine vo_move_pv rfl rfl ?_
  refine vo_split 16 rfl (fun hg1 => ?_) (fun hg1 => ?_)
  · try simp only [decide_eq_true_eq, decide_eq_false_iff_not, beq_iff_eq, bne_iff_ne, beq_eq_false_iff_ne, bne_eq_false_iff_eq, Bool.not_eq_true, Bool.not_eq_false, Bool.not_eq_eq_eq_not, Bool.not_true, Bool.not_false, List.length_map, Int.not_lt, Int.not_le, ne_eq, Decidable.not_not] at hg1
    refine vo_guard_on rfl rfl rfl ?_
    refine vo_move_pv rfl rfl ?_
    refine vo_guard_on rfl rfl rfl ?_
    refine vo_binI rfl rfl rfl rfl trivial ?_
    refine vo_pick_t rfl rfl ?_
    refine vo_nil ?_
    refine hK5 _ ?_
    refine vc_cond rfl (fun hc2 => ?_) (fun hc2 => ?_)
    · try simp only [decide_eq_true_eq, decide_eq_false_iff_not, beq_iff_eq, bne_iff_ne, beq_eq_false_iff_ne, bne_eq_false_iff_eq, Bool.not_eq_true, Bool.not_eq_false, Bool.not_eq_eq_eq_not, Bool.not_true, Bool.not_false, List.length_map, Int.not_lt, Int.not_le, ne_eq, Decidable.not_not] at hc2
      have hlt := findM_lt hc2
      refine vc_seq fun K6 hK6 => ?_
      refine vc_drawL [7, 8] (by kernel_rfl) ?_
      change VL [7, 8] _ _ _ 9 _ _ _
      refine vl_light 0 [1, 3, 4, 5, 6] rfl rfl rfl (by kernel_rfl) (by kernel_rfl) (by kernel_rfl) (by kernel_rfl) (by kernel_rfl) (wnt_none rfl) (lt_move_ref rfl) ?_
      refine vl_light 1 [0, 3, 4, 5, 6] rfl rfl rfl (by kernel_rfl) (by kernel_rfl) (by kernel_rfl) (by kernel_rfl) (by kernel_rfl) (wnt_none rfl) (lt_move_pv rfl) ?_
      refine vl_light 2 [0, 1, 3, 4, 5, 6] rfl rfl rfl (by kernel_rfl) (by kernel_rfl) (by kernel_rfl) (by kernel_rfl) (by kernel_rfl) (wnt_none rfl) (lt_slice_ref rfl rfl rfl rfl E32.und inf37 sz37 sd sd sd) ?_
      try simp only [Int.toNat_natCast, Int.toNat_zero]
      refine vl_light 3 [0, 1, 2, 4, 5] rfl rfl rfl (by kernel_rfl) (by kernel_rfl) (by kernel_rfl) (by kernel_rfl) (by kernel_rfl) (wnt_none rfl) (lt_move_ref rfl) ?_
      refine vl_light 4 [0, 1, 2, 3] rfl rfl rfl (by kernel_rfl) (by kernel_rfl) (by kernel_rfl) (by kernel_rfl) (by kernel_rfl) (wnt_none rfl) (lt_move_pv rfl) ?_
      refine vl_light 5 [0, 1, 2, 3, 4] rfl rfl rfl (by kernel_rfl) (by kernel_rfl) (by kernel_rfl) (by kernel_rfl) (by kernel_rfl) (wnt_none rfl) (lt_binI rfl rfl rfl sd) ?_
      refine vl_light 6 [0, 1, 2, 3, 4, 5] rfl rfl rfl (by kernel_rfl) (by kernel_rfl) (by kernel_rfl) (by kernel_rfl) (by kernel_rfl) (wnt_none rfl) (lt_slice_ref rfl rfl rfl rfl E32.und inf37 sz37 sd sd sd) ?_
      try simp only [Int.toNat_natCast, Int.toNat_zero]
      refine vl_one 7 rfl (by kernel_rfl) rfl ?_
      refine vo_append_del rfl (by omega) rfl rfl rfl sd sd sd sd E32.und inf37 sz37 ?_
      refine vo_stM ?_
      try simp only [app_ints, app_intss, app_bools, List.nil_append, app_pairs, ← List.map_take, ← List.map_drop, ← List.map_append]
      refine vo_unsub 27 rfl rfl sd ?_
      refine vo_stM ?_
      refine vo_done ⟨rfl, ?_⟩
      refine vl_one 8 rfl (by kernel_rfl) rfl ?_
      refine vo_assign_ref rfl rfl ?_
      refine vo_done ⟨rfl, ?_⟩
      refine vl_nil (by kernel_rfl) ?_
      refine hK6 _ ?_
      refine vc_expose 1 (by omega) rfl ?_
      refine vc_stM ?_
      refine vc_ret ?_
      change retQ _ _ _ _ _
      refine retQ_sel [] (srows := []) (.inr rfl) hC rfl rfl rfl rfl rfl rfl rfl ?_
      unfold chg; rw [if_pos hg1, if_pos hc2]; exact ⟨_, rfl, rfl⟩
    · try simp only [decide_eq_true_eq, decide_eq_false_iff_not, beq_iff_eq, bne_iff_ne, beq_eq_false_iff_ne, bne_eq_false_iff_eq, Bool.not_eq_true, Bool.not_eq_false, Bool.not_eq_eq_eq_not, Bool.not_true, Bool.not_false, List.length_map, Int.not_lt, Int.not_le, ne_eq, Decidable.not_not] at hc2
      refine vc_skip ?_
      refine hK4 _ ?_
      refine vc_seq fun K7 hK7 => ?_
      refine vc_seq fun K8 hK8 => ?_
      refine vc_region ?_
      refine vo_fieldAddr_ptr rfl rfl Try.underlying46 rfl inf4 (by rw [sz4]; decide) ?_
      try simp only [Nat.zero_add]
      refine vo_load_var rfl rfl rfl Try.underlying4 rfl rfl ?_
      refine vo_nil ?_
      refine hK8 _ ?_
      refine vc_cond rfl (fun hc3 => ?_) (fun hc3 => ?_)
      · try simp only [decide_eq_true_eq, decide_eq_false_iff_not, beq_iff_eq, bne_iff_ne, beq_eq_false_iff_ne, bne_eq_false_iff_eq, Bool.not_eq_true, Bool.not_eq_false, Bool.not_eq_eq_eq_not, Bool.not_true, Bool.not_false, List.length_map, Int.not_lt, Int.not_le, ne_eq, Decidable.not_not] at hc3
        refine vc_seq fun K9 hK9 => ?_
        refine vc_region ?_
        refine vo_move_ref rfl rfl ?_
        refine vo_assign_ref rfl rfl ?_
        refine vo_nil ?_
        refine hK9 _ ?_
        refine vc_expose 1 (by omega) rfl ?_
        refine vc_stM ?_
        refine vc_ret ?_
        change retQ _ _ _ _ _
        refine retQ_sel [] (srows := []) (.inr rfl) hC rfl rfl rfl rfl rfl rfl rfl ?_
        unfold chg; rw [if_pos hg1, if_neg (by omega)]; exact ⟨_, rfl, rfl⟩
      · try simp only [decide_eq_true_eq, decide_eq_false_iff_not, beq_iff_eq, bne_iff_ne, beq_eq_false_iff_ne, bne_eq_false_iff_eq, Bool.not_eq_true, Bool.not_eq_false, Bool.not_eq_eq_eq_not, Bool.not_true, Bool.not_false, List.length_map, Int.not_lt, Int.not_le, ne_eq, Decidable.not_not] at hc3
        refine vc_skip ?_
        refine hK7 _ ?_
        refine vc_seq fun K10 hK10 => ?_
        refine vc_seq fun K11 hK11 => ?_
        refine vc_region ?_
        refine vo_move_pv rfl rfl ?_
        refine vo_binI rfl rfl rfl rfl trivial ?_
        refine vo_nil ?_
        refine hK11 _ ?_
        refine vc_cond rfl (fun hc4 => ?_) (fun hc4 => ?_)
        · try simp only [decide_eq_true_eq, decide_eq_false_iff_not, beq_iff_eq, bne_iff_ne, beq_eq_false_iff_ne, bne_eq_false_iff_eq, Bool.not_eq_true, Bool.not_eq_false, Bool.not_eq_eq_eq_not, Bool.not_true, Bool.not_false, List.length_map, Int.not_lt, Int.not_le, ne_eq, Decidable.not_not] at hc4
          have hlt := findM_lt hc4
          refine vc_seq fun K12 hK12 => ?_
          refine vc_region ?_
          refine vo_move_ref rfl rfl ?_
          refine vo_move_pv rfl rfl ?_
          refine vo_fieldAddr_ptr rfl rfl Try.underlying46 rfl inf3 (by rw [sz3]; decide) ?_
          try simp only [Nat.zero_add]
          refine vo_load_var rfl rfl rfl Try.underlying3 rfl rfl ?_
          refine vo_index_ref rfl rfl rfl rfl E32.und inf37 sz37 sd sd ?_
          try simp only [Int.toNat_natCast]
          refine vo_fieldAddr_ptr rfl rfl Try.underlying37 rfl inf3 (by rw [sz3]; decide) ?_
          try simp only [Nat.zero_add]
          refine vo_store_ownC rfl rfl rfl rfl inf3 sz3 (getE_pairs (by omega)) rfl ?_
          try simp only [List.set_cons_zero, List.set_cons_succ, Int.toNat_natCast, Int.toNat_zero, set_pair1]
          refine vo_stM ?_
          refine vo_nil ?_
          refine hK12 _ ?_
          refine vc_seq fun K13 hK13 => ?_
          refine vc_region ?_
          refine vo_move_ref rfl rfl ?_
          refine vo_assign_ref rfl rfl ?_
          refine vo_nil ?_
          refine hK13 _ ?_
          refine vc_expose 1 (by omega) rfl ?_
          refine vc_stM ?_
          refine vc_ret ?_
          change retQ _ _ _ _ _
          refine retQ_sel [] (srows := []) (.inr rfl) hC rfl rfl rfl rfl rfl rfl rfl ?_
          first
            | (exfalso; rw [hg1] at hc3; cases hc3; done)
            | (exfalso; rw [hg1] at hc5; cases hc5; done)
            | (unfold chg; rw [if_neg (by simp [hg1]), if_pos (by assumption), ← set_pair1]; exact ⟨_, rfl, rfl⟩)
            | (unfold chg; rw [if_neg (by simp [hg1]), if_neg (by omega)]; exact ⟨_, rfl, rfl⟩)
        · try simp only [decide_eq_true_eq, decide_eq_false_iff_not, beq_iff_eq, bne_iff_ne, beq_eq_false_iff_ne, bne_eq_false_iff_eq, Bool.not_eq_true, Bool.not_eq_false, Bool.not_eq_eq_eq_not, Bool.not_true, Bool.not_false, List.length_map, Int.not_lt, Int.not_le, ne_eq, Decidable.not_not] at hc4
          refine vc_skip ?_
          refine hK10 _ ?_
          refine vc_seq fun K14 hK14 => ?_
          refine vc_region ?_
          refine vo_move_ref rfl rfl ?_
          refine vo_fieldAddr_ptr rfl rfl Try.underlying46 rfl inf3 (by rw [sz3]; decide) ?_
          try simp only [Nat.zero_add]
          refine vo_load_var rfl rfl rfl Try.underlying3 rfl rfl ?_
          refine vo_fieldAddr_ptr rfl rfl Try.underlying46 rfl inf3 (by rw [sz3]; decide) ?_
          try simp only [Nat.zero_add]
          refine vo_load_var rfl rfl rfl Try.underlying3 rfl rfl ?_
          refine vo_build S37 rfl rfl rfl ?_
          refine vo_stM ?_
          refine vo_buildSlice E32 rfl rfl rfl rfl rfl ?_
          refine vo_stM ?_
          refine vo_append E32 rfl (by omega) rfl rfl rfl sd sd ?_
          refine vo_stM ?_
          try simp only [app_ints, app_intss, app_bools, List.nil_append, app_pairs, ← List.map_take, ← List.map_drop, ← List.map_append]
          refine vo_assign_ref rfl rfl ?_
          refine vo_nil ?_
          refine hK14 _ ?_
          refine vc_expose 1 (by omega) rfl ?_
          refine vc_stM ?_
          refine vc_ret ?_
          change retQ _ _ _ _ _
          refine retQ_sel [] (srows := []) (.inr rfl) hC rfl rfl rfl rfl rfl rfl rfl ?_
          first
            | (exfalso; rw [hg1] at hc3; cases hc3; done)
            | (exfalso; rw [hg1] at hc5; cases hc5; done)
            | (unfold chg; rw [if_neg (by simp [hg1]), if_pos (by assumption), ← set_pair1]; exact ⟨_, rfl, rfl⟩)
            | (unfold chg; rw [if_neg (by simp [hg1]), if_neg (by omega)]; exact ⟨_, rfl, rfl⟩)
  · try simp only [decide_eq_true_eq, decide_eq_false_iff_not, beq_iff_eq, bne_iff_ne, beq_eq_false_iff_ne, bne_eq_false_iff_eq, Bool.not_eq_true, Bool.not_eq_false, Bool.not_eq_eq_eq_not, Bool.not_true, Bool.not_false, List.length_map, Int.not_lt, Int.not_le, ne_eq, Decidable.not_not] at hg1
    refine vo_guard_off rfl rfl rfl rfl rfl ?_
    refine vo_guard_off rfl rfl rfl rfl rfl ?_
    refine vo_pick_f rfl rfl ?_
    refine vo_nil ?_
    refine hK5 _ ?_
    refine vc_cond_f rfl ?_
    refine vc_skip ?_
    refine hK4 _ ?_
    refine vc_seq fun K15 hK15 => ?_
    refine vc_seq fun K16 hK16 => ?_
    refine vc_region ?_
    refine vo_fieldAddr_ptr rfl rfl Try.underlying46 rfl inf4 (by rw [sz4]; decide) ?_
    try simp only [Nat.zero_add]
    refine vo_load_var rfl rfl rfl Try.underlying4 rfl rfl ?_
    refine vo_nil ?_
    refine hK16 _ ?_
    refine vc_cond rfl (fun hc5 => ?_) (fun hc5 => ?_)
    · try simp only [decide_eq_true_eq, decide_eq_false_iff_not, beq_iff_eq, bne_iff_ne, beq_eq_false_iff_ne, bne_eq_false_iff_eq, Bool.not_eq_true, Bool.not_eq_false, Bool.not_eq_eq_eq_not, Bool.not_true, Bool.not_false, List.length_map, Int.not_lt, Int.not_le, ne_eq, Decidable.not_not] at hc5
      refine vc_seq fun K17 hK17 => ?_
      refine vc_region ?_
      refine vo_move_ref rfl rfl ?_
      refine vo_assign_ref rfl rfl ?_
      refine vo_nil ?_
      refine hK17 _ ?_
      refine vc_expose 1 (by omega) rfl ?_
      refine vc_stM ?_
      refine vc_ret ?_
      change retQ _ _ _ _ _
      refine retQ_sel [] (srows := []) (.inr rfl) hC rfl rfl rfl rfl rfl rfl rfl ?_
      first
        | (exfalso; rw [hg1] at hc3; cases hc3; done)
        | (exfalso; rw [hg1] at hc5; cases hc5; done)
        | (unfold chg; rw [if_neg (by simp [hg1]), if_pos (by assumption), ← set_pair1]; exact ⟨_, rfl, rfl⟩)
        | (unfold chg; rw [if_neg (by simp [hg1]), if_neg (by omega)]; exact ⟨_, rfl, rfl⟩)
    · try simp only [decide_eq_true_eq, decide_eq_false_iff_not, beq_iff_eq, bne_iff_ne, beq_eq_false_iff_ne, bne_eq_false_iff_eq, Bool.not_eq_true, Bool.not_eq_false, Bool.not_eq_eq_eq_not, Bool.not_true, Bool.not_false, List.length_map, Int.not_lt, Int.not_le, ne_eq, Decidable.not_not] at hc5
      refine vc_skip ?_
      refine hK15 _ ?_
      refine vc_seq fun K18 hK18 => ?_
      refine vc_seq fun K19 hK19 => ?_
      refine vc_region ?_
      refine vo_move_pv rfl rfl ?_
      refine vo_binI rfl rfl rfl rfl trivial ?_
      refine vo_nil ?_
      refine hK19 _ ?_
      refine vc_cond rfl (fun hc6 => ?_) (fun hc6 => ?_)
      · try simp only [decide_eq_true_eq, decide_eq_false_iff_not, beq_iff_eq, bne_iff_ne, beq_eq_false_iff_ne, bne_eq_false_iff_eq, Bool.not_eq_true, Bool.not_eq_false, Bool.not_eq_eq_eq_not, Bool.not_true, Bool.not_false, List.length_map, Int.not_lt, Int.not_le, ne_eq, Decidable.not_not] at hc6
        have hlt := findM_lt hc6
        refine vc_seq fun K20 hK20 => ?_
        refine vc_region ?_
        refine vo_move_ref rfl rfl ?_
        refine vo_move_pv rfl rfl ?_
        refine vo_fieldAddr_ptr rfl rfl Try.underlying46 rfl inf3 (by rw [sz3]; decide) ?_
        try simp only [Nat.zero_add]
        refine vo_load_var rfl rfl rfl Try.underlying3 rfl rfl ?_
        refine vo_index_ref rfl rfl rfl rfl E32.und inf37 sz37 sd sd ?_
        try simp only [Int.toNat_natCast]
        refine vo_fieldAddr_ptr rfl rfl Try.underlying37 rfl inf3 (by rw [sz3]; decide) ?_
        try simp only [Nat.zero_add]
        refine vo_store_ownC rfl rfl rfl rfl inf3 sz3 (getE_pairs (by omega)) rfl ?_
        try simp only [List.set_cons_zero, List.set_cons_succ, Int.toNat_natCast, Int.toNat_zero, set_pair1]
        refine vo_stM ?_
        refine vo_nil ?_
        refine hK20 _ ?_
        refine vc_seq fun K21 hK21 => ?_
        refine vc_region ?_
        refine vo_move_ref rfl rfl ?_
        refine vo_assign_ref rfl rfl ?_
        refine vo_nil ?_
        refine hK21 _ ?_
        refine vc_expose 1 (by omega) rfl ?_
        refine vc_stM ?_
        refine vc_ret ?_
        change retQ _ _ _ _ _
        refine retQ_sel [] (srows := []) (.inr rfl) hC rfl rfl rfl rfl rfl rfl rfl ?_
        first
          | (exfalso; rw [hg1] at hc3; cases hc3; done)
          | (exfalso; rw [hg1] at hc5; cases hc5; done)
          | (unfold chg; rw [if_neg (by simp [hg1]), if_pos (by assumption), ← set_pair1]; exact ⟨_, rfl, rfl⟩)
          | (unfold chg; rw [if_neg (by simp [hg1]), if_neg (by omega)]; exact ⟨_, rfl, rfl⟩)
      · try simp only [decide_eq_true_eq, decide_eq_false_iff_not, beq_iff_eq, bne_iff_ne, beq_eq_false_iff_ne, bne_eq_false_iff_eq, Bool.not_eq_true, Bool.not_eq_false, Bool.not_eq_eq_eq_not, Bool.not_true, Bool.not_false, List.length_map, Int.not_lt, Int.not_le, ne_eq, Decidable.not_not] at hc6
        refine vc_skip ?_
        refine hK18 _ ?_
        refine vc_seq fun K22 hK22 => ?_
        refine vc_region ?_
        refine vo_move_ref rfl rfl ?_
        refine vo_fieldAddr_ptr rfl rfl Try.underlying46 rfl inf3 (by rw [sz3]; decide) ?_
        try simp only [Nat.zero_add]
        refine vo_load_var rfl rfl rfl Try.underlying3 rfl rfl ?_
        refine vo_fieldAddr_ptr rfl rfl Try.underlying46 rfl inf3 (by rw [sz3]; decide) ?_
        try simp only [Nat.zero_add]
        refine vo_load_var rfl rfl rfl Try.underlying3 rfl rfl ?_
        refine vo_build S37 rfl rfl rfl ?_
        refine vo_stM ?_
        refine vo_buildSlice E32 rfl rfl rfl rfl rfl ?_
        refine vo_stM ?_
        refine vo_append E32 rfl (by omega) rfl rfl rfl sd sd ?_
        refine vo_stM ?_
        try simp only [app_ints, app_intss, app_bools, List.nil_append, app_pairs, ← List.map_take, ← List.map_drop, ← List.map_append]
        refine vo_assign_ref rfl rfl ?_
        refine vo_nil ?_
        refine hK22 _ ?_
        refine vc_expose 1 (by omega) rfl ?_
        refine vc_stM ?_
        refine vc_ret ?_
        change retQ _ _ _ _ _
        refine retQ_sel [] (srows := []) (.inr rfl) hC rfl rfl rfl rfl rfl rfl rfl ?_
        first
          | (exfalso; rw [hg1] at hc3; cases hc3; done)
          | (exfalso; rw [hg1] at hc5; cases hc5; done)
          | (unfold chg; rw [if_neg (by simp [hg1]), if_pos (by assumption), ← set_pair1]; exact ⟨_, rfl, rfl⟩)
          | (unfold chg; rw [if_neg (by simp [hg1]), if_neg (by omega)]; exact ⟨_, rfl, rfl⟩)


theorem specPlainPairs_sat {nl0 : Option Bool} {list : List OpM} {who : Int} (hlist : list.length < 1000000000)  : SatAt Try.prog 30 [.pv false (.sl nl0 4 (list.map opP)), i64 who] [] (fun res rows => ∃ nl, res = [.pv true (.sl nl 2 ((plp list who).map pairP))] ∧ rows = []) := by
  refine sat_entry_G (rs := [(4, none)]) Try.func30 rfl rfl (Nat.le_of_ble_eq_true rfl) (Nat.le_of_ble_eq_true rfl) (resTs1 trivial) fun C hC => ?_
  rw [Try.ntmps30]
  replace hC : C.nb = 0 := hC
  refine vc_seq fun K1 hK1 => ?_
  refine vc_region ?_
  refine vo_assign_pv rfl rfl ?_
  refine vo_own_nil 4 E32 rfl ?_
  refine vo_nil ?_
  refine hK1 _ ?_
  refine vc_seq fun K2 hK2 => ?_
  refine vc_seq fun K3 hK3 => ?_
  refine vc_region ?_
  refine vo_move_pv rfl rfl ?_
  refine vo_call0 Try.func55 rfl rfl rfl rfl (specValidOps0_sat hlist) ?_
  rintro _ _ ⟨rfl, rfl⟩
  refine ⟨rfl, rfl, .inl rfl, ?_⟩
  refine vo_stM ?_
  refine vo_not rfl rfl ?_
  refine vo_move_pv rfl rfl ?_
  refine vo_split 10 rfl (fun hg1 => ?_) (fun hg1 => ?_)
  · try simp only [decide_eq_true_eq, decide_eq_false_iff_not, beq_iff_eq, bne_iff_ne, beq_eq_false_iff_ne, bne_eq_false_iff_eq, Bool.not_eq_true, Bool.not_eq_false, Bool.not_eq_eq_eq_not, Bool.not_true, Bool.not_false, List.length_map, Int.not_lt, Int.not_le, ne_eq, Decidable.not_not] at hg1
    refine vo_guard_off rfl rfl rfl rfl rfl ?_
    refine vo_guard_off rfl rfl rfl rfl rfl ?_
    refine vo_guard_off rfl rfl rfl rfl rfl ?_
    refine vo_pick_t rfl rfl ?_
    refine vo_nil ?_
    refine hK3 _ ?_
    refine vc_cond_t rfl ?_
    refine vc_seq fun K4 hK4 => ?_
    refine vc_region ?_
    refine vo_assign_pv rfl rfl ?_
    refine vo_own_nil 4 E32 rfl ?_
    refine vo_nil ?_
    refine hK4 _ ?_
    refine vc_expose 1 (by omega) rfl ?_
    refine vc_stM ?_
    refine vc_ret ?_
    change retQ _ _ _ _ _
    refine retQ_sel [] (srows := []) (.inr rfl) hC rfl rfl rfl rfl rfl rfl rfl ?_
    have e : plp list who = [] := by unfold plp; rw [if_neg (fun h0 => absurd h0.1 (by assumption))]
    rw [e]; exact ⟨_, rfl, rfl⟩
  · try simp only [decide_eq_true_eq, decide_eq_false_iff_not, beq_iff_eq, bne_iff_ne, beq_eq_false_iff_ne, bne_eq_false_iff_eq, Bool.not_eq_true, Bool.not_eq_false, Bool.not_eq_eq_eq_not, Bool.not_true, Bool.not_false, List.length_map, Int.not_lt, Int.not_le, ne_eq, Decidable.not_not] at hg1
    refine vo_guard_on rfl rfl rfl ?_
    refine vo_move_pv rfl rfl ?_
    refine vo_guard_on rfl rfl rfl ?_
    refine vo_call0 Try.func69 rfl rfl rfl rfl inRange_sat ?_
    rintro _ _ ⟨rfl, rfl⟩
    refine ⟨rfl, rfl, .inl rfl, ?_⟩
    refine vo_stM ?_
    refine vo_guard_on rfl rfl rfl ?_
    refine vo_not rfl rfl ?_
    refine vo_pick_f rfl rfl ?_
    refine vo_nil ?_
    refine hK3 _ ?_
    refine vc_cond rfl (fun hc2 => ?_) (fun hc2 => ?_)
    · try simp only [decide_eq_true_eq, decide_eq_false_iff_not, beq_iff_eq, bne_iff_ne, beq_eq_false_iff_ne, bne_eq_false_iff_eq, Bool.not_eq_true, Bool.not_eq_false, Bool.not_eq_eq_eq_not, Bool.not_true, Bool.not_false, List.length_map, Int.not_lt, Int.not_le, ne_eq, Decidable.not_not] at hc2
      refine vc_seq fun K5 hK5 => ?_
      refine vc_region ?_
      refine vo_assign_pv rfl rfl ?_
      refine vo_own_nil 4 E32 rfl ?_
      refine vo_nil ?_
      refine hK5 _ ?_
      refine vc_expose 1 (by omega) rfl ?_
      refine vc_stM ?_
      refine vc_ret ?_
      change retQ _ _ _ _ _
      refine retQ_sel [] (srows := []) (.inr rfl) hC rfl rfl rfl rfl rfl rfl rfl ?_
      have e : plp list who = [] := by unfold plp; rw [if_neg (fun h0 => absurd h0.2 (by assumption))]
      rw [e]; exact ⟨_, rfl, rfl⟩
    · try simp only [decide_eq_true_eq, decide_eq_false_iff_not, beq_iff_eq, bne_iff_ne, beq_eq_false_iff_ne, bne_eq_false_iff_eq, Bool.not_eq_true, Bool.not_eq_false, Bool.not_eq_eq_eq_not, Bool.not_true, Bool.not_false, List.length_map, Int.not_lt, Int.not_le, ne_eq, Decidable.not_not] at hc2
      refine vc_skip ?_
      refine hK2 _ ?_
      refine vc_seq fun K6 hK6 => ?_
      refine vc_region ?_
      refine vo_buildSlice E32 rfl rfl rfl rfl rfl ?_
      refine vo_stM ?_
      refine vo_assign_ref rfl rfl ?_
      refine vo_nil ?_
      refine hK6 _ ?_
      refine vc_seq fun K7 hK7 => ?_
      refine vc_seq fun K8 hK8 => ?_
      refine vc_region ?_
      refine vo_assign_pv rfl rfl ?_
      refine vo_nil ?_
      refine hK8 _ ?_
      refine vc_block ?_
      refine vc_expose 1 (by omega) rfl ?_
      refine vc_stM ?_
      refine vc_weaken 5 rfl ?_
      refine vc_stM ?_
      refine vc_stM ?_
      refine vc_loopE [0, 1] [5, 6] [] _ _ (fun mz vs rs => ∃ (k : Nat), mz = list.length - k ∧ (k ≤ list.length) ∧ vs = [.pv true (.sl none 2 ((plpK list who k).map pairP)), i64 k] ∧ rs = []) (list.length) rfl rfl (le_len hC rfl) ⟨rfl, rfl, rfl⟩ rfl ⟨0, rfl, Nat.zero_le _, rfl, rfl⟩ ?_
      rintro mz vs rs - - ⟨k, rfl, hk, rfl, rfl⟩
      refine vc_stM ?_
      have hpl := plpK_len (list := list) (who := who) k hk
      have hvo := hg1.1
      refine vc_seq fun K9 hK9 => ?_
      refine vc_seq fun K10 hK10 => ?_
      refine vc_region ?_
      refine vo_move_pv rfl rfl ?_
      refine vo_move_pv rfl rfl ?_
      refine vo_len_pv rfl rfl Try.underlying23 ?_
      refine vo_binI rfl rfl rfl rfl trivial ?_
      refine vo_nil ?_
      refine hK10 _ ?_
      refine vc_cond rfl (fun hc3 => ?_) (fun hc3 => ?_)
      · try simp only [decide_eq_true_eq, decide_eq_false_iff_not, beq_iff_eq, bne_iff_ne, beq_eq_false_iff_ne, bne_eq_false_iff_eq, Bool.not_eq_true, Bool.not_eq_false, Bool.not_eq_eq_eq_not, Bool.not_true, Bool.not_false, List.length_map, Int.not_lt, Int.not_le, ne_eq, Decidable.not_not] at hc3
        refine vc_skip ?_
        refine hK9 _ ?_
        refine vc_seq fun K11 hK11 => ?_
        refine vc_block ?_
        refine vc_seq fun K12 hK12 => ?_
        refine vc_region ?_
        refine vo_move_pv rfl rfl ?_
        refine vo_move_pv rfl rfl ?_
        refine vo_index_pv (.agg [(.int .i64 0), (.int .i64 0), (.int .i64 0), (.bool false)]) rfl rfl rfl E23.und inf46 sz46 sd sd ?_
        simp only [Int.toNat_natCast, Int.toNat_zero, getD_ints, getD_intss, getD_bools, getD_bytes, PV.cells, getD_ops, getD_pairs, getD_insts]
        refine vo_fieldAddr_adr rfl rfl Try.underlying46 rfl inf3 (by rw [sz3]; decide) ?_
        refine vo_load_adr rfl rfl Try.underlying3 rfl ?_
        refine vo_move_pv rfl rfl ?_
        refine vo_binI rfl rfl rfl rfl trivial ?_
        refine vo_nil ?_
        refine hK12 _ ?_
        refine vc_cond rfl (fun hc4 => ?_) (fun hc4 => ?_)
        · try simp only [decide_eq_true_eq, decide_eq_false_iff_not, beq_iff_eq, bne_iff_ne, beq_eq_false_iff_ne, bne_eq_false_iff_eq, Bool.not_eq_true, Bool.not_eq_false, Bool.not_eq_eq_eq_not, Bool.not_true, Bool.not_false, List.length_map, Int.not_lt, Int.not_le, ne_eq, Decidable.not_not] at hc4
          refine vc_region ?_
          refine vo_move_pv rfl rfl ?_
          refine vo_move_pv rfl rfl ?_
          refine vo_move_pv rfl rfl ?_
          refine vo_index_pv (.agg [(.int .i64 0), (.int .i64 0), (.int .i64 0), (.bool false)]) rfl rfl rfl E23.und inf46 sz46 sd sd ?_
          simp only [Int.toNat_natCast, Int.toNat_zero, getD_ints, getD_intss, getD_bools, getD_bytes, PV.cells, getD_ops, getD_pairs, getD_insts]
          refine vo_load_adrS rfl rfl Try.underlying46 rfl inf46 sz46 rfl ?_
          refine vo_st (by (try simp only [St.put, PV.cells, PV.scal, List.drop_succ_cons, List.drop_zero, List.take_succ_cons, List.take_zero, List.map_cons, List.map_nil, Bool.or_true, Bool.or_false, Bool.false_or, Bool.true_or, opP, pairP, instP, heapP]); exact eq_refl _) ?_
          refine vo_call0 Try.func70 rfl rfl rfl rfl (change_sat (by omega)) ?_
          rintro _ _ ⟨nl9, rfl, rfl⟩
          refine ⟨rfl, rfl, .inl rfl, ?_⟩
          refine vo_stM ?_
          refine vo_weaken 34 rfl ?_
          refine vo_stM ?_
          refine vo_assign_pv rfl rfl ?_
          refine vo_nil ?_
          refine hK11 _ ?_
          refine vc_region ?_
          refine vo_move_pv rfl rfl ?_
          refine vo_binI rfl rfl rfl rfl sd ?_
          refine vo_assign_pv rfl rfl ?_
          refine vo_nil ?_
          change againE _ _ _ _ _ _ _ _ _ _
          refine againE_mk rfl rfl rfl rfl rfl rfl ⟨_, ?_, k + 1, rfl, ?_, (by rw [plpK_yes (by omega) (by assumption)]; rfl), rfl⟩
          · omega
          · omega
        · try simp only [decide_eq_true_eq, decide_eq_false_iff_not, beq_iff_eq, bne_iff_ne, beq_eq_false_iff_ne, bne_eq_false_iff_eq, Bool.not_eq_true, Bool.not_eq_false, Bool.not_eq_eq_eq_not, Bool.not_true, Bool.not_false, List.length_map, Int.not_lt, Int.not_le, ne_eq, Decidable.not_not] at hc4
          refine vc_skip ?_
          refine hK11 _ ?_
          refine vc_region ?_
          refine vo_move_pv rfl rfl ?_
          refine vo_binI rfl rfl rfl rfl sd ?_
          refine vo_assign_pv rfl rfl ?_
          refine vo_nil ?_
          change againE _ _ _ _ _ _ _ _ _ _
          refine againE_mk rfl rfl rfl rfl rfl rfl ⟨_, ?_, k + 1, rfl, ?_, (by rw [plpK_no (by omega) (by assumption)]; rfl), rfl⟩
          · omega
          · omega
      · try simp only [decide_eq_true_eq, decide_eq_false_iff_not, beq_iff_eq, bne_iff_ne, beq_eq_false_iff_ne, bne_eq_false_iff_eq, Bool.not_eq_true, Bool.not_eq_false, Bool.not_eq_eq_eq_not, Bool.not_true, Bool.not_false, List.length_map, Int.not_lt, Int.not_le, ne_eq, Decidable.not_not] at hc3
        refine vc_exit ?_
        refine hK7 _ ?_
        refine vc_seq fun K13 hK13 => ?_
        refine vc_region ?_
        refine vo_move_pv rfl rfl ?_
        refine vo_assign_pv rfl rfl ?_
        refine vo_nil ?_
        refine hK13 _ ?_
        refine vc_ret ?_
        change retQ _ _ _ _ _
        refine retQ_sel [] (srows := []) (.inr rfl) hC rfl rfl rfl rfl rfl rfl rfl ?_
        have e : plp list who = plpK list who k := by unfold plp; rw [if_pos ⟨hg1, hc2⟩, show k = list.length by omega]
        rw [e]; exact ⟨_, rfl, rfl⟩

end Go.Vl


/- 'append' of a part of one row to another. -/
namespace Go.Vl
set_option linter.unusedVariables false
set_option linter.unusedSimpArgs false
open Go.RowKit
section
variable {P : Program} {C : Ctx} {Q : Go.Exit → St → Prop} {s : St}
variable {ops : Array Oper} {rest : List Oper} {t : Nat} {ty : TypeId} {pos : String} {af : Array Edge}

theorem SimM.srcS {m : Nat → MV} {a : Act} {w : World} (h : SimM C s m a w) {x : Operand} {id el e l hi c : Nat} {nl : Option Bool} {f : Bool} {ys0 : List PV} (hx : getO s.env x = .sub id e l hi c) (hrow : s.rows[id]? = some (.own el e nl f ys0)) (hlh : hi ≤ ys0.length) (he : 0 < e) :
    (a.eval x = .slice none 0 0 ∧ (ys0.take hi).drop l = []) ∨
    ∃ (ad : Addr) (len cap : Nat) (news : List Value), a.eval x = .slice (some ad) len cap ∧ len = ((ys0.take hi).drop l).length ∧ news.length = ((ys0.take hi).drop l).length * e ∧ (∀ j u, news[j]? = some u → w.cell? (ad.add j) = some u) ∧
      (∀ (i : Nat) (x : PV) (j : Nat) (c : PV), ((ys0.take hi).drop l)[i]? = some x → x.cells[j]? = some c → ∃ u, news[i * e + j]? = some u ∧ RP w (Gd C s.rows m w f) c u) ∧ (∀ u ∈ news, u.oneCell' = true) ∧
      (∀ (i : Nat) (x : PV), ((ys0.take hi).drop l)[i]? = some x → x.fits e) := by
  obtain ⟨hsb, hid⟩ := h.sub hx
  have hR := h.rows id _ hrow
  generalize hmv : m id = v at *
  generalize a.eval x = ax at *
  cases hR with
  | own v t e nl fr xs vs hown h1 h2 hw hr =>
    rcases hown.2 with ⟨hv, hn⟩ | ⟨g, cap, cur, hv, h0, hh, hle, hmx, hsz, htk⟩
    · left
      rcases hsb with ⟨_, rfl, rfl, _, rfl⟩ | ⟨b, n, cp, e1, _⟩
      · exact ⟨rfl, by simp⟩
      · rw [show (MV.of v).v = v from rfl, hv] at e1; cases e1
    · right
      rcases hsb with ⟨e1, _⟩ | ⟨b, n, cp, e1, g1, g2, g3, rfl⟩
      · rw [show (MV.of v).v = v from rfl, hv] at e1; cases e1
      · rw [show (MV.of v).v = v from rfl, hv] at e1
        cases e1
        have hlen : ((ys0.take hi).drop l).length = hi - l := by rw [List.length_drop, List.length_take]; omega
        have hmul : (hi - l) * e ≤ vs.length - l * e := by
          rw [hown.1, ← Nat.sub_mul]; exact Nat.mul_le_mul_right _ (by omega)
        have hall : ∀ u ∈ vs, u.oneCell' = true := by
          intro u hu
          obtain ⟨q, hq⟩ := List.getElem?_of_mem hu
          have hq1 : q < ys0.length * e := by rw [← hown.1]; exact (List.getElem?_eq_some_iff.1 hq).1
          have h1 : q / e < ys0.length := (Nat.div_lt_iff_lt_mul he).2 hq1
          have h2 : q % e < e := Nat.mod_lt _ he
          have hx : ys0[q / e]? = some ys0[q / e] := List.getElem?_eq_getElem h1
          have hf := hw _ _ hx
          have h3 : q % e < ys0[q / e].cells.length := by rw [hf.1]; exact h2
          have hcx : ys0[q / e].cells[q % e]? = some ys0[q / e].cells[q % e] := List.getElem?_eq_getElem h3
          obtain ⟨u', hu', hp⟩ := hr _ _ _ _ hx hcx
          rw [div_mul_add_mod, hq] at hu'
          cases hu'
          exact hp.oneCell (hf.2 _ _ hcx)
        have hget : ∀ (i : Nat) (x : PV), ((ys0.take hi).drop l)[i]? = some x → i < hi - l ∧ ys0[l + i]? = some x := by
          intro i x hx
          have hi' : i < hi - l := by rw [← hlen]; exact (List.getElem?_eq_some_iff.1 hx).1
          rw [List.getElem?_drop, List.getElem?_take] at hx
          split at hx
          · exact ⟨hi', hx⟩
          · cases hx
        refine ⟨_, hi - l, cap - l, (vs.drop (l * e)).take ((hi - l) * e), rfl, hlen.symm, ?_, ?_, ?_, ?_, ?_⟩
        · rw [List.length_take, List.length_drop, hlen]; omega
        · intro j u hj
          rw [List.getElem?_take] at hj
          split at hj
          · rename_i hjlt
            rw [List.getElem?_drop] at hj
            by_cases hc : cap = l
            · have : hi - l = 0 := by omega
              rw [this] at hjlt; simp at hjlt
            · rw [if_neg hc]
              have := World.ownsRow.cells hown (show v.ownBlock = some g by rw [hv]; rfl) (l * e + j) u hj
              rw [Addr_add _ rfl] at this ⊢
              simpa using this
          · cases hj
        · intro i x j c hx hc
          obtain ⟨i1, i2⟩ := hget i x hx
          obtain ⟨u, hu, hp⟩ := hr _ _ _ _ i2 hc
          have hj : j < e := by rw [← (hw _ _ i2).1]; exact (List.getElem?_eq_some_iff.1 hc).1
          have hlt : i * e + j < (hi - l) * e := Nat.lt_of_lt_of_le (Nat.add_lt_add_left hj _) (by rw [← Nat.succ_mul]; exact Nat.mul_le_mul_right _ i1)
          refine ⟨u, ?_, hp⟩
          rw [List.getElem?_take, if_pos hlt, List.getElem?_drop, ← hu, Nat.add_mul, Nat.add_assoc]
        · intro u hu
          exact hall u (List.mem_of_mem_drop (List.mem_of_mem_take hu))
        · intro i x hx
          exact hw _ _ (hget i x hx).2

/-- 'append' of a part of a row to a row of the call's own. -/
theorem vo_appendS {x y : Operand} {id T el e by' : Nat} {nl : Option Bool} {fr f : Bool} {xs ys : List PV} {d : PV} (hI : ElInfo P T el e by' d) (ht : Nat.blt t s.n = true) (hnb : C.nb ≤ id)
    (hx : getO s.env x = .ref id) (hrow : s.rows[id]? = some (.own el e nl fr xs)) {id2 el2 l h c : Nat} {nl2 : Option Bool} {ys0 : List PV} (hy : getO s.env y = .sub id2 e l h c) (hrow2 : s.rows[id2]? = some (.own el2 e nl2 f ys0)) (hlh : h ≤ ys0.length) (hys : ys = (ys0.take h).drop l)
    (hby : (xs.length + ys.length) * by' ≤ 140737488355328) (hmx : xs.length + ys.length ≤ 9223372036854775807)
    (next : VO P C ops rest Q ⟨s.n, (t, .ref id) :: killE id s.env, (s.rows.map (Row.kill id)).set id (.own el e (if nl = some false then some false else none) (fr && f) (xs ++ ys))⟩) :
    VO P C ops (⟨some t, .call ⟨.builtin .append, #[x, y], #[T, T]⟩, ty, pos, af, none⟩ :: rest) Q s := by
  obtain ⟨hT, ⟨inf, z, hinf, hsz, hbytes, hz, hzs, hzr⟩, hfit, he⟩ := hI
  refine vo_value (s1 := { s with env := killE id s.env, rows := (s.rows.map (Row.kill id)).set id (.own el e (if nl = some false then some false else none) (fr && f) (xs ++ ys)) }) (sv := .ref id) ht (fun m a w hs => ?_) next
  obtain ⟨hv, hid⟩ := hs.row hx
  have hlive : liveAt s.rows id := ⟨_, hrow, rfl⟩
  have hR := hs.rows id _ hrow
  have hsrc := hs.srcS hy hrow2 hlh he
  rw [← hys] at hsrc
  obtain ⟨ao, cap0, hshape, hcap0⟩ := own_shape hR
  have hV : (m id).v = .slice ao xs.length cap0 := by rw [hshape]; rfl
  have hSb : ∀ b, blk (m id).v = some b → (m id).S b := by rw [hshape]; exact fun _ h => h
  have hob : (m id).v.ownBlock = blk (m id).v := ownBlock_blk hV
  have hdone : ∀ (v' : Value) (w' : World), (Builtin.append_ #[T, T] ty #[a.eval x, a.eval y]).run P w = .ok v' w' →
      ∃ v' w' , (execOp a.eval ⟨some t, .call ⟨.builtin .append, #[x, y], #[T, T]⟩, ty, pos, af, none⟩).run P w = .ok (.value v') w' ∧ (Builtin.append_ #[T, T] ty #[a.eval x, a.eval y]).run P w = .ok v' w' := by
    intro v' w' h
    exact ⟨v', w', by simp [execOp, resolve, invoke, builtin, h], h⟩
  have hRk : Row.kill id (.own el e (if nl = some false then some false else none) (fr && f) (xs ++ ys)) = .own el e (if nl = some false then some false else none) (fr && f) (xs ++ ys) := rfl
  have fin : ∀ (v' : Value) (w' : World) (news : List Value), (Builtin.append_ #[T, T] ty #[a.eval x, a.eval y]).run P w = .ok v' w' → w.grownBy w' (blk (m id).v) → (∀ vs, w.ownsRow 0 el e (m id).v xs.length vs → w'.ownsRow 0 el e v' (xs.length + ys.length) (vs ++ news)) →
      (v' = .slice none 0 0 → (m id).v = .slice none 0 0) → (∀ b, blk v' = some b → (m id).S b ∨ w.heap.size ≤ b) →
      (∀ (i : Nat) (x : PV) (j : Nat) (c : PV), ys[i]? = some x → x.cells[j]? = some c → ∃ u, news[i * e + j]? = some u ∧ RP w (Gd C s.rows m w f) c u) → (∀ (i : Nat) (x : PV), ys[i]? = some x → x.fits e) →
      ∃ v w' m', (execOp a.eval ⟨some t, .call ⟨.builtin .append, #[x, y], #[T, T]⟩, ty, pos, af, none⟩).run P w = .ok (.value v) w' ∧
        SimM C { s with env := killE id s.env, rows := (s.rows.map (Row.kill id)).set id (.own el e (if nl = some false then some false else none) (fr && f) (xs ++ ys)) } m' a w' ∧
        RS w' (Gd C ((s.rows.map (Row.kill id)).set id (.own el e (if nl = some false then some false else none) (fr && f) (xs ++ ys))) m' w') m' ((s.rows.map (Row.kill id)).set id (.own el e (if nl = some false then some false else none) (fr && f) (xs ++ ys))).length (.ref id) v := by
    intro v' w' news hrun hg hown hnil hblk hnews hfits
    refine ⟨v', w', updM m id (.of v'), by simp [execOp, resolve, invoke, builtin, hrun], ?_, ?_⟩
    · refine hs.moveRow hlive hnb hSb hg _ (.of v') hRk hblk (fun hG => ?_)
      generalize hmv : m id = v at *
      cases hR with
      | own v t' e nl fr xs vs hown0 h1 h2 hw hr =>
        have hw0 : ∀ fl b, Gd C s.rows m w fl b → Gd C s.rows m w false b := fun fl b h => h.weak
        have hcomb : ∀ b, (Gd C s.rows m w fr b ∨ Gd C s.rows m w f b) → Gd C s.rows m w (fr && f) b := by
          intro b hb
          cases hf1 : fr && f with
          | false => rcases hb with hb | hb <;> exact hb.weak
          | true =>
            simp only [Bool.and_eq_true] at hf1
            obtain ⟨rfl, rfl⟩ := hf1
            rcases hb with hb | hb <;> exact hb
        refine .own v' el e _ _ (xs ++ ys) (vs ++ news) (by simpa using hown vs hown0) (fun h => by split at h <;> simp at h) (fun h => ?_) (fits_append hw hfits)
          (own_append (G := Gd C s.rows m w (fr && f)) (hG _) hown0.1 (fun i x j c hx hc => ?_) hw (fun i x j c hx hc => ?_))
        · split at h
          · rename_i hnl
            intro hv'
            exact h2 hnl (hnil hv')
          · simp at h
        · obtain ⟨u, hu, hp⟩ := hr i x j c hx hc
          exact ⟨u, hu, hp.mono fun b hb => ⟨hcomb b (.inl hb), rfl⟩⟩
        · obtain ⟨u, hu, hp⟩ := hnews i x j c hx hc
          exact ⟨u, hu, hp.mono fun b hb => hG _ b (hcomb b (.inr hb))⟩
    · have := RS.ref (w := w') (G := Gd C ((s.rows.map (Row.kill id)).set id (.own el e (if nl = some false then some false else none) (fr && f) (xs ++ ys))) (updM m id (.of v')) w') (m := updM m id (.of v'))
        (N := ((s.rows.map (Row.kill id)).set id (.own el e (if nl = some false then some false else none) (fr && f) (xs ++ ys))).length) id (by simpa using hid)
      rw [updM_same] at this
      exact this
  rcases hsrc with ⟨hvy, rfl⟩ | ⟨ad, len, cap, news, hvy, rfl, hnl, hnews, hnr, hn1, hfy⟩
  · have hown1 : ∃ vs, w.ownsRow 0 el e (m id).v xs.length vs := by
      generalize m id = v at *
      cases hR with
      | own v t' e nl fr xs vs hown0 => exact ⟨vs, hown0⟩
    obtain ⟨vs1, hown1⟩ := hown1
    refine fin (m id).v w [] ?_ ⟨rfl, rfl, rfl, Nat.le_refl _, fun _ _ _ => rfl⟩ (fun vs h => by simpa using h) (fun h => h) (fun b hb => .inl (hSb b hb)) (fun i x j c hx => by simp at hx) (fun i x hx => by simp at hx)
    rw [hv, hvy]
    exact run_append_owned_none (P := P) (w := w) 0 T ty el inf e hT hinf (m id).v xs.length vs1 hown1
  · have hown1 : ∃ vs, w.ownsRow 0 el e (m id).v xs.length vs := by
      generalize m id = v at *
      cases hR with
      | own v t' e nl fr xs vs hown0 => exact ⟨vs, hown0⟩
    obtain ⟨vs1, hown1⟩ := hown1
    obtain ⟨v', w', hrun, hown', hg, hnil, hblk⟩ := run_append_own_at (P := P) w 0 T ty el inf z e by' hT hinf hz hsz hbytes hzs he (m id).v xs.length vs1 hown1 ad ys.length cap news hnl hnews hn1
      (by simpa [maxLen] using hmx) hby (Nat.zero_le _)
    have hv'shape : v'.ownBlock = blk v' := by
      rcases hown'.2 with ⟨rfl, _⟩ | ⟨g, cp, cur, rfl, _⟩ <;> rfl
    refine fin v' w' news (by rw [hv, hvy]; exact hrun) (by rw [← hob]; exact hg) (fun vs h => ?_) (fun h => (hnil.1 h).1) (fun b hb => ?_) hnr hfy
    · have e1 : vs = vs1 := by
        rcases h.2 with ⟨e1, h0⟩ | ⟨g, cp, cur, e1, _, hh, _, _, _, htk⟩
        · have l1 := h.1
          have l2 := hown1.1
          rw [h0] at l1 l2
          simp at l1 l2
          rw [l1, l2]
        · rcases hown1.2 with ⟨e2, h0⟩ | ⟨g2, cp2, cur2, e2, _, hh2, _, _, _, htk2⟩
          · rw [e1] at e2; cases e2
          · rw [e1] at e2
            cases e2
            rw [hh] at hh2
            cases hh2
            rw [← htk, ← htk2]
      rw [e1]
      exact hown'
    · rw [← hv'shape] at hb
      rcases hblk with h1 | h1
      · left; refine hSb b ?_; rw [← hob, ← h1]; exact hb
      · right; rw [h1] at hb; cases hb; exact Nat.le_refl _
end
end Go.Vl


namespace Go.Vl
set_option linter.unusedVariables false
set_option linter.unusedSimpArgs false
open Go.Proofs

theorem chg_ok {l : List (Int × Int)} {o : OpM} (hl : ∀ p ∈ l, okPair p) (ho : okOp o) : ∀ p ∈ chg l o, okPair p := by
  unfold okOp at ho
  have hn : okPair (o.name, o.value) := by unfold okPair; exact ⟨ho.2.1, ho.2.2⟩
  unfold chg
  split
  · split
    · intro p hp
      rcases List.mem_append.1 hp with h | h
      · exact hl p (List.mem_of_mem_take h)
      · exact hl p (List.mem_of_mem_drop h)
    · exact hl
  · split
    · rename_i h
      intro p hp
      rcases List.mem_or_eq_of_mem_set hp with h1 | h1
      · exact hl p h1
      · have h2 := hl _ (getD_mem (by have := findM_lt h; omega : (findM o.name (nms l) 0).toNat < l.length) (0, 0))
        rw [h1]; unfold okPair at h2 ⊢; exact ⟨h2.1, ho.2.2⟩
    · intro p hp
      rcases List.mem_append.1 hp with h | h
      · exact hl p h
      · rw [List.mem_singleton.1 h]; exact hn
theorem plp_ok (list : List OpM) (who : Int) : ∀ p ∈ plp list who, okPair p := by
  unfold plp
  split
  · rename_i h
    have key : ∀ k, k ≤ list.length → ∀ p ∈ plpK list who k, okPair p := by
      intro k
      induction k with
      | zero => intro _ p hp; simp [plpK] at hp
      | succ k ih =>
        intro hk
        by_cases hw : (list.getD k ⟨0, 0, 0, false⟩).who = who
        · rw [plpK_yes (by omega) hw]; exact chg_ok (ih (by omega)) (h.1.2 _ (getD_mem (by omega) _))
        · rw [plpK_no (by omega) hw]; exact ih (by omega)
    exact key _ (Nat.le_refl _)
  · intro p hp; cases hp
theorem tail_pairs (x : PV) (l : List PV) : List.take ((x :: l).length - Int.toNat 1) (List.drop (Int.toNat 1) (x :: l)) = l := by simp
theorem rev_step {a : List (Int × Int)} {k : Nat} {z : Int} (hz : z = (k : Int) - 1) (h0 : 0 ≤ z) (h : k ≤ a.length) : (a.drop k).reverse ++ [((a.getD z.toNat (0, 0)).1, (a.getD z.toNat (0, 0)).2)] = (a.drop (k - 1)).reverse := by
  have e : z.toNat = k - 1 := by omega
  rw [e, List.drop_eq_getElem_cons (show k - 1 < a.length by omega), List.reverse_cons, show k - 1 + 1 = k by omega]
  congr 1
  simp [List.getD, List.getElem?_eq_getElem (show k - 1 < a.length by omega)]
theorem spairs_symm {a b : List (Int × Int)} (h : SPairs a b) : SPairs b a := by
  have hn := nodup_of_sub h.2.1 (by have := h.2.2.1; omega) h.2.2.2
  have h1 : a.Nodup := by
    have := h.2.1
    simp only [nms, List.nodup_iff_pairwise_ne, List.pairwise_map] at this
    exact List.Pairwise.imp (fun h e => h (by rw [e])) this
  have hp := perm_of_sub h1 (by have := h.2.2.1; omega) h.2.2.2
  exact ⟨by have := h.1; have := h.2.2.1; omega, hn, h.2.2.1.symm, fun p hp' => hp.mem_iff.2 hp'⟩
theorem spairs_rev {a b : List (Int × Int)} (h : SPairs a b) : SPairs a a.reverse := ⟨h.1, h.2.1, by simp, fun p hp => by simpa using hp⟩
theorem head_cons {B : List (Int × Int)} (h : 0 < B.length) : ∃ p t, B = p :: t := List.exists_cons_of_length_pos h

theorem goodOps_sat {nl : Option Bool} {c : List (Fin 256)} {p : Nat} (hc : c.length ≤ 2000) (hp : p < 999000) : SatAt Try.prog 57 [.ptr 0 0 0 0] [rdr nl c p] (fun res rows => ∃ (l : List OpM) (q : Nat) (nlo : Option Bool), (l.length ≤ 20 ∧ q ≤ p + 300) ∧ res = [.pv true (.sl nlo 4 (l.map opP))] ∧ rows = [rdr nl c q]) := by
  refine sat_entry_G (rs := [(2, none)]) Try.func57 rfl rfl (Nat.le_of_ble_eq_true rfl) (Nat.le_of_ble_eq_true rfl) (resTs1 trivial) fun C hC => ?_
  rw [Try.ntmps57]
  replace hC : C.nb = 1 := hC
  refine vc_seq fun K1 hK1 => ?_
  refine vc_region ?_
  refine vo_assign_pv rfl rfl ?_
  refine vo_own_nil 2 E23 rfl ?_
  refine vo_nil ?_
  refine hK1 _ ?_
  refine vc_seq fun K2 hK2 => ?_
  refine vc_region ?_
  refine vo_move_ptr rfl rfl ?_
  refine vo_call [0] Try.func52 rfl rfl rfl rfl rfl rfl rfl (someOps_sat hc (by omega)) ?_
  rintro _ _ ⟨l, q, ⟨hl1, hq⟩, rfl, rfl⟩
  refine ⟨Nat.le_of_ble_eq_true rfl, ⟨rfl, rfl, rfl, rfl⟩, .inl rfl, ?_⟩
  refine vo_stM ?_
  refine vo_assign_ref rfl rfl ?_
  refine vo_nil ?_
  refine hK2 _ ?_
  refine vc_seq fun K3 hK3 => ?_
  refine vc_seq fun K4 hK4 => ?_
  refine vc_region ?_
  refine vo_move_ref rfl rfl ?_
  refine vo_expose 2 (by omega) rfl ?_
  refine vo_stM ?_
  refine vo_weaken 6 rfl ?_
  refine vo_stM ?_
  refine vo_call0 Try.func55 rfl rfl rfl rfl (specValidOps0_sat (by omega)) ?_
  rintro _ _ ⟨rfl, rfl⟩
  refine ⟨rfl, rfl, .inl rfl, ?_⟩
  refine vo_stM ?_
  refine vo_not rfl rfl ?_
  refine vo_nil ?_
  refine hK4 _ ?_
  refine vc_cond rfl (fun hc1 => ?_) (fun hc1 => ?_)
  · try simp only [decide_eq_true_eq, decide_eq_false_iff_not, beq_iff_eq, bne_iff_ne, beq_eq_false_iff_ne, bne_eq_false_iff_eq, Bool.not_eq_true, Bool.not_eq_false, Bool.not_eq_eq_eq_not, Bool.not_true, Bool.not_false, List.length_map, Int.not_lt, Int.not_le, ne_eq, Decidable.not_not] at hc1
    refine vc_seq fun K5 hK5 => ?_
    refine vc_region ?_
    refine vo_assign_pv rfl rfl ?_
    refine vo_own_nil 2 E23 rfl ?_
    refine vo_nil ?_
    refine hK5 _ ?_
    refine vc_expose 3 (by omega) rfl ?_
    refine vc_stM ?_
    refine vc_ret ?_
    change retQ _ _ _ _ _
    refine retQ_sel [] (srows := []) (.inr rfl) hC rfl rfl rfl rfl rfl rfl rfl ?_
    exact ⟨[], q, _, ⟨by simp, hq⟩, rfl, rfl⟩
  · try simp only [decide_eq_true_eq, decide_eq_false_iff_not, beq_iff_eq, bne_iff_ne, beq_eq_false_iff_ne, bne_eq_false_iff_eq, Bool.not_eq_true, Bool.not_eq_false, Bool.not_eq_eq_eq_not, Bool.not_true, Bool.not_false, List.length_map, Int.not_lt, Int.not_le, ne_eq, Decidable.not_not] at hc1
    refine vc_skip ?_
    refine hK3 _ ?_
    refine vc_seq fun K6 hK6 => ?_
    refine vc_region ?_
    refine vo_move_pv rfl rfl ?_
    refine vo_assign_pv rfl rfl ?_
    refine vo_nil ?_
    refine hK6 _ ?_
    refine vc_ret ?_
    change retQ _ _ _ _ _
    refine retQ_sel [] (srows := []) (.inr rfl) hC rfl rfl rfl rfl rfl rfl rfl ?_
    exact ⟨l, q, _, ⟨hl1, hq⟩, rfl, rfl⟩


theorem DrawSamePairs_sat {nl : Option Bool} {c : List (Fin 256)} (hl : c.length < 1000000000) : SatAt Try.prog 21 [.pv false (.sl nl 1 (c.map byteP))] [] (fun res rows => ∃ (a b : List (Int × Int)) (nla nlb : Option Bool), (a.length ≤ 41 ∧ b.length ≤ 41) ∧ res = [.pv true (.sl nla 2 (a.map pairP)), .pv true (.sl nlb 2 (b.map pairP))] ∧ rows = []) := by
  have hpl := fun l => plp_len l 0
  refine sat_entry_G (rs := [(2, none), (3, none)]) Try.func21 rfl rfl (Nat.le_of_ble_eq_true rfl) (Nat.le_of_ble_eq_true rfl) (resTs2 trivial trivial) fun C hC => ?_
  rw [Try.ntmps21]
  replace hC : C.nb = 0 := hC
  refine vc_seq fun K1 hK1 => ?_
  refine vc_region ?_
  refine vo_assign_pv rfl rfl ?_
  refine vo_assign_pv rfl rfl ?_
  refine vo_nil ?_
  refine hK1 _ ?_
  refine vc_seq fun K2 hK2 => ?_
  refine vc_region ?_
  refine vo_move_pv rfl rfl ?_
  refine vo_call [] Try.func53 rfl rfl rfl rfl rfl rfl rfl (newReader_sat (by omega)) ?_
  rintro _ _ ⟨nl2, c2, hc, rfl, rfl⟩
  refine ⟨Nat.le_of_ble_eq_true rfl, ⟨rfl, rfl, rfl, rfl⟩, .inl rfl, ?_⟩
  refine vo_stM ?_
  refine vo_assign_ptr rfl rfl ?_
  refine vo_nil ?_
  refine hK2 _ ?_
  refine vc_seq fun K3 hK3 => ?_
  refine vc_region ?_
  refine vo_move_ptr rfl rfl ?_
  refine vo_call [0] Try.func57 rfl rfl rfl rfl rfl rfl rfl (goodOps_sat hc (by omega)) ?_
  rintro _ _ ⟨l, q, nlo, ⟨hl1, hq⟩, rfl, rfl⟩
  refine ⟨Nat.le_of_ble_eq_true rfl, ⟨rfl, rfl, rfl, rfl⟩, .inl rfl, ?_⟩
  refine vo_stM ?_
  refine vo_call0 Try.func30 rfl rfl rfl rfl (specPlainPairs_sat (by omega)) ?_
  rintro _ _ ⟨nla, rfl, rfl⟩
  refine ⟨rfl, rfl, .inl rfl, ?_⟩
  refine vo_stM ?_
  refine vo_assign_pv rfl rfl ?_
  refine vo_nil ?_
  refine hK3 _ ?_
  refine vc_seq fun K4 hK4 => ?_
  refine vc_region ?_
  refine vo_buildSlice E32 rfl rfl rfl rfl rfl ?_
  refine vo_stM ?_
  refine vo_assign_ref rfl rfl ?_
  refine vo_nil ?_
  refine hK4 _ ?_
  refine vc_seq fun K5 hK5 => ?_
  refine vc_seq fun K6 hK6 => ?_
  refine vc_region ?_
  refine vo_assign_pv rfl rfl ?_
  refine vo_nil ?_
  refine hK6 _ ?_
  refine vc_block ?_
  refine vc_stM ?_
  refine vc_loopE [4, 5] [6, 7] [0, 1] _ _ (fun mz vs rs => ∃ (k : Nat) (B : List (Int × Int)) (q : Nat), mz = (plp l 0).length - k ∧ ((k ≤ (plp l 0).length ∧ B.length = k ∧ q ≤ 400 + k)) ∧ ((∀ p ∈ B, okPair p)) ∧ vs = [.ref 1, i64 k] ∧ rs = [rdr nl2 c2 q, Row.own 37 2 (some false) true (B.map pairP)]) ((plp l 0).length) rfl rfl (le_len hC rfl) ⟨rfl, rfl, rfl⟩ rfl ⟨0, [], q, rfl, (by simp; omega), (fun p hp => by cases hp), rfl, rfl⟩ ?_
  rintro mz vs rs - - ⟨k, B, q, rfl, hk, hB, rfl, rfl⟩
  refine vc_stM ?_
  have hpl9 := hpl l
  refine vc_seq fun K7 hK7 => ?_
  refine vc_seq fun K8 hK8 => ?_
  refine vc_region ?_
  refine vo_move_pv rfl rfl ?_
  refine vo_move_pv rfl rfl ?_
  refine vo_len_pv rfl rfl Try.underlying32 ?_
  refine vo_binI rfl rfl rfl rfl trivial ?_
  refine vo_nil ?_
  refine hK8 _ ?_
  refine vc_cond rfl (fun hc1 => ?_) (fun hc1 => ?_)
  · try simp only [decide_eq_true_eq, decide_eq_false_iff_not, beq_iff_eq, bne_iff_ne, beq_eq_false_iff_ne, bne_eq_false_iff_eq, Bool.not_eq_true, Bool.not_eq_false, Bool.not_eq_eq_eq_not, Bool.not_true, Bool.not_false, List.length_map, Int.not_lt, Int.not_le, ne_eq, Decidable.not_not] at hc1
    refine vc_skip ?_
    refine hK7 _ ?_
    refine vc_seq fun K9 hK9 => ?_
    refine vc_block ?_
    refine vc_seq fun K10 hK10 => ?_
    refine vc_region ?_
    refine vo_move_ptr rfl rfl ?_
    refine vo_move_ref rfl rfl ?_
    refine vo_len_ref rfl rfl rfl Try.underlying32 ?_
    refine vo_binI rfl rfl rfl rfl sd ?_
    refine vo_call [0] Try.func58 rfl rfl rfl rfl rfl rfl rfl (pick_sat hc (by omega)) ?_
    rintro _ _ ⟨x26, ⟨hx260, hx261⟩, rfl, rfl⟩
    refine ⟨Nat.le_of_ble_eq_true rfl, ⟨rfl, rfl, rfl, rfl⟩, .inl rfl, ?_⟩
    refine vo_stM ?_
    refine vo_assign_pv rfl rfl ?_
    refine vo_nil ?_
    refine hK10 _ ?_
    refine vc_seq fun K11 hK11 => ?_
    refine vc_region ?_
    refine vo_buildSlice E32 rfl rfl rfl rfl rfl ?_
    refine vo_stM ?_
    refine vo_move_ref rfl rfl ?_
    refine vo_move_pv rfl rfl ?_
    refine vo_slice_ref rfl rfl rfl rfl rfl E32.und inf37 sz37 sd sd sd ?_
    try simp only [Int.toNat_natCast, Int.toNat_zero]
    refine vo_appendS E32 rfl (by omega) rfl rfl rfl rfl sd rfl sd sd ?_
    refine vo_stM ?_
    try simp only [app_ints, app_intss, app_bools, List.nil_append, app_pairs, ← List.map_take, ← List.map_drop, ← List.map_append]
    refine vo_assign_ref rfl rfl ?_
    refine vo_nil ?_
    refine hK11 _ ?_
    refine vc_drawL [7, 8, 10, 11] (by kernel_rfl) ?_
    change VL [7, 8, 10, 11] _ _ _ 12 _ _ _
    refine vl_light0 0 rfl rfl rfl (by kernel_rfl) (by kernel_rfl) (by kernel_rfl) (wnt_none rfl) (l0_move_ref rfl) ?_
    refine vl_light0 1 rfl rfl rfl (by kernel_rfl) (by kernel_rfl) (by kernel_rfl) (wnt_none rfl) (l0_move_pv rfl) ?_
    refine vl_light0 2 rfl rfl rfl (by kernel_rfl) (by kernel_rfl) (by kernel_rfl) (wnt_none rfl) (l0_slice_ref rfl rfl rfl rfl E32.und inf37 sz37 sd sd sd) ?_
    try simp only [Int.toNat_natCast, Int.toNat_zero]
    refine vl_light 3 [0, 1, 2, 4, 9] rfl rfl rfl (by kernel_rfl) (by kernel_rfl) (by kernel_rfl) (by kernel_rfl) (by kernel_rfl) (wnt_none rfl) (lt_move_pv rfl) ?_
    refine vl_light 4 [0, 1, 2, 3, 9] rfl rfl rfl (by kernel_rfl) (by kernel_rfl) (by kernel_rfl) (by kernel_rfl) (by kernel_rfl) (wnt_none rfl) (lt_move_pv rfl) ?_
    refine vl_light 5 [0, 1, 2, 3, 4, 9] rfl rfl rfl (by kernel_rfl) (by kernel_rfl) (by kernel_rfl) (by kernel_rfl) (by kernel_rfl) (wnt_none rfl) (lt_index_pv (.agg [(.int .i64 0), (.int .i64 0)]) rfl rfl E32.und inf37 sz37 sd sd) ?_
    simp only [Int.toNat_natCast, Int.toNat_zero, getD_ints, getD_intss, getD_bools, getD_bytes, PV.cells, getD_ops, getD_pairs, getD_insts]
    refine vl_light 6 [0, 1, 2, 3, 4, 5, 9] rfl rfl rfl (by kernel_rfl) (by kernel_rfl) (by kernel_rfl) (by kernel_rfl) (by kernel_rfl) (wnt_none rfl) (lt_load_adrS rfl Try.underlying37 rfl inf37 sz37 rfl) ?_
    refine vl_st (by (try simp only [St.put, PV.cells, PV.scal, List.drop_succ_cons, List.drop_zero, List.take_succ_cons, List.take_zero, List.map_cons, List.map_nil, Bool.or_true, Bool.or_false, Bool.false_or, Bool.true_or, opP, pairP, instP, heapP]); exact eq_refl _) ?_
    refine vl_light0 9 rfl rfl rfl (by kernel_rfl) (by kernel_rfl) (by kernel_rfl) (wnt_none rfl) (l0_move_ref rfl) ?_
    refine vl_one 7 rfl (by kernel_rfl) rfl ?_
    refine vo_buildSlice E32 rfl rfl rfl rfl rfl ?_
    refine vo_stM ?_
    refine vo_done ⟨rfl, ?_⟩
    refine vl_one 8 rfl (by kernel_rfl) rfl ?_
    refine vo_cut 34 rfl rfl (by omega) sd ?_
    refine vo_stM ?_
    try simp only [app_ints, app_intss, app_bools, List.nil_append, app_pairs, ← List.map_take, ← List.map_drop, ← List.map_append]
    refine vo_append E32 rfl (by omega) rfl rfl rfl sd sd ?_
    refine vo_stM ?_
    try simp only [app_ints, app_intss, app_bools, List.nil_append, app_pairs, ← List.map_take, ← List.map_drop, ← List.map_append]
    refine vo_done ⟨rfl, ?_⟩
    refine vl_one 10 rfl (by kernel_rfl) rfl ?_
    refine vo_append E32 rfl (by omega) rfl rfl rfl sd sd ?_
    refine vo_stM ?_
    try simp only [app_ints, app_intss, app_bools, List.nil_append, app_pairs, ← List.map_take, ← List.map_drop, ← List.map_append]
    refine vo_done ⟨rfl, ?_⟩
    refine vl_one 11 rfl (by kernel_rfl) rfl ?_
    refine vo_assign_ref rfl rfl ?_
    refine vo_done ⟨rfl, ?_⟩
    refine vl_nil (by kernel_rfl) ?_
    refine hK9 _ ?_
    refine vc_region ?_
    refine vo_move_pv rfl rfl ?_
    refine vo_binI rfl rfl rfl rfl sd ?_
    refine vo_assign_pv rfl rfl ?_
    refine vo_nil ?_
    change againE _ _ _ _ _ _ _ _ _ _
    refine againE_mk rfl rfl rfl rfl rfl rfl ⟨_, ?_, k + 1, _, _, rfl, ?_, ?_, rfl, rfl⟩
    · omega
    · refine ⟨by omega, ?_, by omega⟩; simp; omega
    · intro p hp; simp only [List.mem_append, List.mem_singleton] at hp; rcases hp with (hp | hp) | hp; exact hB p (List.mem_of_mem_take hp); rw [hp]; exact plp_ok l 0 _ (getD_mem (by omega) (0, 0)); exact hB p (List.mem_of_mem_take (List.mem_of_mem_drop hp))
  · try simp only [decide_eq_true_eq, decide_eq_false_iff_not, beq_iff_eq, bne_iff_ne, beq_eq_false_iff_ne, bne_eq_false_iff_eq, Bool.not_eq_true, Bool.not_eq_false, Bool.not_eq_eq_eq_not, Bool.not_true, Bool.not_false, List.length_map, Int.not_lt, Int.not_le, ne_eq, Decidable.not_not] at hc1
    refine vc_exit ?_
    refine hK5 _ ?_
    refine vc_seq fun K12 hK12 => ?_
    refine vc_seq fun K13 hK13 => ?_
    refine vc_region ?_
    refine vo_move_ref rfl rfl ?_
    refine vo_len_ref rfl rfl rfl Try.underlying32 ?_
    refine vo_binI rfl rfl rfl rfl trivial ?_
    refine vo_nil ?_
    refine hK13 _ ?_
    refine vc_cond rfl (fun hc2 => ?_) (fun hc2 => ?_)
    · try simp only [decide_eq_true_eq, decide_eq_false_iff_not, beq_iff_eq, bne_iff_ne, beq_eq_false_iff_ne, bne_eq_false_iff_eq, Bool.not_eq_true, Bool.not_eq_false, Bool.not_eq_eq_eq_not, Bool.not_true, Bool.not_false, List.length_map, Int.not_lt, Int.not_le, ne_eq, Decidable.not_not] at hc2
      obtain ⟨⟨pa, pb⟩, B, rfl⟩ := head_cons (show 0 < B.length by omega)
      have hB9 : ((pa, pb) :: B).length ≤ 40 := by omega
      have hB8 : B.length ≤ 39 := by simp at hB9; omega
      have hB7 := hB (pa, pb) (by simp)
      unfold okPair at hB7
      have hB6 : 0 ≤ pb ∧ pb ≤ 99 := hB7.2
      refine vc_seq fun K14 hK14 => ?_
      refine vc_region ?_
      refine vo_move_ptr rfl rfl ?_
      refine vo_call [0] Try.func58 rfl rfl rfl rfl rfl rfl rfl (pick_sat hc (by omega)) ?_
      rintro _ _ ⟨x47, ⟨hx470, hx471⟩, rfl, rfl⟩
      refine ⟨Nat.le_of_ble_eq_true rfl, ⟨rfl, rfl, rfl, rfl⟩, .inl rfl, ?_⟩
      refine vo_stM ?_
      refine vo_nil ?_
      refine hK14 _ ?_
      refine vc_block ?_
      refine vc_seq fun K15 hK15 => ?_
      refine vc_region ?_
      refine vo_binI rfl rfl rfl rfl trivial ?_
      refine vo_assign_pv rfl rfl ?_
      refine vo_nil ?_
      refine hK15 _ ?_
      refine vc_cond rfl (fun hc3 => ?_) (fun hc3 => ?_)
      · try simp only [decide_eq_true_eq, decide_eq_false_iff_not, beq_iff_eq, bne_iff_ne, beq_eq_false_iff_ne, bne_eq_false_iff_eq, Bool.not_eq_true, Bool.not_eq_false, Bool.not_eq_eq_eq_not, Bool.not_true, Bool.not_false, List.length_map, Int.not_lt, Int.not_le, ne_eq, Decidable.not_not] at hc3
        refine vc_region ?_
        refine vo_move_ref rfl rfl ?_
        refine vo_move_ref rfl rfl ?_
        refine vo_index_ref rfl rfl rfl rfl E32.und inf37 sz37 sd sd ?_
        try simp only [Int.toNat_natCast]
        refine vo_fieldAddr_ptr rfl rfl Try.underlying37 rfl inf3 (by rw [sz3]; decide) ?_
        try simp only [Nat.zero_add]
        refine vo_load_ownC (d := (.agg [.int .i64 0, .int .i64 0])) rfl rfl rfl Try.underlying3 rfl sd rfl rfl ?_
        try simp only [Int.toNat_natCast]
        refine vo_st (by (try simp only [St.put, PV.cells, PV.scal, List.drop_succ_cons, List.drop_zero, List.take_succ_cons, List.take_zero, List.map_cons, List.map_nil, Bool.or_true, Bool.or_false, Bool.false_or, Bool.true_or, opP, pairP, instP, heapP]); exact eq_refl _) ?_
        refine vo_binI rfl rfl rfl rfl sd ?_
        refine vo_index_ref rfl rfl rfl rfl E32.und inf37 sz37 sd sd ?_
        try simp only [Int.toNat_natCast]
        refine vo_fieldAddr_ptr rfl rfl Try.underlying37 rfl inf3 (by rw [sz3]; decide) ?_
        try simp only [Nat.zero_add]
        refine vo_store_ownC rfl rfl rfl rfl inf3 sz3 rfl rfl ?_
        try simp only [List.set_cons_zero, List.set_cons_succ, Int.toNat_natCast, Int.toNat_zero]
        refine vo_stM ?_
        refine vo_nil ?_
        refine hK12 _ ?_
        refine vc_seq fun K16 hK16 => ?_
        refine vc_region ?_
        refine vo_move_pv rfl rfl ?_
        refine vo_move_ref rfl rfl ?_
        refine vo_assign_pv rfl rfl ?_
        refine vo_assign_ref rfl rfl ?_
        refine vo_nil ?_
        refine hK16 _ ?_
        refine vc_expose 1 (by omega) rfl ?_
        refine vc_stM ?_
        refine vc_ret ?_
        change retQ _ _ _ _ _
        refine retQ_sel [] (srows := []) (.inr rfl) hC rfl rfl rfl rfl rfl rfl rfl ?_
        exact ⟨plp l 0, (pa, pb + 1) :: B, _, _, ⟨by omega, by simp; omega⟩, rfl, rfl⟩
      · try simp only [decide_eq_true_eq, decide_eq_false_iff_not, beq_iff_eq, bne_iff_ne, beq_eq_false_iff_ne, bne_eq_false_iff_eq, Bool.not_eq_true, Bool.not_eq_false, Bool.not_eq_eq_eq_not, Bool.not_true, Bool.not_false, List.length_map, Int.not_lt, Int.not_le, ne_eq, Decidable.not_not] at hc3
        refine vc_seq fun K17 hK17 => ?_
        refine vc_region ?_
        refine vo_binI rfl rfl rfl rfl trivial ?_
        refine vo_assign_pv rfl rfl ?_
        refine vo_nil ?_
        refine hK17 _ ?_
        refine vc_cond rfl (fun hc4 => ?_) (fun hc4 => ?_)
        · try simp only [decide_eq_true_eq, decide_eq_false_iff_not, beq_iff_eq, bne_iff_ne, beq_eq_false_iff_ne, bne_eq_false_iff_eq, Bool.not_eq_true, Bool.not_eq_false, Bool.not_eq_eq_eq_not, Bool.not_true, Bool.not_false, List.length_map, Int.not_lt, Int.not_le, ne_eq, Decidable.not_not] at hc4
          refine vc_region ?_
          refine vo_move_ref rfl rfl ?_
          refine vo_move_ref rfl rfl ?_
          refine vo_index_ref rfl rfl rfl rfl E32.und inf37 sz37 sd sd ?_
          try simp only [Int.toNat_natCast]
          refine vo_load_ownS (d := (.agg [.int .i64 0, .int .i64 0])) rfl rfl rfl Try.underlying37 rfl inf37 sz37 sd rfl (Nat.le_of_ble_eq_true rfl) ?_
          try simp only [Int.toNat_natCast]
          refine vo_st (by (try simp only [St.put, PV.cells, PV.scal, List.drop_succ_cons, List.drop_zero, List.take_succ_cons, List.take_zero, List.map_cons, List.map_nil, Bool.or_true, Bool.or_false, Bool.false_or, Bool.true_or, opP, pairP, instP, heapP]); exact eq_refl _) ?_
          refine vo_buildSlice E32 rfl rfl rfl rfl rfl ?_
          refine vo_stM ?_
          refine vo_append E32 rfl (by omega) rfl rfl rfl sd sd ?_
          refine vo_stM ?_
          try simp only [app_ints, app_intss, app_bools, List.nil_append, app_pairs, ← List.map_take, ← List.map_drop, ← List.map_append]
          refine vo_assign_ref rfl rfl ?_
          refine vo_nil ?_
          refine hK12 _ ?_
          refine vc_seq fun K18 hK18 => ?_
          refine vc_region ?_
          refine vo_move_pv rfl rfl ?_
          refine vo_move_ref rfl rfl ?_
          refine vo_assign_pv rfl rfl ?_
          refine vo_assign_ref rfl rfl ?_
          refine vo_nil ?_
          refine hK18 _ ?_
          refine vc_expose 1 (by omega) rfl ?_
          refine vc_stM ?_
          refine vc_ret ?_
          change retQ _ _ _ _ _
          refine retQ_sel [] (srows := []) (.inr rfl) hC rfl rfl rfl rfl rfl rfl rfl ?_
          refine ⟨plp l 0, (pa, pb) :: (B ++ [(pa, pb)]), nla, some false, ⟨by omega, by simp; omega⟩, ?_, rfl⟩
          rw [show List.map pairP ((pa, pb) :: (B ++ [(pa, pb)])) = pairP (pa, pb) :: (List.map pairP B ++ [pairP (pa, pb)]) from by simp]; rfl
        · try simp only [decide_eq_true_eq, decide_eq_false_iff_not, beq_iff_eq, bne_iff_ne, beq_eq_false_iff_ne, bne_eq_false_iff_eq, Bool.not_eq_true, Bool.not_eq_false, Bool.not_eq_eq_eq_not, Bool.not_true, Bool.not_false, List.length_map, Int.not_lt, Int.not_le, ne_eq, Decidable.not_not] at hc4
          refine vc_seq fun K19 hK19 => ?_
          refine vc_region ?_
          refine vo_binI rfl rfl rfl rfl trivial ?_
          refine vo_assign_pv rfl rfl ?_
          refine vo_nil ?_
          refine hK19 _ ?_
          refine vc_cond rfl (fun hc5 => ?_) (fun hc5 => ?_)
          · try simp only [decide_eq_true_eq, decide_eq_false_iff_not, beq_iff_eq, bne_iff_ne, beq_eq_false_iff_ne, bne_eq_false_iff_eq, Bool.not_eq_true, Bool.not_eq_false, Bool.not_eq_eq_eq_not, Bool.not_true, Bool.not_false, List.length_map, Int.not_lt, Int.not_le, ne_eq, Decidable.not_not] at hc5
            refine vc_region ?_
            refine vo_move_ref rfl rfl ?_
            refine vo_expose 1 (by omega) rfl ?_
            refine vo_stM ?_
            refine vo_weaken 68 rfl ?_
            refine vo_stM ?_
            refine vo_slice_pv rfl rfl rfl rfl E32.und inf37 sz37 sd sd sd ?_
            simp only [Int.toNat_natCast, Int.toNat_zero, List.drop_zero, Nat.sub_zero, ← List.map_drop, ← List.map_take]
            refine vo_assign_pv rfl rfl ?_
            refine vo_nil ?_
            refine hK12 _ ?_
            refine vc_seq fun K20 hK20 => ?_
            refine vc_region ?_
            refine vo_move_pv rfl rfl ?_
            refine vo_move_pv rfl rfl ?_
            refine vo_assign_pv rfl rfl ?_
            refine vo_assign_pv rfl rfl ?_
            refine vo_nil ?_
            refine hK20 _ ?_
            refine vc_ret ?_
            change retQ _ _ _ _ _
            refine retQ_sel [] (srows := []) (.inr rfl) hC rfl rfl rfl rfl rfl rfl rfl ?_
            rw [tail_pairs]; exact ⟨plp l 0, B, _, _, ⟨by omega, by omega⟩, rfl, rfl⟩
          · try simp only [decide_eq_true_eq, decide_eq_false_iff_not, beq_iff_eq, bne_iff_ne, beq_eq_false_iff_ne, bne_eq_false_iff_eq, Bool.not_eq_true, Bool.not_eq_false, Bool.not_eq_eq_eq_not, Bool.not_true, Bool.not_false, List.length_map, Int.not_lt, Int.not_le, ne_eq, Decidable.not_not] at hc5
            refine vc_skip ?_
            refine hK12 _ ?_
            refine vc_seq fun K21 hK21 => ?_
            refine vc_region ?_
            refine vo_move_pv rfl rfl ?_
            refine vo_move_ref rfl rfl ?_
            refine vo_assign_pv rfl rfl ?_
            refine vo_assign_ref rfl rfl ?_
            refine vo_nil ?_
            refine hK21 _ ?_
            refine vc_expose 1 (by omega) rfl ?_
            refine vc_stM ?_
            refine vc_ret ?_
            change retQ _ _ _ _ _
            refine retQ_sel [] (srows := []) (.inr rfl) hC rfl rfl rfl rfl rfl rfl rfl ?_
            exact ⟨plp l 0, (pa, pb) :: B, _, _, ⟨by omega, by omega⟩, rfl, rfl⟩
    · try simp only [decide_eq_true_eq, decide_eq_false_iff_not, beq_iff_eq, bne_iff_ne, beq_eq_false_iff_ne, bne_eq_false_iff_eq, Bool.not_eq_true, Bool.not_eq_false, Bool.not_eq_eq_eq_not, Bool.not_true, Bool.not_false, List.length_map, Int.not_lt, Int.not_le, ne_eq, Decidable.not_not] at hc2
      refine vc_skip ?_
      refine hK12 _ ?_
      refine vc_seq fun K22 hK22 => ?_
      refine vc_region ?_
      refine vo_move_pv rfl rfl ?_
      refine vo_move_ref rfl rfl ?_
      refine vo_assign_pv rfl rfl ?_
      refine vo_assign_ref rfl rfl ?_
      refine vo_nil ?_
      refine hK22 _ ?_
      refine vc_expose 1 (by omega) rfl ?_
      refine vc_stM ?_
      refine vc_ret ?_
      change retQ _ _ _ _ _
      refine retQ_sel [] (srows := []) (.inr rfl) hC rfl rfl rfl rfl rfl rfl rfl ?_
      exact ⟨plp l 0, B, _, _, ⟨by omega, by omega⟩, rfl, rfl⟩


theorem FnSamePairs_sat {nl : Option Bool} {code : List (Fin 256)} : SatAt Try.prog 5 [.pv false (.sl nl 1 (code.map byteP))] [] (fun res rows => res = [bo true] ∧ rows = []) := by
  refine sat_entry_G (rs := [(2, none)]) Try.func5 rfl rfl (Nat.le_of_ble_eq_true rfl) (Nat.le_of_ble_eq_true rfl) (resTs1 trivial) fun C hC => ?_
  rw [Try.ntmps5]
  replace hC : C.nb = 0 := hC
  refine vc_seq fun K1 hK1 => ?_
  refine vc_region ?_
  refine vo_assign_pv rfl rfl ?_
  refine vo_nil ?_
  refine hK1 _ ?_
  refine vc_seq fun K2 hK2 => ?_
  refine vc_seq fun K3 hK3 => ?_
  refine vc_region ?_
  refine vo_move_pv rfl rfl ?_
  refine vo_len_pv rfl rfl Try.underlying22 ?_
  refine vo_binI rfl rfl rfl rfl trivial ?_
  refine vo_nil ?_
  refine hK3 _ ?_
  refine vc_cond rfl (fun hc1 => ?_) (fun hc1 => ?_)
  · try simp only [decide_eq_true_eq, decide_eq_false_iff_not, beq_iff_eq, bne_iff_ne, beq_eq_false_iff_ne, bne_eq_false_iff_eq, Bool.not_eq_true, Bool.not_eq_false, Bool.not_eq_eq_eq_not, Bool.not_true, Bool.not_false, List.length_map, Int.not_lt, Int.not_le, ne_eq, Decidable.not_not] at hc1
    refine vc_seq fun K4 hK4 => ?_
    refine vc_region ?_
    refine vo_assign_pv rfl rfl ?_
    refine vo_nil ?_
    refine hK4 _ ?_
    refine vc_ret ?_
    change retQ _ _ _ _ _
    refine retQ_sel [] (srows := []) (.inr rfl) hC rfl rfl rfl rfl rfl rfl rfl ?_
    exact ⟨rfl, rfl⟩
  · try simp only [decide_eq_true_eq, decide_eq_false_iff_not, beq_iff_eq, bne_iff_ne, beq_eq_false_iff_ne, bne_eq_false_iff_eq, Bool.not_eq_true, Bool.not_eq_false, Bool.not_eq_eq_eq_not, Bool.not_true, Bool.not_false, List.length_map, Int.not_lt, Int.not_le, ne_eq, Decidable.not_not] at hc1
    have hlen : code.length ≤ 1048576 := by omega
    refine vc_skip ?_
    refine hK2 _ ?_
    refine vc_seq fun K5 hK5 => ?_
    refine vc_region ?_
    refine vo_move_pv rfl rfl ?_
    refine vo_call0 Try.func21 rfl rfl rfl rfl (DrawSamePairs_sat (by omega)) ?_
    rintro _ _ ⟨a, b, nla, nlb, ⟨ha, hb⟩, rfl, rfl⟩
    refine ⟨rfl, rfl, .inl rfl, ?_⟩
    refine vo_stM ?_
    refine vo_move rfl ?_
    refine vo_stM ?_
    refine vo_extract rfl rfl rfl ?_
    refine vo_extract rfl rfl rfl ?_
    refine vo_assign_pv rfl rfl ?_
    refine vo_assign_pv rfl rfl ?_
    refine vo_nil ?_
    refine hK5 _ ?_
    refine vc_seq fun K6 hK6 => ?_
    refine vc_region ?_
    refine vo_move_pv rfl rfl ?_
    refine vo_move_pv rfl rfl ?_
    refine vo_call0 Try.func22 rfl rfl rfl rfl (implSamePairs_sat (by omega) (by omega)) ?_
    rintro _ _ ⟨rfl, rfl⟩
    refine ⟨rfl, rfl, .inl rfl, ?_⟩
    refine vo_stM ?_
    refine vo_assign_pv rfl rfl ?_
    refine vo_nil ?_
    refine hK6 _ ?_
    refine vc_seq fun K7 hK7 => ?_
    refine vc_seq fun K8 hK8 => ?_
    refine vc_region ?_
    refine vo_move_pv rfl rfl ?_
    refine vo_move_pv rfl rfl ?_
    refine vo_move_pv rfl rfl ?_
    refine vo_call0 Try.func23 rfl rfl rfl rfl (specSamePairs_sat (by omega) (by omega)) ?_
    rintro _ _ ⟨rfl, rfl⟩
    refine ⟨rfl, rfl, .inl rfl, ?_⟩
    refine vo_stM ?_
    refine vo_binB rfl rfl rfl rfl Try.underlying4 ?_
    refine vo_move_pv rfl rfl ?_
    refine vo_split 24 rfl (fun hg2 => ?_) (fun hg2 => ?_)
    · try simp only [decide_eq_true_eq, decide_eq_false_iff_not, beq_iff_eq, bne_iff_ne, beq_eq_false_iff_ne, bne_eq_false_iff_eq, Bool.not_eq_true, Bool.not_eq_false, Bool.not_eq_eq_eq_not, Bool.not_true, Bool.not_false, List.length_map, Int.not_lt, Int.not_le, ne_eq, Decidable.not_not] at hg2
      refine vo_guard_off rfl rfl rfl rfl rfl ?_
      refine vo_guard_off rfl rfl rfl rfl rfl ?_
      refine vo_pick_t rfl rfl ?_
      refine vo_nil ?_
      refine hK8 _ ?_
      refine vc_cond_t rfl ?_
      refine vc_seq fun K9 hK9 => ?_
      refine vc_region ?_
      refine vo_move_pv rfl rfl ?_
      refine vo_move_pv rfl rfl ?_
      refine vo_move_pv rfl rfl ?_
      refine vo_call0 Try.func23 rfl rfl rfl rfl (specSamePairs_sat (by omega) (by omega)) ?_
      rintro _ _ ⟨rfl, rfl⟩
      refine ⟨rfl, rfl, .inl rfl, ?_⟩
      refine vo_stM ?_
      refine vo_binB rfl rfl rfl rfl Try.underlying4 ?_
      refine vo_assign_pv rfl rfl ?_
      refine vo_nil ?_
      refine hK9 _ ?_
      refine vc_ret ?_
      change retQ _ _ _ _ _
      refine retQ_sel [] (srows := []) (.inr rfl) hC rfl rfl rfl rfl rfl rfl rfl ?_
      first
        | exact absurd trivial ‹¬True›
        | (refine ⟨(congrArg (fun b => [bo b]) (?_ : _ = true) : [bo _] = [bo true]), rfl⟩; simp; done)
        | exact absurd hs ‹¬ SPairs b a›
        | exact absurd hr ‹¬ SPairs a (List.drop k a).reverse›
        | (refine ⟨(congrArg (fun b => [bo b]) (?_ : _ = true) : [bo _] = [bo true]), rfl⟩; simp [hl9]; done)
        | (trace_state; exact ⟨rfl, rfl⟩)
    · try simp only [decide_eq_true_eq, decide_eq_false_iff_not, beq_iff_eq, bne_iff_ne, beq_eq_false_iff_ne, bne_eq_false_iff_eq, Bool.not_eq_true, Bool.not_eq_false, Bool.not_eq_eq_eq_not, Bool.not_true, Bool.not_false, List.length_map, Int.not_lt, Int.not_le, ne_eq, Decidable.not_not] at hg2
      refine vo_guard_on rfl rfl rfl ?_
      refine vo_move_pv rfl rfl ?_
      refine vo_guard_on rfl rfl rfl ?_
      refine vo_not rfl rfl ?_
      refine vo_pick_f rfl rfl ?_
      refine vo_nil ?_
      refine hK8 _ ?_
      refine vc_cond rfl (fun hc3 => ?_) (fun hc3 => ?_)
      · try simp only [decide_eq_true_eq, decide_eq_false_iff_not, beq_iff_eq, bne_iff_ne, beq_eq_false_iff_ne, bne_eq_false_iff_eq, Bool.not_eq_true, Bool.not_eq_false, Bool.not_eq_eq_eq_not, Bool.not_true, Bool.not_false, List.length_map, Int.not_lt, Int.not_le, ne_eq, Decidable.not_not] at hc3
        refine vc_seq fun K10 hK10 => ?_
        refine vc_region ?_
        refine vo_move_pv rfl rfl ?_
        refine vo_move_pv rfl rfl ?_
        refine vo_move_pv rfl rfl ?_
        refine vo_call0 Try.func23 rfl rfl rfl rfl (specSamePairs_sat (by omega) (by omega)) ?_
        rintro _ _ ⟨rfl, rfl⟩
        refine ⟨rfl, rfl, .inl rfl, ?_⟩
        refine vo_stM ?_
        refine vo_binB rfl rfl rfl rfl Try.underlying4 ?_
        refine vo_assign_pv rfl rfl ?_
        refine vo_nil ?_
        refine hK10 _ ?_
        refine vc_ret ?_
        change retQ _ _ _ _ _
        refine retQ_sel [] (srows := []) (.inr rfl) hC rfl rfl rfl rfl rfl rfl rfl ?_
        first
          | exact absurd trivial ‹¬True›
          | (refine ⟨(congrArg (fun b => [bo b]) (?_ : _ = true) : [bo _] = [bo true]), rfl⟩; simp; done)
          | exact absurd hs ‹¬ SPairs b a›
          | exact absurd hr ‹¬ SPairs a (List.drop k a).reverse›
          | (refine ⟨(congrArg (fun b => [bo b]) (?_ : _ = true) : [bo _] = [bo true]), rfl⟩; simp [hl9]; done)
          | (trace_state; exact ⟨rfl, rfl⟩)
      · try simp only [decide_eq_true_eq, decide_eq_false_iff_not, beq_iff_eq, bne_iff_ne, beq_eq_false_iff_ne, bne_eq_false_iff_eq, Bool.not_eq_true, Bool.not_eq_false, Bool.not_eq_eq_eq_not, Bool.not_true, Bool.not_false, List.length_map, Int.not_lt, Int.not_le, ne_eq, Decidable.not_not] at hc3
        refine vc_skip ?_
        refine hK7 _ ?_
        refine vc_seq fun K11 hK11 => ?_
        refine vc_region ?_
        refine vo_buildSlice E32 rfl rfl rfl rfl rfl ?_
        refine vo_stM ?_
        refine vo_assign_ref rfl rfl ?_
        refine vo_nil ?_
        refine hK11 _ ?_
        refine vc_seq fun K12 hK12 => ?_
        refine vc_seq fun K13 hK13 => ?_
        refine vc_region ?_
        refine vo_move_pv rfl rfl ?_
        refine vo_len_pv rfl rfl Try.underlying32 ?_
        refine vo_binI rfl rfl rfl rfl sd ?_
        refine vo_assign_pv rfl rfl ?_
        refine vo_nil ?_
        refine hK13 _ ?_
        refine vc_block ?_
        refine vc_stM ?_
        refine vc_loopE [3, 4] [6, 7] [0] _ _ (fun mz vs rs => ∃ (k : Nat) (z : Int), mz = 1 * k ∧ (k ≤ a.length) ∧ (z = (k : Int) - 1) ∧ vs = [.ref 0, i64 z] ∧ rs = [Row.own 37 2 (some false) true ((a.drop k).reverse.map pairP)]) (1 * (a.map pairP).length) rfl rfl (le_len hC rfl) ⟨rfl, rfl, rfl⟩ rfl ⟨(a.map pairP).length, _, rfl, (by simp), rfl, rfl, (by rw [List.length_map, List.drop_length]; rfl)⟩ ?_
        rintro mz vs rs - - ⟨k, z, rfl, hk, hz, rfl, rfl⟩
        refine vc_stM ?_
        refine vc_seq fun K14 hK14 => ?_
        refine vc_seq fun K15 hK15 => ?_
        refine vc_region ?_
        refine vo_move_pv rfl rfl ?_
        refine vo_binI rfl rfl rfl rfl trivial ?_
        refine vo_nil ?_
        refine hK15 _ ?_
        refine vc_cond rfl (fun hc4 => ?_) (fun hc4 => ?_)
        · try simp only [decide_eq_true_eq, decide_eq_false_iff_not, beq_iff_eq, bne_iff_ne, beq_eq_false_iff_ne, bne_eq_false_iff_eq, Bool.not_eq_true, Bool.not_eq_false, Bool.not_eq_eq_eq_not, Bool.not_true, Bool.not_false, List.length_map, Int.not_lt, Int.not_le, ne_eq, Decidable.not_not] at hc4
          refine vc_skip ?_
          refine hK14 _ ?_
          refine vc_seq fun K16 hK16 => ?_
          refine vc_block ?_
          refine vc_region ?_
          refine vo_move_ref rfl rfl ?_
          refine vo_move_pv rfl rfl ?_
          refine vo_move_pv rfl rfl ?_
          refine vo_index_pv (.agg [(.int .i64 0), (.int .i64 0)]) rfl rfl rfl E32.und inf37 sz37 sd sd ?_
          simp only [Int.toNat_natCast, Int.toNat_zero, getD_ints, getD_intss, getD_bools, getD_bytes, PV.cells, getD_ops, getD_pairs, getD_insts]
          refine vo_load_adrS rfl rfl Try.underlying37 rfl inf37 sz37 rfl ?_
          refine vo_st (by (try simp only [St.put, PV.cells, PV.scal, List.drop_succ_cons, List.drop_zero, List.take_succ_cons, List.take_zero, List.map_cons, List.map_nil, Bool.or_true, Bool.or_false, Bool.false_or, Bool.true_or, opP, pairP, instP, heapP]); exact eq_refl _) ?_
          refine vo_buildSlice E32 rfl rfl rfl rfl rfl ?_
          refine vo_stM ?_
          refine vo_append E32 rfl (by omega) rfl rfl rfl sd sd ?_
          refine vo_stM ?_
          try simp only [app_ints, app_intss, app_bools, List.nil_append, app_pairs]
          refine vo_assign_ref rfl rfl ?_
          refine vo_nil ?_
          refine hK16 _ ?_
          refine vc_region ?_
          refine vo_move_pv rfl rfl ?_
          refine vo_binI rfl rfl rfl rfl sd ?_
          refine vo_assign_pv rfl rfl ?_
          refine vo_nil ?_
          change againE _ _ _ _ _ _ _ _ _ _
          refine againE_mk rfl rfl rfl rfl rfl rfl ⟨_, ?_, k - 1, _, rfl, ?_, ?_, rfl, (row_pairs (rev_step hz (by omega) hk))⟩
          · omega
          · omega
          · omega
        · try simp only [decide_eq_true_eq, decide_eq_false_iff_not, beq_iff_eq, bne_iff_ne, beq_eq_false_iff_ne, bne_eq_false_iff_eq, Bool.not_eq_true, Bool.not_eq_false, Bool.not_eq_eq_eq_not, Bool.not_true, Bool.not_false, List.length_map, Int.not_lt, Int.not_le, ne_eq, Decidable.not_not] at hc4
          have hr : SPairs a (a.drop k).reverse := by
            have h0 : k = 0 := by omega
            subst h0; simpa using spairs_rev hc3
          have hs := spairs_symm hc3
          have hl9 := hc3.2.2.1
          have hl8 : (a.drop k).reverse.length ≤ 41 := by simp; omega
          refine vc_exit ?_
          refine hK12 _ ?_
          refine vc_seq fun K17 hK17 => ?_
          refine vc_region ?_
          refine vo_move_pv rfl rfl ?_
          refine vo_move_pv rfl rfl ?_
          refine vo_call0 Try.func22 rfl rfl rfl rfl (implSamePairs_sat (by omega) (by omega)) ?_
          rintro _ _ ⟨rfl, rfl⟩
          refine ⟨rfl, rfl, .inl rfl, ?_⟩
          refine vo_stM ?_
          refine vo_move_pv rfl rfl ?_
          refine vo_split 51 rfl (fun hg5 => ?_) (fun hg5 => ?_)
          · try simp only [decide_eq_true_eq, decide_eq_false_iff_not, beq_iff_eq, bne_iff_ne, beq_eq_false_iff_ne, bne_eq_false_iff_eq, Bool.not_eq_true, Bool.not_eq_false, Bool.not_eq_eq_eq_not, Bool.not_true, Bool.not_false, List.length_map, Int.not_lt, Int.not_le, ne_eq, Decidable.not_not] at hg5
            refine vo_guard_on rfl rfl rfl ?_
            refine vo_move_pv rfl rfl ?_
            refine vo_guard_on rfl rfl rfl ?_
            refine vo_move_ref rfl rfl ?_
            refine vo_guard_on rfl rfl rfl ?_
            refine vo_expose 0 (by omega) rfl ?_
            refine vo_stM ?_
            refine vo_weaken 53 rfl ?_
            refine vo_stM ?_
            refine vo_call0 Try.func22 rfl rfl rfl rfl (implSamePairs_sat (by omega) (by omega)) ?_
            rintro _ _ ⟨rfl, rfl⟩
            refine ⟨rfl, rfl, .inl rfl, ?_⟩
            refine vo_stM ?_
            refine vo_pick_t rfl rfl ?_
            refine vo_move_pv rfl rfl ?_
            refine vo_split 56 rfl (fun hg6 => ?_) (fun hg6 => ?_)
            · try simp only [decide_eq_true_eq, decide_eq_false_iff_not, beq_iff_eq, bne_iff_ne, beq_eq_false_iff_ne, bne_eq_false_iff_eq, Bool.not_eq_true, Bool.not_eq_false, Bool.not_eq_eq_eq_not, Bool.not_true, Bool.not_false, List.length_map, Int.not_lt, Int.not_le, ne_eq, Decidable.not_not] at hg6
              refine vo_guard_on rfl rfl rfl ?_
              refine vo_move_pv rfl rfl ?_
              refine vo_guard_on rfl rfl rfl ?_
              refine vo_len_pv rfl rfl Try.underlying32 ?_
              refine vo_guard_on rfl rfl rfl ?_
              refine vo_move_pv rfl rfl ?_
              refine vo_guard_on rfl rfl rfl ?_
              refine vo_len_pv rfl rfl Try.underlying32 ?_
              refine vo_guard_on rfl rfl rfl ?_
              refine vo_binI rfl rfl rfl rfl trivial ?_
              refine vo_pick_t rfl rfl ?_
              refine vo_assign_pv rfl rfl ?_
              refine vo_nil ?_
              refine hK17 _ ?_
              refine vc_ret ?_
              change retQ _ _ _ _ _
              refine retQ_sel [] (srows := []) (.inr rfl) hC rfl rfl rfl rfl rfl rfl rfl ?_
              first
                | exact absurd trivial ‹¬True›
                | (refine ⟨(congrArg (fun b => [bo b]) (?_ : _ = true) : [bo _] = [bo true]), rfl⟩; simp; done)
                | exact absurd hs ‹¬ SPairs b a›
                | exact absurd hr ‹¬ SPairs a (List.drop k a).reverse›
                | (refine ⟨(congrArg (fun b => [bo b]) (?_ : _ = true) : [bo _] = [bo true]), rfl⟩; simp [hl9]; done)
                | (trace_state; exact ⟨rfl, rfl⟩)
            · try simp only [decide_eq_true_eq, decide_eq_false_iff_not, beq_iff_eq, bne_iff_ne, beq_eq_false_iff_ne, bne_eq_false_iff_eq, Bool.not_eq_true, Bool.not_eq_false, Bool.not_eq_eq_eq_not, Bool.not_true, Bool.not_false, List.length_map, Int.not_lt, Int.not_le, ne_eq, Decidable.not_not] at hg6
              refine vo_guard_off rfl rfl rfl rfl rfl ?_
              refine vo_guard_off rfl rfl rfl rfl rfl ?_
              refine vo_guard_off rfl rfl rfl rfl rfl ?_
              refine vo_guard_off rfl rfl rfl rfl rfl ?_
              refine vo_guard_off rfl rfl rfl rfl rfl ?_
              refine vo_pick_f rfl rfl ?_
              refine vo_assign_pv rfl rfl ?_
              refine vo_nil ?_
              refine hK17 _ ?_
              refine vc_ret ?_
              change retQ _ _ _ _ _
              refine retQ_sel [] (srows := []) (.inr rfl) hC rfl rfl rfl rfl rfl rfl rfl ?_
              first
                | exact absurd trivial ‹¬True›
                | (refine ⟨(congrArg (fun b => [bo b]) (?_ : _ = true) : [bo _] = [bo true]), rfl⟩; simp; done)
                | exact absurd hs ‹¬ SPairs b a›
                | exact absurd hr ‹¬ SPairs a (List.drop k a).reverse›
                | (refine ⟨(congrArg (fun b => [bo b]) (?_ : _ = true) : [bo _] = [bo true]), rfl⟩; simp [hl9]; done)
                | (trace_state; exact ⟨rfl, rfl⟩)
          · try simp only [decide_eq_true_eq, decide_eq_false_iff_not, beq_iff_eq, bne_iff_ne, beq_eq_false_iff_ne, bne_eq_false_iff_eq, Bool.not_eq_true, Bool.not_eq_false, Bool.not_eq_eq_eq_not, Bool.not_true, Bool.not_false, List.length_map, Int.not_lt, Int.not_le, ne_eq, Decidable.not_not] at hg5
            refine vo_guard_off rfl rfl rfl rfl rfl ?_
            refine vo_guard_off rfl rfl rfl rfl rfl ?_
            refine vo_guard_off rfl rfl rfl rfl rfl ?_
            refine vo_pick_f rfl rfl ?_
            refine vo_move_pv rfl rfl ?_
            refine vo_guard_off rfl rfl rfl rfl rfl ?_
            refine vo_guard_off rfl rfl rfl rfl rfl ?_
            refine vo_guard_off rfl rfl rfl rfl rfl ?_
            refine vo_guard_off rfl rfl rfl rfl rfl ?_
            refine vo_guard_off rfl rfl rfl rfl rfl ?_
            refine vo_pick_f rfl rfl ?_
            refine vo_assign_pv rfl rfl ?_
            refine vo_nil ?_
            refine hK17 _ ?_
            refine vc_ret ?_
            change retQ _ _ _ _ _
            refine retQ_sel [] (srows := []) (.inr rfl) hC rfl rfl rfl rfl rfl rfl rfl ?_
            first
              | exact absurd trivial ‹¬True›
              | (refine ⟨(congrArg (fun b => [bo b]) (?_ : _ = true) : [bo _] = [bo true]), rfl⟩; simp; done)
              | exact absurd hs ‹¬ SPairs b a›
              | exact absurd hr ‹¬ SPairs a (List.drop k a).reverse›
              | (refine ⟨(congrArg (fun b => [bo b]) (?_ : _ = true) : [bo _] = [bo true]), rfl⟩; simp [hl9]; done)
              | (trace_state; exact ⟨rfl, rfl⟩)

end Go.Vl

