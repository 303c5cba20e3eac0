import Derived.Test.YtnmgjhlmmhoffaaVlT1
namespace Go.Vl
set_option linter.unusedVariables false
set_option linter.unusedSimpArgs false
open Go.Proofs

theorem findM_mem (n : Int) : ∀ (l : List Int) (k : Int), 0 ≤ k → (0 ≤ findM n l k ↔ n ∈ l)
  | [], k, _ => by simp [findM]
  | x :: xs, k, h => by
    by_cases hx : x = n
    · simp [findM, hx, h]
    · have := findM_mem n xs (k+1) (by omega)
      simp [findM, hx, Ne.symm hx, this]

theorem findM_not (n : Int) (l : List Int) (k : Int) (h : 0 ≤ k) : findM n l k < 0 ↔ n ∉ l := by
  rw [← findM_mem n l k h]; omega

theorem nodup_take_succ {α : Type} [DecidableEq α] {l : List α} {k : Nat} (h : k < l.length) (d : α) : (l.take (k+1)).Nodup ↔ (l.take k).Nodup ∧ l.getD k d ∉ l.take k := by
  rw [List.take_succ_eq_append_getElem h, List.nodup_append]
  simp [List.getD, List.getElem?_eq_getElem h]
  intro _
  exact ⟨fun h1 h2 => h1 _ h2 rfl, fun h1 a ha e => h1 (e ▸ ha)⟩

theorem nodup_take {α : Type} {l : List α} (k : Nat) (h : l.Nodup) : (l.take k).Nodup := (List.take_sublist k l).nodup h

theorem all_take_succ {α : Type} {p : α → Prop} {l : List α} {k : Nat} (h : k < l.length) (d : α) : (∀ x ∈ l.take (k+1), p x) ↔ (∀ x ∈ l.take k, p x) ∧ p (l.getD k d) := by
  rw [List.take_succ_eq_append_getElem h]
  simp only [List.mem_append, List.mem_singleton, or_imp, forall_and, forall_eq, List.getD, List.getElem?_eq_getElem h, Option.getD_some]

theorem getD_mem {α : Type} {l : List α} {k : Nat} (h : k < l.length) (d : α) : l.getD k d ∈ l := by
  simp [List.getD, List.getElem?_eq_getElem h]

theorem take_all {α : Type} {l : List α} {k : Nat} (h : l.length ≤ k) : l.take k = l := List.take_of_length_le h


theorem different_sat {nl : Option Bool} {list : List Int} (hl : list.length < 1000000000) : SatAt Try.prog 78 [.pv false (.sl nl 1 (list.map intP))] [] (fun res rows => res = [bo (decide list.Nodup)] ∧ rows = []) := by
  refine sat_entry (ts := [2]) Try.func78 rfl rfl (by decide) (Nat.le_of_ble_eq_true rfl) fun C hC => ?_
  rw [Try.ntmps78]
  replace hC : C.nb = 0 := hC
  refine vc_seq fun K1 hK1 => ?_
  refine vc_region ?_
  refine vo_assign_pv rfl rfl ?_
  refine vo_nil ?_
  refine hK1 _ ?_
  refine vc_seq fun K2 hK2 => ?_
  refine vc_seq fun K3 hK3 => ?_
  refine vc_region ?_
  refine vo_assign_pv rfl rfl ?_
  refine vo_nil ?_
  refine hK3 _ ?_
  refine vc_block ?_
  refine vc_st (by simp only [St.put, exposeE, killE, SV.expose, SV.kill, Row.expose, Row.kill, rowsAfter_nil, rowsAfter_one, packS, SV.shift, placeOf, enumE, List.zip_cons_cons, List.zip_nil_right, List.map_cons, List.map_nil, List.set_cons_zero, List.set_cons_succ, List.length_cons, List.length_nil, List.cons_append, List.nil_append, List.drop_succ_cons, List.drop_zero, List.drop_nil, List.getElem?_cons_zero, List.getElem?_cons_succ, List.getElem?_nil, Option.getD_some, Option.getD_none, Option.map_some, Option.map_none, Nat.reduceAdd, Nat.reduceSub, Nat.reduceEqDiff, Nat.zero_add, Bool.true_or, PV.scal, Bool.or_false, Bool.or_true, Bool.false_or, Bool.and_true, Bool.and_false, Bool.true_and, reduceIte, reduceCtorEq]; exact eq_refl _) ?_
  refine vc_loop [0, 3] (fun m vs rows => ∃ (k : Nat), m = list.length - k ∧ k ≤ list.length ∧ (list.take k).Nodup ∧ vs = [.pv false (.sl nl 1 (list.map intP)), i64 k] ∧ rows = []) (list.length) (le_len hC rfl) ⟨rfl, rfl⟩ ⟨0, rfl, Nat.zero_le _, List.nodup_nil, rfl, rfl⟩ ?_
  rintro m vs rows - - ⟨k, rfl, hk, hf, rfl, rfl⟩
  refine vc_seq fun K4 hK4 => ?_
  refine vc_seq fun K5 hK5 => ?_
  refine vc_region ?_
  refine vo_move_pv rfl rfl ?_
  refine vo_move_pv rfl rfl ?_
  refine vo_len_pv rfl rfl Try.underlying27 ?_
  refine vo_binI rfl rfl rfl rfl trivial ?_
  refine vo_nil ?_
  refine hK5 _ ?_
  refine vc_cond rfl (fun hc1 => ?_) (fun hc1 => ?_)
  · try simp only [decide_eq_true_eq, decide_eq_false_iff_not, beq_iff_eq, bne_iff_ne, beq_eq_false_iff_ne, bne_eq_false_iff_eq, Bool.not_eq_true, Bool.not_eq_false, Bool.not_eq_eq_eq_not, Bool.not_true, Bool.not_false, List.length_map, Int.not_lt, Int.not_le, ne_eq, Decidable.not_not] at hc1
    refine vc_skip ?_
    refine hK4 _ ?_
    refine vc_seq fun K6 hK6 => ?_
    refine vc_block ?_
    refine vc_seq fun K7 hK7 => ?_
    refine vc_draw (by kernel_rfl) ?_
    change VD _ _ _ 9 _ _ _
    refine vd_light 0 rfl rfl rfl (by kernel_rfl) (by kernel_rfl) (by kernel_rfl) (wnt_none rfl) (lt_move_pv rfl) ?_
    refine vd_light 1 rfl rfl rfl (by kernel_rfl) (by kernel_rfl) (by kernel_rfl) (wnt_none rfl) (lt_move_pv rfl) ?_
    refine vd_light 2 rfl rfl rfl (by kernel_rfl) (by kernel_rfl) (by kernel_rfl) (wnt_none rfl) (lt_slice_pv rfl rfl rfl E27.und inf3 sz3 (by first | omega | (simp <;> omega) | (constructor <;> (first | omega | (simp <;> omega))) | (refine ⟨?_, ?_, ?_, ?_⟩ <;> omega) | exact ⟨xorI_nonneg _ _, by omega⟩ | decide) (by first | omega | (simp <;> omega) | (constructor <;> (first | omega | (simp <;> omega))) | (refine ⟨?_, ?_, ?_, ?_⟩ <;> omega) | exact ⟨xorI_nonneg _ _, by omega⟩ | decide) (by first | omega | (simp <;> omega) | (constructor <;> (first | omega | (simp <;> omega))) | (refine ⟨?_, ?_, ?_, ?_⟩ <;> omega) | exact ⟨xorI_nonneg _ _, by omega⟩ | decide)) ?_
    simp only [Int.toNat_natCast, Int.toNat_zero, List.drop_zero, Nat.sub_zero, ← List.map_drop, ← List.map_take]
    refine vd_light 3 rfl rfl rfl (by kernel_rfl) (by kernel_rfl) (by kernel_rfl) (wnt_none rfl) (lt_move_pv rfl) ?_
    refine vd_light 4 rfl rfl rfl (by kernel_rfl) (by kernel_rfl) (by kernel_rfl) (wnt_none rfl) (lt_move_pv rfl) ?_
    refine vd_light 5 rfl rfl rfl (by kernel_rfl) (by kernel_rfl) (by kernel_rfl) (wnt_none rfl) (lt_index_pv (.int .i64 0) rfl rfl E27.und inf3 sz3 (by first | omega | (simp <;> omega) | (constructor <;> (first | omega | (simp <;> omega))) | (refine ⟨?_, ?_, ?_, ?_⟩ <;> omega) | exact ⟨xorI_nonneg _ _, by omega⟩ | decide) (by first | omega | (simp <;> omega) | (constructor <;> (first | omega | (simp <;> omega))) | (refine ⟨?_, ?_, ?_, ?_⟩ <;> omega) | exact ⟨xorI_nonneg _ _, by omega⟩ | decide)) ?_
    simp only [Int.toNat_natCast, Int.toNat_zero, getD_ints, getD_intss, getD_bools, getD_bytes, PV.cells]
    refine vd_light 6 rfl rfl rfl (by kernel_rfl) (by kernel_rfl) (by kernel_rfl) (wnt_none rfl) (lt_load_adr rfl Try.underlying3 rfl) ?_
    refine vd_call 7 rfl (by kernel_rfl) (wnt_none rfl) Try.func63 rfl rfl rfl rfl (placeIn_sat (by simp; omega)) ?_
    rintro _ _ ⟨rfl, rfl⟩
    refine ⟨rfl, rfl, .inl rfl, ?_⟩
    refine vd_light 8 rfl rfl rfl (by kernel_rfl) (by kernel_rfl) (by kernel_rfl) (wnt_none rfl) (lt_binI rfl rfl rfl trivial) ?_
    refine vd_nil (by kernel_rfl) ?_
    refine hK7 _ ?_
    refine vc_cond rfl (fun hc2 => ?_) (fun hc2 => ?_)
    · try simp only [decide_eq_true_eq, decide_eq_false_iff_not, beq_iff_eq, bne_iff_ne, beq_eq_false_iff_ne, bne_eq_false_iff_eq, Bool.not_eq_true, Bool.not_eq_false, Bool.not_eq_eq_eq_not, Bool.not_true, Bool.not_false, List.length_map, Int.not_lt, Int.not_le, ne_eq, Decidable.not_not] at hc2
      refine vc_seq fun K8 hK8 => ?_
      refine vc_region ?_
      refine vo_assign_pv rfl rfl ?_
      refine vo_nil ?_
      refine hK8 _ ?_
      refine vc_ret ?_
      change retPv _ _ _ _ _
      refine retPv_mk rfl rfl rfl ⟨?_, rfl⟩
      refine (congrArg (fun b => [bo b]) (?_ : _ = _) : [bo _] = [bo _])
      refine (decide_eq_false fun h => ?_).symm
      exact ((nodup_take_succ (by omega) 0).1 (nodup_take (k+1) h)).2 ((findM_mem _ _ _ (by omega)).1 hc2)
    · try simp only [decide_eq_true_eq, decide_eq_false_iff_not, beq_iff_eq, bne_iff_ne, beq_eq_false_iff_ne, bne_eq_false_iff_eq, Bool.not_eq_true, Bool.not_eq_false, Bool.not_eq_eq_eq_not, Bool.not_true, Bool.not_false, List.length_map, Int.not_lt, Int.not_le, ne_eq, Decidable.not_not] at hc2
      refine vc_skip ?_
      refine hK6 _ ?_
      refine vc_region ?_
      refine vo_move_pv rfl rfl ?_
      refine vo_binI rfl rfl rfl rfl (by first | omega | (simp <;> omega) | (constructor <;> (first | omega | (simp <;> omega))) | (refine ⟨?_, ?_, ?_, ?_⟩ <;> omega) | exact ⟨xorI_nonneg _ _, by omega⟩ | decide) ?_
      refine vo_assign_pv rfl rfl ?_
      refine vo_nil ?_
      change again _ _ _ _ _ _
      refine again_mk rfl rfl rfl rfl ⟨_, ?_, k + 1, rfl, ?_, ?_, rfl, rfl⟩
      · omega
      · omega
      · exact (nodup_take_succ (by omega) 0).2 ⟨hf, (findM_not _ _ _ (by omega)).1 hc2⟩
  · try simp only [decide_eq_true_eq, decide_eq_false_iff_not, beq_iff_eq, bne_iff_ne, beq_eq_false_iff_ne, bne_eq_false_iff_eq, Bool.not_eq_true, Bool.not_eq_false, Bool.not_eq_eq_eq_not, Bool.not_true, Bool.not_false, List.length_map, Int.not_lt, Int.not_le, ne_eq, Decidable.not_not] at hc1
    refine vc_exit ?_
    refine hK2 _ ?_
    refine vc_seq fun K9 hK9 => ?_
    refine vc_region ?_
    refine vo_assign_pv rfl rfl ?_
    refine vo_nil ?_
    refine hK9 _ ?_
    refine vc_ret ?_
    change retPv _ _ _ _ _
    refine retPv_mk rfl rfl rfl ⟨?_, rfl⟩
    refine (congrArg (fun b => [bo b]) (?_ : _ = _) : [bo _] = [bo _])
    rw [take_all (by omega)] at hf
    exact (decide_eq_true hf).symm


theorem inRange_sat {n low high : Int} : SatAt Try.prog 80 [i64 n, i64 low, i64 high] [] (fun res rows => res = [bo (decide (low ≤ n ∧ n ≤ high))] ∧ rows = []) := by
  refine sat_entry (ts := [6]) Try.func80 rfl rfl (by decide) (Nat.le_of_ble_eq_true rfl) fun C hC => ?_
  rw [Try.ntmps80]
  replace hC : C.nb = 0 := hC
  refine vc_seq fun K1 hK1 => ?_
  refine vc_region ?_
  refine vo_assign_pv rfl rfl ?_
  refine vo_nil ?_
  refine hK1 _ ?_
  refine vc_seq fun K2 hK2 => ?_
  refine vc_region ?_
  refine vo_move_pv rfl rfl ?_
  refine vo_move_pv rfl rfl ?_
  refine vo_binI rfl rfl rfl rfl trivial ?_
  refine vo_move_pv rfl rfl ?_
  refine vo_split 10 rfl (fun hg1 => ?_) (fun hg1 => ?_)
  · try simp only [decide_eq_true_eq, decide_eq_false_iff_not, beq_iff_eq, bne_iff_ne, beq_eq_false_iff_ne, bne_eq_false_iff_eq, Bool.not_eq_true, Bool.not_eq_false, Bool.not_eq_eq_eq_not, Bool.not_true, Bool.not_false, List.length_map, Int.not_lt, Int.not_le, ne_eq, Decidable.not_not] at hg1
    refine vo_guard_on rfl rfl rfl ?_
    refine vo_move_pv rfl rfl ?_
    refine vo_guard_on rfl rfl rfl ?_
    refine vo_move_pv rfl rfl ?_
    refine vo_guard_on rfl rfl rfl ?_
    refine vo_binI rfl rfl rfl rfl trivial ?_
    refine vo_pick_t rfl rfl ?_
    refine vo_assign_pv rfl rfl ?_
    refine vo_nil ?_
    refine hK2 _ ?_
    refine vc_ret ?_
    change retPv _ _ _ _ _
    refine retPv_mk rfl rfl rfl ⟨?_, rfl⟩
    refine (congrArg (fun b => [bo b]) (?_ : _ = _) : [bo _] = [bo _])
    simp_all <;> omega
  · try simp only [decide_eq_true_eq, decide_eq_false_iff_not, beq_iff_eq, bne_iff_ne, beq_eq_false_iff_ne, bne_eq_false_iff_eq, Bool.not_eq_true, Bool.not_eq_false, Bool.not_eq_eq_eq_not, Bool.not_true, Bool.not_false, List.length_map, Int.not_lt, Int.not_le, ne_eq, Decidable.not_not] at hg1
    refine vo_guard_off rfl rfl rfl rfl rfl ?_
    refine vo_guard_off rfl rfl rfl rfl rfl ?_
    refine vo_guard_off rfl rfl rfl rfl rfl ?_
    refine vo_pick_f rfl rfl ?_
    refine vo_assign_pv rfl rfl ?_
    refine vo_nil ?_
    refine hK2 _ ?_
    refine vc_ret ?_
    change retPv _ _ _ _ _
    refine retPv_mk rfl rfl rfl ⟨?_, rfl⟩
    refine (congrArg (fun b => [bo b]) (?_ : _ = _) : [bo _] = [bo _])
    simp_all <;> omega


theorem allIn_sat {nl : Option Bool} {list : List Int} {low high : Int} (hl : list.length < 1000000000) : SatAt Try.prog 79 [.pv false (.sl nl 1 (list.map intP)), i64 low, i64 high] [] (fun res rows => res = [bo (decide (∀ x ∈ list, low ≤ x ∧ x ≤ high))] ∧ rows = []) := by
  refine sat_entry (ts := [6]) Try.func79 rfl rfl (by decide) (Nat.le_of_ble_eq_true rfl) fun C hC => ?_
  rw [Try.ntmps79]
  replace hC : C.nb = 0 := hC
  refine vc_seq fun K1 hK1 => ?_
  refine vc_region ?_
  refine vo_assign_pv rfl rfl ?_
  refine vo_nil ?_
  refine hK1 _ ?_
  refine vc_seq fun K2 hK2 => ?_
  refine vc_seq fun K3 hK3 => ?_
  refine vc_region ?_
  refine vo_assign_pv rfl rfl ?_
  refine vo_nil ?_
  refine hK3 _ ?_
  refine vc_block ?_
  refine vc_st (by simp only [St.put, exposeE, killE, SV.expose, SV.kill, Row.expose, Row.kill, rowsAfter_nil, rowsAfter_one, packS, SV.shift, placeOf, enumE, List.zip_cons_cons, List.zip_nil_right, List.map_cons, List.map_nil, List.set_cons_zero, List.set_cons_succ, List.length_cons, List.length_nil, List.cons_append, List.nil_append, List.drop_succ_cons, List.drop_zero, List.drop_nil, List.getElem?_cons_zero, List.getElem?_cons_succ, List.getElem?_nil, Option.getD_some, Option.getD_none, Option.map_some, Option.map_none, Nat.reduceAdd, Nat.reduceSub, Nat.reduceEqDiff, Nat.zero_add, Bool.true_or, PV.scal, Bool.or_false, Bool.or_true, Bool.false_or, Bool.and_true, Bool.and_false, Bool.true_and, reduceIte, reduceCtorEq]; exact eq_refl _) ?_
  refine vc_loop [0, 1, 2, 7] (fun m vs rows => ∃ (k : Nat), m = list.length - k ∧ k ≤ list.length ∧ (∀ x ∈ list.take k, low ≤ x ∧ x ≤ high) ∧ vs = [.pv false (.sl nl 1 (list.map intP)), i64 low, i64 high, i64 k] ∧ rows = []) (list.length) (le_len hC rfl) ⟨rfl, rfl⟩ ⟨0, rfl, Nat.zero_le _, by simp, rfl, rfl⟩ ?_
  rintro m vs rows - - ⟨k, rfl, hk, hf, rfl, rfl⟩
  refine vc_seq fun K4 hK4 => ?_
  refine vc_seq fun K5 hK5 => ?_
  refine vc_region ?_
  refine vo_move_pv rfl rfl ?_
  refine vo_move_pv rfl rfl ?_
  refine vo_len_pv rfl rfl Try.underlying27 ?_
  refine vo_binI rfl rfl rfl rfl trivial ?_
  refine vo_nil ?_
  refine hK5 _ ?_
  refine vc_cond rfl (fun hc1 => ?_) (fun hc1 => ?_)
  · try simp only [decide_eq_true_eq, decide_eq_false_iff_not, beq_iff_eq, bne_iff_ne, beq_eq_false_iff_ne, bne_eq_false_iff_eq, Bool.not_eq_true, Bool.not_eq_false, Bool.not_eq_eq_eq_not, Bool.not_true, Bool.not_false, List.length_map, Int.not_lt, Int.not_le, ne_eq, Decidable.not_not] at hc1
    refine vc_skip ?_
    refine hK4 _ ?_
    refine vc_seq fun K6 hK6 => ?_
    refine vc_block ?_
    refine vc_seq fun K7 hK7 => ?_
    refine vc_region ?_
    refine vo_move_pv rfl rfl ?_
    refine vo_move_pv rfl rfl ?_
    refine vo_index_pv (.int .i64 0) rfl rfl rfl E27.und inf3 sz3 (by first | omega | (simp <;> omega) | (constructor <;> (first | omega | (simp <;> omega))) | (refine ⟨?_, ?_, ?_, ?_⟩ <;> omega) | exact ⟨xorI_nonneg _ _, by omega⟩ | decide) (by first | omega | (simp <;> omega) | (constructor <;> (first | omega | (simp <;> omega))) | (refine ⟨?_, ?_, ?_, ?_⟩ <;> omega) | exact ⟨xorI_nonneg _ _, by omega⟩ | decide) ?_
    simp only [Int.toNat_natCast, Int.toNat_zero, getD_ints, getD_intss, getD_bools, getD_bytes, PV.cells]
    refine vo_load_adr rfl rfl Try.underlying3 rfl ?_
    refine vo_move_pv rfl rfl ?_
    refine vo_move_pv rfl rfl ?_
    refine vo_call0 Try.func80 rfl rfl rfl rfl inRange_sat ?_
    rintro _ _ ⟨rfl, rfl⟩
    refine ⟨rfl, rfl, .inl rfl, ?_⟩
    refine vo_not rfl rfl ?_
    refine vo_nil ?_
    refine hK7 _ ?_
    refine vc_cond rfl (fun hc2 => ?_) (fun hc2 => ?_)
    · try simp only [decide_eq_true_eq, decide_eq_false_iff_not, beq_iff_eq, bne_iff_ne, beq_eq_false_iff_ne, bne_eq_false_iff_eq, Bool.not_eq_true, Bool.not_eq_false, Bool.not_eq_eq_eq_not, Bool.not_true, Bool.not_false, List.length_map, Int.not_lt, Int.not_le, ne_eq, Decidable.not_not] at hc2
      refine vc_seq fun K8 hK8 => ?_
      refine vc_region ?_
      refine vo_assign_pv rfl rfl ?_
      refine vo_nil ?_
      refine hK8 _ ?_
      refine vc_ret ?_
      change retPv _ _ _ _ _
      refine retPv_mk rfl rfl rfl ⟨?_, rfl⟩
      refine (congrArg (fun b => [bo b]) (?_ : _ = _) : [bo _] = [bo _])
      refine (decide_eq_false fun h => ?_).symm
      have h1 := h _ (getD_mem (show k < list.length by omega) 0)
      simp_all
    · try simp only [decide_eq_true_eq, decide_eq_false_iff_not, beq_iff_eq, bne_iff_ne, beq_eq_false_iff_ne, bne_eq_false_iff_eq, Bool.not_eq_true, Bool.not_eq_false, Bool.not_eq_eq_eq_not, Bool.not_true, Bool.not_false, List.length_map, Int.not_lt, Int.not_le, ne_eq, Decidable.not_not] at hc2
      refine vc_skip ?_
      refine hK6 _ ?_
      refine vc_region ?_
      refine vo_move_pv rfl rfl ?_
      refine vo_binI rfl rfl rfl rfl (by first | omega | (simp <;> omega) | (constructor <;> (first | omega | (simp <;> omega))) | (refine ⟨?_, ?_, ?_, ?_⟩ <;> omega) | exact ⟨xorI_nonneg _ _, by omega⟩ | decide) ?_
      refine vo_assign_pv rfl rfl ?_
      refine vo_nil ?_
      change again _ _ _ _ _ _
      refine again_mk rfl rfl rfl rfl ⟨_, ?_, k + 1, rfl, ?_, ?_, rfl, rfl⟩
      · omega
      · omega
      · exact (all_take_succ (by omega) 0).2 ⟨hf, by simpa using hc2⟩
  · try simp only [decide_eq_true_eq, decide_eq_false_iff_not, beq_iff_eq, bne_iff_ne, beq_eq_false_iff_ne, bne_eq_false_iff_eq, Bool.not_eq_true, Bool.not_eq_false, Bool.not_eq_eq_eq_not, Bool.not_true, Bool.not_false, List.length_map, Int.not_lt, Int.not_le, ne_eq, Decidable.not_not] at hc1
    refine vc_exit ?_
    refine hK2 _ ?_
    refine vc_seq fun K9 hK9 => ?_
    refine vc_region ?_
    refine vo_assign_pv rfl rfl ?_
    refine vo_nil ?_
    refine hK9 _ ?_
    refine vc_ret ?_
    change retPv _ _ _ _ _
    refine retPv_mk rfl rfl rfl ⟨?_, rfl⟩
    refine (congrArg (fun b => [bo b]) (?_ : _ = _) : [bo _] = [bo _])
    rw [take_all (by omega)] at hf
    exact (decide_eq_true hf).symm

end Go.Vl
