import Derived.Test.YtfdokliebmeplacVlacT15
namespace Go.Vl
set_option linter.unusedVariables false
set_option linter.unusedSimpArgs false
open Go.Proofs
theorem onceF_snoc : ∀ (l acc : List Int) (x : Int), onceF acc (l ++ [x]) = if x ∈ onceF acc l then onceF acc l else onceF acc l ++ [x]
  | [], acc, x => rfl
  | y :: l, acc, x => onceF_snoc l (if y ∈ acc then acc else acc ++ [y]) x
theorem mgR_no {ls : List (List Int)} (h : ¬ mgOK ls) : mgR ls = [] := if_neg h
theorem mgR_yes {ls : List (List Int)} (h : mgOK ls) : mgR ls = (mergeM ls).1 := if_pos h
theorem skR_no {ls : List (List Int)} (h : ¬ OKLs ls) : skR ls = [] := if_neg h
theorem skR_yes {ls : List (List Int)} (h : OKLs ls) : skR ls = onceF [] (hds (mergeM ls).2) := if_pos h
theorem mgL_all {ls : List (List Int)} {N : Nat} (h : ∀ l ∈ ls, l.length < N) : ∀ l ∈ (mergeM ls).2, l.length < N := mgL_mem _ _ h
theorem mgO_len (ls : List (List Int)) : (mergeM ls).1.length ≤ tot ls := by have := mergeF_tot (tot ls) ls; unfold mergeM; omega
theorem mgR_len {ls : List (List Int)} : (mgR ls).length < 1000000000 := by
  by_cases h : mgOK ls
  · rw [mgR_yes h]; exact Nat.lt_of_le_of_lt (mgO_len ls) h.1.tot
  · rw [mgR_no h]; simp
theorem once0 {l : List Int} (h : ¬ 0 < (onceF [] l).length) : l = [] := once_nil.1 (List.eq_nil_of_length_eq_zero (by omega))
theorem once1 {l : List Int} (h : 0 < (onceF [] l).length) : l ≠ [] := fun e => by rw [e] at h; simp [onceF] at h
theorem skR_len {ls : List (List Int)} (hl : ls.length < 1000000000) : (skR ls).length < 1000000000 := by
  by_cases h : OKLs ls
  · rw [skR_yes h]
    have h1 := onceL_len (hds (mergeM ls).2)
    have h2 := hds_len (mergeM ls).2
    rw [mgL_len] at h2
    omega
  · rw [skR_no h]; simp
theorem once_take {ls : List (List Int)} {k : Nat} (h : k < ls.length) (h1 : 0 < (ls.getD k []).length) : onceF [] (hds (ls.take (k+1))) = if (ls.getD k []).getD 0 0 ∈ onceF [] (hds (ls.take k)) then onceF [] (hds (ls.take k)) else onceF [] (hds (ls.take k)) ++ [(ls.getD k []).getD 0 0] := by
  rw [hds_snoc h, hd1_t h1, onceF_snoc]
theorem once_keep {ls : List (List Int)} {k : Nat} (h : k < ls.length) (h1 : ¬ 0 < (ls.getD k []).length) : onceF [] (hds (ls.take (k+1))) = onceF [] (hds (ls.take k)) := by rw [hds_snoc h, hd1_f h1, List.append_nil]

theorem implMergeLists_sat {nl0 : Option Bool} {lists : List (List Int)} (hlists : lists.length < 1000000000) (hllists : ∀ l ∈ lists, l.length < 1000000000) : SatAt Try.prog 105 [.pv false (.sl nl0 1 (lists.map ints))] [] (fun res rows => ∃ nl, res = [.ref 0, bo (decide (mgOK lists))] ∧ rows = [Row.own 3 1 nl true ((mgR lists).map intP)]) := by
  refine sat_entry_g (ts := [2, 3]) Try.func105 rfl rfl (by decide) (Nat.le_of_ble_eq_true rfl) fun C hC => ?_
  rw [Try.ntmps105]
  replace hC : C.nb = 0 := hC
  refine vc_seq fun K1 hK1 => ?_
  refine vc_region ?_
  refine vo_assign_pv rfl rfl ?_
  refine vo_assign_pv rfl rfl ?_
  refine vo_nil ?_
  refine hK1 _ ?_
  refine vc_seq fun K2 hK2 => ?_
  refine vc_seq fun K3 hK3 => ?_
  refine vc_region ?_
  refine vo_move_pv rfl rfl ?_
  refine vo_call0 Try.func113 rfl rfl rfl rfl (canMerge_sat hlists hllists) ?_
  rintro _ _ ⟨rfl, rfl⟩
  refine ⟨rfl, rfl, .inl rfl, ?_⟩
  refine vo_not rfl rfl ?_
  refine vo_nil ?_
  refine hK3 _ ?_
  refine vc_cond rfl (fun hc1 => ?_) (fun hc1 => ?_)
  · try simp only [decide_eq_true_eq, decide_eq_false_iff_not, beq_iff_eq, bne_iff_ne, beq_eq_false_iff_ne, bne_eq_false_iff_eq, Bool.not_eq_true, Bool.not_eq_false, Bool.not_eq_eq_eq_not, Bool.not_true, Bool.not_false, List.length_map, Int.not_lt, Int.not_le, ne_eq, Decidable.not_not] at hc1
    refine vc_seq fun K4 hK4 => ?_
    refine vc_region ?_
    refine vo_assign_pv rfl rfl ?_
    refine vo_assign_pv rfl rfl ?_
    refine vo_nil ?_
    refine hK4 _ ?_
    refine vc_own_nil 2 E34 rfl ?_
    refine vc_ret ?_
    change retG _ _ _ _ _
    refine retG_one 0 hC rfl rfl rfl rfl rfl ?_
    exact ⟨_, congrArg (fun b => [SV.ref 0, bo b]) (bF fun h => hc1 h.1), rows_eq (g := intP) ((mgR_no fun h => hc1 h.1).symm)⟩
  · try simp only [decide_eq_true_eq, decide_eq_false_iff_not, beq_iff_eq, bne_iff_ne, beq_eq_false_iff_ne, bne_eq_false_iff_eq, Bool.not_eq_true, Bool.not_eq_false, Bool.not_eq_eq_eq_not, Bool.not_true, Bool.not_false, List.length_map, Int.not_lt, Int.not_le, ne_eq, Decidable.not_not] at hc1
    refine vc_skip ?_
    refine hK2 _ ?_
    refine vc_seq fun K5 hK5 => ?_
    refine vc_region ?_
    refine vo_move_pv rfl rfl ?_
    refine vo_call [] Try.func114 rfl rfl rfl rfl rfl rfl rfl (mergeAll_sat hlists hllists hc1.tot) ?_
    rintro _ _ ⟨rfl, rfl⟩
    refine ⟨Nat.le_of_ble_eq_true rfl, ⟨rfl, rfl, rfl⟩, .inl rfl, ?_⟩
    refine vo_st (by (try simp only [St.put, exposeE, killE, SV.expose, SV.kill, Row.expose, Row.kill, rowsAfter_nil, rowsAfter_one, packS, SV.shift, placeOf, enumE, List.zip_cons_cons, List.zip_nil_right, List.map_cons, List.map_nil, List.set_cons_zero, List.set_cons_succ, List.length_cons, List.length_nil, List.cons_append, List.nil_append, List.drop_succ_cons, List.drop_zero, List.drop_nil, List.take_succ_cons, List.take_zero, List.take_nil, List.getElem?_cons_zero, List.getElem?_cons_succ, List.getElem?_nil, Option.getD_some, Option.getD_none, Option.map_some, Option.map_none, Nat.reduceAdd, Nat.reduceSub, Nat.reduceEqDiff, Nat.zero_add, Bool.true_or, PV.scal, Bool.or_false, Bool.or_true, Bool.false_or, Bool.and_true, Bool.and_false, Bool.true_and, reduceIte, reduceCtorEq]); exact eq_refl _) ?_
    refine vo_move rfl ?_
    refine vo_extract rfl rfl rfl ?_
    refine vo_extract rfl rfl rfl ?_
    refine vo_assign_ref rfl rfl ?_
    refine vo_assign_pv rfl rfl ?_
    refine vo_nil ?_
    refine hK5 _ ?_
    refine vc_seq fun K6 hK6 => ?_
    refine vc_seq fun K7 hK7 => ?_
    refine vc_region ?_
    refine vo_move_pv rfl rfl ?_
    refine vo_call [] Try.func115 rfl rfl rfl rfl rfl rfl rfl (heads_sat (lists := (mergeM lists).2) (by rw [mgL_len]; omega) (mgL_all hllists)) ?_
    rintro _ _ ⟨nl9, rfl, rfl⟩
    refine ⟨Nat.le_of_ble_eq_true rfl, ⟨rfl, rfl, rfl⟩, .inl rfl, ?_⟩
    refine vo_st (by (try simp only [St.put, exposeE, killE, SV.expose, SV.kill, Row.expose, Row.kill, rowsAfter_nil, rowsAfter_one, packS, SV.shift, placeOf, enumE, List.zip_cons_cons, List.zip_nil_right, List.map_cons, List.map_nil, List.set_cons_zero, List.set_cons_succ, List.length_cons, List.length_nil, List.cons_append, List.nil_append, List.drop_succ_cons, List.drop_zero, List.drop_nil, List.take_succ_cons, List.take_zero, List.take_nil, List.getElem?_cons_zero, List.getElem?_cons_succ, List.getElem?_nil, Option.getD_some, Option.getD_none, Option.map_some, Option.map_none, Nat.reduceAdd, Nat.reduceSub, Nat.reduceEqDiff, Nat.zero_add, Bool.true_or, PV.scal, Bool.or_false, Bool.or_true, Bool.false_or, Bool.and_true, Bool.and_false, Bool.true_and, reduceIte, reduceCtorEq]); exact eq_refl _) ?_
    refine vo_len_ref rfl rfl rfl Try.underlying34 ?_
    refine vo_binI rfl rfl rfl rfl trivial ?_
    refine vo_nil ?_
    refine hK7 _ ?_
    refine vc_cond rfl (fun hc2 => ?_) (fun hc2 => ?_)
    · try simp only [decide_eq_true_eq, decide_eq_false_iff_not, beq_iff_eq, bne_iff_ne, beq_eq_false_iff_ne, bne_eq_false_iff_eq, Bool.not_eq_true, Bool.not_eq_false, Bool.not_eq_eq_eq_not, Bool.not_true, Bool.not_false, List.length_map, Int.not_lt, Int.not_le, ne_eq, Decidable.not_not] at hc2
      refine vc_seq fun K8 hK8 => ?_
      refine vc_region ?_
      refine vo_assign_pv rfl rfl ?_
      refine vo_assign_pv rfl rfl ?_
      refine vo_nil ?_
      refine hK8 _ ?_
      refine vc_own_nil 2 E34 rfl ?_
      refine vc_ret ?_
      change retG _ _ _ _ _
      refine retG_one 2 hC rfl rfl rfl rfl rfl ?_
      exact ⟨_, congrArg (fun b => [SV.ref 0, bo b]) (bF fun h => once1 (by omega) h.2), rows_eq (g := intP) ((mgR_no fun h => once1 (by omega) h.2).symm)⟩
    · try simp only [decide_eq_true_eq, decide_eq_false_iff_not, beq_iff_eq, bne_iff_ne, beq_eq_false_iff_ne, bne_eq_false_iff_eq, Bool.not_eq_true, Bool.not_eq_false, Bool.not_eq_eq_eq_not, Bool.not_true, Bool.not_false, List.length_map, Int.not_lt, Int.not_le, ne_eq, Decidable.not_not] at hc2
      refine vc_skip ?_
      refine hK6 _ ?_
      refine vc_seq fun K9 hK9 => ?_
      refine vc_region ?_
      refine vo_move_ref rfl rfl ?_
      refine vo_assign_ref rfl rfl ?_
      refine vo_assign_pv rfl rfl ?_
      refine vo_nil ?_
      refine hK9 _ ?_
      refine vc_ret ?_
      change retG _ _ _ _ _
      refine retG_one 0 hC rfl rfl rfl rfl rfl ?_
      exact ⟨_, congrArg (fun b => [SV.ref 0, bo b]) (bT ⟨hc1, once0 (by omega)⟩), rows_eq (g := intP) ((mgR_yes ⟨hc1, once0 (by omega)⟩).symm)⟩

end Go.Vl
