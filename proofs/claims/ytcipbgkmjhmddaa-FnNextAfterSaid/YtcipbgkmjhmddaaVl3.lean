/- Part 3 of the texts that the proof of FnNextAfter is built on. -/
import Derived.Test.YtcipbgkmjhmddaaVl2
namespace Go.Vl
set_option linter.unusedVariables false
set_option linter.unusedSimpArgs false
open Go.Proofs
theorem tot_le {K : Nat} : ∀ {ls : List (List Int)}, (∀ l ∈ ls, l.length ≤ K) → tot ls ≤ ls.length * K
  | [], _ => Nat.zero_le _
  | a :: r, h => by
    have h1 := tot_le (ls := r) (fun l hl => h l (List.mem_cons_of_mem _ hl))
    have h2 := h a List.mem_cons_self
    simp only [tot, List.map_cons, List.sum_cons, List.length_cons, Nat.add_mul] at h1 ⊢
    omega
theorem OKLs.tot {ls : List (List Int)} (h : OKLs ls) : tot ls < 1000000000 := by
  have h1 := tot_le (K := 12) (ls := ls) (fun l hl => by have := (h.1 l hl).1; omega)
  have := h.2
  omega
theorem mgL_len (ls : List (List Int)) : (mergeM ls).2.length = ls.length := mergeF_len _ _
theorem mgL_mem {N : Nat} : ∀ (n : Nat) (ls : List (List Int)), (∀ l ∈ ls, l.length < N) → ∀ l ∈ (mergeF n ls).2, l.length < N
  | 0, ls, h => h
  | n+1, ls, h => by
    unfold mergeF
    split
    · exact h
    · exact mgL_mem n _ (mg_len h)
def mgOK (ls : List (List Int)) : Prop := OKLs ls ∧ hds (mergeM ls).2 = []
instance {ls : List (List Int)} : Decidable (mgOK ls) := by unfold mgOK; infer_instance
def mgR (ls : List (List Int)) : List Int := if mgOK ls then (mergeM ls).1 else []
def skR (ls : List (List Int)) : List Int := if OKLs ls then onceF [] (hds (mergeM ls).2) else []
theorem hds_take0 {ls : List (List Int)} {k : Nat} (h : k < ls.length) (h0 : hds (ls.take k) = []) (h1 : ¬ 0 < (ls.getD k []).length) : hds (ls.take (k+1)) = [] := by rw [hds_snoc h, h0, hd1_f h1]; rfl
theorem hds_ne {ls : List (List Int)} {k : Nat} (h : k < ls.length) (h1 : 0 < (ls.getD k []).length) : hds ls ≠ [] := by
  intro e
  have := hds_nil.1 e _ (getD_mem h [])
  rw [this] at h1; simp at h1
theorem hdsL (ls : List (List Int)) (k : Nat) : (hds (ls.take k)).length ≤ k := Nat.le_trans (hds_len _) (by rw [List.length_take]; omega)

theorem canMerge_sat {nl0 : Option Bool} {lists : List (List Int)} (hlists : lists.length < 1000000000) (hllists : ∀ l ∈ lists, l.length < 1000000000)  : SatAt Try.prog 174 [.pv false (.sl nl0 1 (lists.map ints))] [] (fun res rows => res = [bo (decide (OKLs lists))] ∧ rows = []) := by
  refine sat_entry (ts := [2]) Try.func174 rfl rfl (by decide) (Nat.le_of_ble_eq_true rfl) fun C hC => ?_
  rw [Try.ntmps174]
  replace hC : C.nb = 0 := hC
  refine vc_seq fun K1 hK1 => ?_
  refine vc_region ?_
  refine vo_assign_pv rfl rfl ?_
  refine vo_nil ?_
  refine hK1 _ ?_
  refine vc_seq fun K2 hK2 => ?_
  refine vc_seq fun K3 hK3 => ?_
  refine vc_region ?_
  refine vo_move_pv rfl rfl ?_
  refine vo_len_pv rfl rfl Try.underlying22 ?_
  refine vo_binI rfl rfl rfl rfl trivial ?_
  refine vo_nil ?_
  refine hK3 _ ?_
  refine vc_cond rfl (fun hc1 => ?_) (fun hc1 => ?_)
  · try simp only [decide_eq_true_eq, decide_eq_false_iff_not, beq_iff_eq, bne_iff_ne, beq_eq_false_iff_ne, bne_eq_false_iff_eq, Bool.not_eq_true, Bool.not_eq_false, Bool.not_eq_eq_eq_not, Bool.not_true, Bool.not_false, List.length_map, Int.not_lt, Int.not_le, ne_eq, Decidable.not_not] at hc1
    refine vc_seq fun K4 hK4 => ?_
    refine vc_region ?_
    refine vo_assign_pv rfl rfl ?_
    refine vo_nil ?_
    refine hK4 _ ?_
    refine vc_ret ?_
    change retPv _ _ _ _ _
    refine retPv_mk rfl rfl rfl ⟨?_, rfl⟩
    refine (congrArg (fun b => [bo b]) (?_ : _ = _) : [bo _] = [bo _])
    exact bF fun h => by have := h.2; omega
  · try simp only [decide_eq_true_eq, decide_eq_false_iff_not, beq_iff_eq, bne_iff_ne, beq_eq_false_iff_ne, bne_eq_false_iff_eq, Bool.not_eq_true, Bool.not_eq_false, Bool.not_eq_eq_eq_not, Bool.not_true, Bool.not_false, List.length_map, Int.not_lt, Int.not_le, ne_eq, Decidable.not_not] at hc1
    refine vc_skip ?_
    refine hK2 _ ?_
    refine vc_seq fun K5 hK5 => ?_
    refine vc_seq fun K6 hK6 => ?_
    refine vc_region ?_
    refine vo_move_pv rfl rfl ?_
    refine vo_len_pv rfl rfl Try.underlying22 ?_
    refine vo_move_pv rfl rfl ?_
    refine vo_nil ?_
    refine hK6 _ ?_
    refine vc_block ?_
    refine vc_stN ?_
    refine vc_loopF [8, 9] [10] [.pv false (.sl nl0 1 (lists.map ints)), i64 (lists.map ints).length] _ (fun mz vs => ∃ (k : Nat), mz = lists.length - k ∧ (k ≤ lists.length) ∧ (∀ l ∈ lists.take k, OKL l 12) ∧ vs = [i64 k]) (lists.length) rfl rfl (le_len hC rfl) ⟨rfl, rfl, rfl⟩ ⟨0, rfl, Nat.zero_le _, (by simp), rfl⟩ ?_
    rintro mz vs - ⟨k, rfl, hk, hf, rfl⟩
    refine vc_stN ?_
    refine vc_seq fun K7 hK7 => ?_
    refine vc_region ?_
    refine vo_binI rfl rfl rfl rfl trivial ?_
    refine vo_nil ?_
    refine hK7 _ ?_
    refine vc_seq fun K8 hK8 => ?_
    refine vc_cond rfl (fun hc2 => ?_) (fun hc2 => ?_)
    · try simp only [decide_eq_true_eq, decide_eq_false_iff_not, beq_iff_eq, bne_iff_ne, beq_eq_false_iff_ne, bne_eq_false_iff_eq, Bool.not_eq_true, Bool.not_eq_false, Bool.not_eq_eq_eq_not, Bool.not_true, Bool.not_false, List.length_map, Int.not_lt, Int.not_le, ne_eq, Decidable.not_not] at hc2
      refine vc_skip ?_
      refine hK8 _ ?_
      refine vc_seq fun K9 hK9 => ?_
      refine vc_block ?_
      refine vc_seq fun K10 hK10 => ?_
      refine vc_region ?_
      refine vo_index_pv (.sl none 1 []) rfl rfl rfl E22.und inf36 sz36 sd sd ?_
      simp only [Int.toNat_natCast, Int.toNat_zero, getD_ints, getD_intss, getD_bools, getD_bytes, PV.cells]
      refine vo_load_adr rfl rfl Try.underlying36 rfl ?_
      refine vo_assign_pv rfl rfl ?_
      refine vo_nil ?_
      refine hK10 _ ?_
      refine vc_seq fun K11 hK11 => ?_
      refine vc_region ?_
      refine vo_move_pv rfl rfl ?_
      refine vo_call0 Try.func122 rfl rfl rfl rfl (isList_sat (lens hllists _ (by omega))) ?_
      rintro _ _ ⟨rfl, rfl⟩
      refine ⟨rfl, rfl, .inl rfl, ?_⟩
      refine vo_not rfl rfl ?_
      refine vo_nil ?_
      refine hK11 _ ?_
      refine vc_cond rfl (fun hc3 => ?_) (fun hc3 => ?_)
      · try simp only [decide_eq_true_eq, decide_eq_false_iff_not, beq_iff_eq, bne_iff_ne, beq_eq_false_iff_ne, bne_eq_false_iff_eq, Bool.not_eq_true, Bool.not_eq_false, Bool.not_eq_eq_eq_not, Bool.not_true, Bool.not_false, List.length_map, Int.not_lt, Int.not_le, ne_eq, Decidable.not_not] at hc3
        refine vc_seq fun K12 hK12 => ?_
        refine vc_region ?_
        refine vo_assign_pv rfl rfl ?_
        refine vo_nil ?_
        refine hK12 _ ?_
        refine vc_ret ?_
        change retPv _ _ _ _ _
        refine retPv_mk rfl rfl rfl ⟨?_, rfl⟩
        refine (congrArg (fun b => [bo b]) (?_ : _ = _) : [bo _] = [bo _])
        exact bF fun h => hc3 (h.1 _ (getD_mem (show k < lists.length by omega) []))
      · try simp only [decide_eq_true_eq, decide_eq_false_iff_not, beq_iff_eq, bne_iff_ne, beq_eq_false_iff_ne, bne_eq_false_iff_eq, Bool.not_eq_true, Bool.not_eq_false, Bool.not_eq_eq_eq_not, Bool.not_true, Bool.not_false, List.length_map, Int.not_lt, Int.not_le, ne_eq, Decidable.not_not] at hc3
        refine vc_skip ?_
        refine hK9 _ ?_
        refine vc_region ?_
        refine vo_binI rfl rfl rfl rfl sd ?_
        refine vo_move_pv rfl rfl ?_
        refine vo_nil ?_
        change againF _ _ _ _ _ _ _ _ _
        refine againF_mk rfl rfl rfl rfl rfl rfl ⟨_, ?_, k + 1, rfl, ?_, ?_, rfl⟩
        · omega
        · omega
        · exact (all_take_succ (by omega) []).2 ⟨hf, hc3⟩
    · try simp only [decide_eq_true_eq, decide_eq_false_iff_not, beq_iff_eq, bne_iff_ne, beq_eq_false_iff_ne, bne_eq_false_iff_eq, Bool.not_eq_true, Bool.not_eq_false, Bool.not_eq_eq_eq_not, Bool.not_true, Bool.not_false, List.length_map, Int.not_lt, Int.not_le, ne_eq, Decidable.not_not] at hc2
      refine vc_exit ?_
      refine hK5 _ ?_
      refine vc_seq fun K13 hK13 => ?_
      refine vc_region ?_
      refine vo_assign_pv rfl rfl ?_
      refine vo_nil ?_
      refine hK13 _ ?_
      refine vc_ret ?_
      change retPv _ _ _ _ _
      refine retPv_mk rfl rfl rfl ⟨?_, rfl⟩
      refine (congrArg (fun b => [bo b]) (?_ : _ = _) : [bo _] = [bo _])
      rw [take_all (by omega)] at hf; exact bT ⟨hf, by omega⟩


theorem eachOnce_sat {nl0 : Option Bool} {list : List Int} (hlist : list.length < 1000000000)  : SatAt Try.prog 187 [.pv false (.sl nl0 1 (list.map intP))] [] (fun res rows => ∃ nl, res = [.ref 0] ∧ rows = [Row.own 3 1 nl true ((onceF [] list).map intP)]) := by
  refine sat_entry_g (ts := [2]) Try.func187 rfl rfl (by decide) (Nat.le_of_ble_eq_true rfl) fun C hC => ?_
  rw [Try.ntmps187]
  replace hC : C.nb = 0 := hC
  refine vc_seq fun K1 hK1 => ?_
  refine vc_region ?_
  refine vo_assign_pv rfl rfl ?_
  refine vo_nil ?_
  refine hK1 _ ?_
  refine vc_seq fun K2 hK2 => ?_
  refine vc_region ?_
  refine vo_assign_pv rfl rfl ?_
  refine vo_nil ?_
  refine hK2 _ ?_
  refine vc_seq fun K3 hK3 => ?_
  refine vc_seq fun K4 hK4 => ?_
  refine vc_region ?_
  refine vo_move_pv rfl rfl ?_
  refine vo_len_pv rfl rfl Try.underlying36 ?_
  refine vo_move_pv rfl rfl ?_
  refine vo_nil ?_
  refine hK4 _ ?_
  refine vc_block ?_
  refine vc_own_nil 3 E36 rfl ?_
  refine vc_stN ?_
  refine vc_loop [3, 6, 7, 8] (fun mz vs rows => ∃ (k : Nat) (acc : List Int), mz = list.length - k ∧ (k ≤ list.length) ∧ (onceF acc (list.drop k) = onceF [] list) ∧ (acc.length ≤ k) ∧ vs = [.ref 0, .pv false (.sl nl0 1 (list.map intP)), i64 (list.map intP).length, i64 k] ∧ rows = [Row.own 3 1 none true ((acc).map intP)]) (list.length) (le_len hC rfl) ⟨rfl, rfl⟩ ⟨0, [], rfl, Nat.zero_le _, rfl, (Nat.zero_le _), rfl, rfl⟩ ?_
  rintro mz vs rows - - ⟨k, acc, rfl, hk, hf, hl, rfl, rfl⟩
  refine vc_seq fun K5 hK5 => ?_
  refine vc_region ?_
  refine vo_binI rfl rfl rfl rfl trivial ?_
  refine vo_nil ?_
  refine hK5 _ ?_
  refine vc_seq fun K6 hK6 => ?_
  refine vc_cond rfl (fun hc1 => ?_) (fun hc1 => ?_)
  · try simp only [decide_eq_true_eq, decide_eq_false_iff_not, beq_iff_eq, bne_iff_ne, beq_eq_false_iff_ne, bne_eq_false_iff_eq, Bool.not_eq_true, Bool.not_eq_false, Bool.not_eq_eq_eq_not, Bool.not_true, Bool.not_false, List.length_map, Int.not_lt, Int.not_le, ne_eq, Decidable.not_not] at hc1
    refine vc_skip ?_
    refine hK6 _ ?_
    refine vc_seq fun K7 hK7 => ?_
    refine vc_block ?_
    refine vc_seq fun K8 hK8 => ?_
    refine vc_region ?_
    refine vo_index_pv (.int .i64 0) rfl rfl rfl E36.und inf3 sz3 sd sd ?_
    simp only [Int.toNat_natCast, Int.toNat_zero, getD_ints, getD_intss, getD_bools, getD_bytes, PV.cells]
    refine vo_load_adr rfl rfl Try.underlying3 rfl ?_
    refine vo_assign_pv rfl rfl ?_
    refine vo_nil ?_
    refine hK8 _ ?_
    refine vc_seq fun K9 hK9 => ?_
    refine vc_region ?_
    refine vo_move_ref rfl rfl ?_
    refine vo_move_pv rfl rfl ?_
    refine vo_call0 Try.func158 rfl rfl rfl rfl (Contains_sat (by omega)) ?_
    rintro _ _ ⟨rfl, rfl⟩
    refine ⟨rfl, rfl, .inr rfl, ?_⟩
    refine vo_not rfl rfl ?_
    refine vo_nil ?_
    refine hK9 _ ?_
    refine vc_cond rfl (fun hc2 => ?_) (fun hc2 => ?_)
    · try simp only [decide_eq_true_eq, decide_eq_false_iff_not, beq_iff_eq, bne_iff_ne, beq_eq_false_iff_ne, bne_eq_false_iff_eq, Bool.not_eq_true, Bool.not_eq_false, Bool.not_eq_eq_eq_not, Bool.not_true, Bool.not_false, List.length_map, Int.not_lt, Int.not_le, ne_eq, Decidable.not_not] at hc2
      refine vc_region ?_
      refine vo_move_ref rfl rfl ?_
      refine vo_move_pv rfl rfl ?_
      refine vo_buildSlice E36 rfl rfl rfl rfl rfl ?_
      refine vo_append E36 rfl (by omega) rfl rfl rfl sd sd ?_
      refine vo_stN ?_
      try simp only [app_ints, app_intss, app_bools]
      refine vo_assign_ref rfl rfl ?_
      refine vo_nil ?_
      refine hK7 _ ?_
      refine vc_region ?_
      refine vo_binI rfl rfl rfl rfl sd ?_
      refine vo_move_pv rfl rfl ?_
      refine vo_nil ?_
      change again _ _ _ _ _ _
      refine again_mk rfl rfl rfl rfl ⟨_, ?_, k + 1, acc ++ [list.getD k 0], rfl, ?_, ?_, ?_, rfl, rfl⟩
      · omega
      · omega
      · exact ((onceF_drop acc list k (by omega)).trans (by rw [if_neg hc2])).symm.trans hf
      · rw [List.length_append, List.length_singleton]; omega
    · try simp only [decide_eq_true_eq, decide_eq_false_iff_not, beq_iff_eq, bne_iff_ne, beq_eq_false_iff_ne, bne_eq_false_iff_eq, Bool.not_eq_true, Bool.not_eq_false, Bool.not_eq_eq_eq_not, Bool.not_true, Bool.not_false, List.length_map, Int.not_lt, Int.not_le, ne_eq, Decidable.not_not] at hc2
      refine vc_skip ?_
      refine hK7 _ ?_
      refine vc_region ?_
      refine vo_binI rfl rfl rfl rfl sd ?_
      refine vo_move_pv rfl rfl ?_
      refine vo_nil ?_
      change again _ _ _ _ _ _
      refine again_mk rfl rfl rfl rfl ⟨_, ?_, k + 1, acc, rfl, ?_, ?_, ?_, rfl, rfl⟩
      · omega
      · omega
      · exact ((onceF_drop acc list k (by omega)).trans (by rw [if_pos hc2])).symm.trans hf
      · omega
  · try simp only [decide_eq_true_eq, decide_eq_false_iff_not, beq_iff_eq, bne_iff_ne, beq_eq_false_iff_ne, bne_eq_false_iff_eq, Bool.not_eq_true, Bool.not_eq_false, Bool.not_eq_eq_eq_not, Bool.not_true, Bool.not_false, List.length_map, Int.not_lt, Int.not_le, ne_eq, Decidable.not_not] at hc1
    refine vc_exit ?_
    refine hK3 _ ?_
    refine vc_seq fun K10 hK10 => ?_
    refine vc_region ?_
    refine vo_move_ref rfl rfl ?_
    refine vo_assign_ref rfl rfl ?_
    refine vo_nil ?_
    refine hK10 _ ?_
    refine vc_ret ?_
    change retG _ _ _ _ _
    refine retG_one 0 hC rfl rfl rfl rfl rfl ?_
    exact ⟨_, rfl, rows_eq (g := intP) (by rw [← hf, List.drop_of_length_le (by omega)]; rfl)⟩


theorem heads_sat {nl0 : Option Bool} {lists : List (List Int)} (hlists : lists.length < 1000000000) (hllists : ∀ l ∈ lists, l.length < 1000000000)  : SatAt Try.prog 176 [.pv false (.sl nl0 1 (lists.map ints))] [] (fun res rows => ∃ nl, res = [.ref 0] ∧ rows = [Row.own 3 1 nl true ((onceF [] (hds lists)).map intP)]) := by
  refine sat_entry_g (ts := [2]) Try.func176 rfl rfl (by decide) (Nat.le_of_ble_eq_true rfl) fun C hC => ?_
  rw [Try.ntmps176]
  replace hC : C.nb = 0 := hC
  refine vc_seq fun K1 hK1 => ?_
  refine vc_region ?_
  refine vo_assign_pv rfl rfl ?_
  refine vo_nil ?_
  refine hK1 _ ?_
  refine vc_seq fun K2 hK2 => ?_
  refine vc_region ?_
  refine vo_assign_pv rfl rfl ?_
  refine vo_nil ?_
  refine hK2 _ ?_
  refine vc_seq fun K3 hK3 => ?_
  refine vc_seq fun K4 hK4 => ?_
  refine vc_region ?_
  refine vo_move_pv rfl rfl ?_
  refine vo_len_pv rfl rfl Try.underlying22 ?_
  refine vo_move_pv rfl rfl ?_
  refine vo_nil ?_
  refine hK4 _ ?_
  refine vc_block ?_
  refine vc_own_nil 3 E36 rfl ?_
  refine vc_stN ?_
  refine vc_loop [3, 6, 7, 8] (fun mz vs rows => ∃ (k : Nat), mz = lists.length - k ∧ (k ≤ lists.length) ∧ vs = [.ref 0, .pv false (.sl nl0 1 (lists.map ints)), i64 (lists.map ints).length, i64 k] ∧ rows = [Row.own 3 1 none true ((hds (lists.take k)).map intP)]) (lists.length) (le_len hC rfl) ⟨rfl, rfl⟩ ⟨0, rfl, Nat.zero_le _, rfl, rfl⟩ ?_
  rintro mz vs rows - - ⟨k, rfl, hk, rfl, rfl⟩
  have hL := hdsL lists k
  refine vc_seq fun K5 hK5 => ?_
  refine vc_region ?_
  refine vo_binI rfl rfl rfl rfl trivial ?_
  refine vo_nil ?_
  refine hK5 _ ?_
  refine vc_seq fun K6 hK6 => ?_
  refine vc_cond rfl (fun hc1 => ?_) (fun hc1 => ?_)
  · try simp only [decide_eq_true_eq, decide_eq_false_iff_not, beq_iff_eq, bne_iff_ne, beq_eq_false_iff_ne, bne_eq_false_iff_eq, Bool.not_eq_true, Bool.not_eq_false, Bool.not_eq_eq_eq_not, Bool.not_true, Bool.not_false, List.length_map, Int.not_lt, Int.not_le, ne_eq, Decidable.not_not] at hc1
    refine vc_skip ?_
    refine hK6 _ ?_
    refine vc_seq fun K7 hK7 => ?_
    refine vc_block ?_
    refine vc_seq fun K8 hK8 => ?_
    refine vc_region ?_
    refine vo_index_pv (.sl none 1 []) rfl rfl rfl E22.und inf36 sz36 sd sd ?_
    simp only [Int.toNat_natCast, Int.toNat_zero, getD_ints, getD_intss, getD_bools, getD_bytes, PV.cells]
    refine vo_load_adr rfl rfl Try.underlying36 rfl ?_
    refine vo_assign_pv rfl rfl ?_
    refine vo_nil ?_
    refine hK8 _ ?_
    refine vc_seq fun K9 hK9 => ?_
    refine vc_region ?_
    refine vo_move_pv rfl rfl ?_
    refine vo_len_pv rfl rfl Try.underlying36 ?_
    refine vo_binI rfl rfl rfl rfl trivial ?_
    refine vo_nil ?_
    refine hK9 _ ?_
    refine vc_cond rfl (fun hc2 => ?_) (fun hc2 => ?_)
    · try simp only [decide_eq_true_eq, decide_eq_false_iff_not, beq_iff_eq, bne_iff_ne, beq_eq_false_iff_ne, bne_eq_false_iff_eq, Bool.not_eq_true, Bool.not_eq_false, Bool.not_eq_eq_eq_not, Bool.not_true, Bool.not_false, List.length_map, Int.not_lt, Int.not_le, ne_eq, Decidable.not_not] at hc2
      refine vc_region ?_
      refine vo_move_ref rfl rfl ?_
      refine vo_move_pv rfl rfl ?_
      refine vo_index_pv (.int .i64 0) rfl rfl rfl E36.und inf3 sz3 sd sd ?_
      simp only [Int.toNat_natCast, Int.toNat_zero, getD_ints, getD_intss, getD_bools, getD_bytes, PV.cells]
      refine vo_load_adr rfl rfl Try.underlying3 rfl ?_
      refine vo_buildSlice E36 rfl rfl rfl rfl rfl ?_
      refine vo_append E36 rfl (by omega) rfl rfl rfl sd sd ?_
      refine vo_stN ?_
      try simp only [app_ints, app_intss, app_bools]
      refine vo_assign_ref rfl rfl ?_
      refine vo_nil ?_
      refine hK7 _ ?_
      refine vc_region ?_
      refine vo_binI rfl rfl rfl rfl sd ?_
      refine vo_move_pv rfl rfl ?_
      refine vo_nil ?_
      change again _ _ _ _ _ _
      refine again_mk rfl rfl rfl rfl ⟨_, ?_, k + 1, rfl, ?_, rfl, (congrArg (fun l => [Row.own 3 1 none true (List.map intP l)]) (show hds (lists.take k) ++ [(lists.getD k []).getD 0 0] = hds (lists.take (k+1)) by rw [hds_snoc (by omega), hd1_t (by omega)]))⟩
      · omega
      · omega
    · try simp only [decide_eq_true_eq, decide_eq_false_iff_not, beq_iff_eq, bne_iff_ne, beq_eq_false_iff_ne, bne_eq_false_iff_eq, Bool.not_eq_true, Bool.not_eq_false, Bool.not_eq_eq_eq_not, Bool.not_true, Bool.not_false, List.length_map, Int.not_lt, Int.not_le, ne_eq, Decidable.not_not] at hc2
      refine vc_skip ?_
      refine hK7 _ ?_
      refine vc_region ?_
      refine vo_binI rfl rfl rfl rfl sd ?_
      refine vo_move_pv rfl rfl ?_
      refine vo_nil ?_
      change again _ _ _ _ _ _
      refine again_mk rfl rfl rfl rfl ⟨_, ?_, k + 1, rfl, ?_, rfl, (congrArg (fun l => [Row.own 3 1 none true (List.map intP l)]) (show hds (lists.take k) = hds (lists.take (k+1)) by rw [hds_snoc (by omega), hd1_f (by omega), List.append_nil]))⟩
      · omega
      · omega
  · try simp only [decide_eq_true_eq, decide_eq_false_iff_not, beq_iff_eq, bne_iff_ne, beq_eq_false_iff_ne, bne_eq_false_iff_eq, Bool.not_eq_true, Bool.not_eq_false, Bool.not_eq_eq_eq_not, Bool.not_true, Bool.not_false, List.length_map, Int.not_lt, Int.not_le, ne_eq, Decidable.not_not] at hc1
    refine vc_exit ?_
    refine hK3 _ ?_
    refine vc_seq fun K10 hK10 => ?_
    refine vc_region ?_
    refine vo_move_ref rfl rfl ?_
    refine vo_expose 0 (by omega) rfl ?_
    refine vo_weaken 22 rfl ?_
    refine vo_stN ?_
    refine vo_call [] Try.func187 rfl rfl rfl rfl rfl rfl rfl (eachOnce_sat (list := hds (lists.take k)) (by have := hdsL lists k; omega)) ?_
    rintro _ _ ⟨nl9, rfl, rfl⟩
    refine ⟨Nat.le_of_ble_eq_true rfl, ⟨rfl, rfl, rfl, rfl⟩, .inl rfl, ?_⟩
    refine vo_stN ?_
    refine vo_assign_ref rfl rfl ?_
    refine vo_nil ?_
    refine hK10 _ ?_
    refine vc_ret ?_
    change retG _ _ _ _ _
    refine retG_one 1 hC rfl rfl rfl rfl rfl ?_
    exact ⟨_, rfl, rows_eq (g := intP) (by rw [take_all (by omega)])⟩


theorem empty_sat {nl0 : Option Bool} {lists : List (List Int)} (hlists : lists.length < 1000000000) (hllists : ∀ l ∈ lists, l.length < 1000000000)  : SatAt Try.prog 121 [.pv false (.sl nl0 1 (lists.map ints))] [] (fun res rows => res = [bo (decide (hds lists = []))] ∧ rows = []) := by
  refine sat_entry (ts := [2]) Try.func121 rfl rfl (by decide) (Nat.le_of_ble_eq_true rfl) fun C hC => ?_
  rw [Try.ntmps121]
  replace hC : C.nb = 0 := hC
  refine vc_seq fun K1 hK1 => ?_
  refine vc_region ?_
  refine vo_assign_pv rfl rfl ?_
  refine vo_nil ?_
  refine hK1 _ ?_
  refine vc_seq fun K2 hK2 => ?_
  refine vc_seq fun K3 hK3 => ?_
  refine vc_region ?_
  refine vo_assign_pv rfl rfl ?_
  refine vo_nil ?_
  refine hK3 _ ?_
  refine vc_block ?_
  refine vc_stN ?_
  refine vc_loopF [0] [3] [.pv false (.sl nl0 1 (lists.map ints))] _ (fun mz vs => ∃ (k : Nat), mz = lists.length - k ∧ (k ≤ lists.length) ∧ (hds (lists.take k) = []) ∧ vs = [i64 k]) (lists.length) rfl rfl (le_len hC rfl) ⟨rfl, rfl, rfl⟩ ⟨0, rfl, Nat.zero_le _, rfl, rfl⟩ ?_
  rintro mz vs - ⟨k, rfl, hk, hf, rfl⟩
  refine vc_stN ?_
  refine vc_seq fun K4 hK4 => ?_
  refine vc_seq fun K5 hK5 => ?_
  refine vc_region ?_
  refine vo_move_pv rfl rfl ?_
  refine vo_move_pv rfl rfl ?_
  refine vo_len_pv rfl rfl Try.underlying22 ?_
  refine vo_binI rfl rfl rfl rfl trivial ?_
  refine vo_nil ?_
  refine hK5 _ ?_
  refine vc_cond rfl (fun hc1 => ?_) (fun hc1 => ?_)
  · try simp only [decide_eq_true_eq, decide_eq_false_iff_not, beq_iff_eq, bne_iff_ne, beq_eq_false_iff_ne, bne_eq_false_iff_eq, Bool.not_eq_true, Bool.not_eq_false, Bool.not_eq_eq_eq_not, Bool.not_true, Bool.not_false, List.length_map, Int.not_lt, Int.not_le, ne_eq, Decidable.not_not] at hc1
    refine vc_skip ?_
    refine hK4 _ ?_
    refine vc_seq fun K6 hK6 => ?_
    refine vc_block ?_
    refine vc_seq fun K7 hK7 => ?_
    refine vc_region ?_
    refine vo_move_pv rfl rfl ?_
    refine vo_move_pv rfl rfl ?_
    refine vo_index_pv (.sl none 1 []) rfl rfl rfl E22.und inf36 sz36 sd sd ?_
    simp only [Int.toNat_natCast, Int.toNat_zero, getD_ints, getD_intss, getD_bools, getD_bytes, PV.cells]
    refine vo_load_adr rfl rfl Try.underlying36 rfl ?_
    refine vo_len_pv rfl rfl Try.underlying36 ?_
    refine vo_binI rfl rfl rfl rfl trivial ?_
    refine vo_nil ?_
    refine hK7 _ ?_
    refine vc_cond rfl (fun hc2 => ?_) (fun hc2 => ?_)
    · try simp only [decide_eq_true_eq, decide_eq_false_iff_not, beq_iff_eq, bne_iff_ne, beq_eq_false_iff_ne, bne_eq_false_iff_eq, Bool.not_eq_true, Bool.not_eq_false, Bool.not_eq_eq_eq_not, Bool.not_true, Bool.not_false, List.length_map, Int.not_lt, Int.not_le, ne_eq, Decidable.not_not] at hc2
      refine vc_seq fun K8 hK8 => ?_
      refine vc_region ?_
      refine vo_assign_pv rfl rfl ?_
      refine vo_nil ?_
      refine hK8 _ ?_
      refine vc_ret ?_
      change retPv _ _ _ _ _
      refine retPv_mk rfl rfl rfl ⟨?_, rfl⟩
      refine (congrArg (fun b => [bo b]) (?_ : _ = _) : [bo _] = [bo _])
      exact bF (hds_ne (k := k) (by omega) (by omega))
    · try simp only [decide_eq_true_eq, decide_eq_false_iff_not, beq_iff_eq, bne_iff_ne, beq_eq_false_iff_ne, bne_eq_false_iff_eq, Bool.not_eq_true, Bool.not_eq_false, Bool.not_eq_eq_eq_not, Bool.not_true, Bool.not_false, List.length_map, Int.not_lt, Int.not_le, ne_eq, Decidable.not_not] at hc2
      refine vc_skip ?_
      refine hK6 _ ?_
      refine vc_region ?_
      refine vo_move_pv rfl rfl ?_
      refine vo_binI rfl rfl rfl rfl sd ?_
      refine vo_assign_pv rfl rfl ?_
      refine vo_nil ?_
      change againF _ _ _ _ _ _ _ _ _
      refine againF_mk rfl rfl rfl rfl rfl rfl ⟨_, ?_, k + 1, rfl, ?_, ?_, rfl⟩
      · omega
      · omega
      · exact hds_take0 (by omega) hf (by omega)
  · try simp only [decide_eq_true_eq, decide_eq_false_iff_not, beq_iff_eq, bne_iff_ne, beq_eq_false_iff_ne, bne_eq_false_iff_eq, Bool.not_eq_true, Bool.not_eq_false, Bool.not_eq_eq_eq_not, Bool.not_true, Bool.not_false, List.length_map, Int.not_lt, Int.not_le, ne_eq, Decidable.not_not] at hc1
    refine vc_exit ?_
    refine hK2 _ ?_
    refine vc_seq fun K9 hK9 => ?_
    refine vc_region ?_
    refine vo_assign_pv rfl rfl ?_
    refine vo_nil ?_
    refine hK9 _ ?_
    refine vc_ret ?_
    change retPv _ _ _ _ _
    refine retPv_mk rfl rfl rfl ⟨?_, rfl⟩
    refine (congrArg (fun b => [bo b]) (?_ : _ = _) : [bo _] = [bo _])
    rw [take_all (by omega)] at hf; exact bT hf

end Go.Vl

namespace Go.Vl
set_option linter.unusedVariables false
set_option linter.unusedSimpArgs false
open Go.Proofs
theorem mgR_no {ls : List (List Int)} (h : ¬ mgOK ls) : mgR ls = [] := if_neg h
theorem mgR_yes {ls : List (List Int)} (h : mgOK ls) : mgR ls = (mergeM ls).1 := if_pos h
theorem mgL_all {ls : List (List Int)} {N : Nat} (h : ∀ l ∈ ls, l.length < N) : ∀ l ∈ (mergeM ls).2, l.length < N := mgL_mem _ _ h
theorem mgO_len (ls : List (List Int)) : (mergeM ls).1.length ≤ tot ls := by have := mergeF_tot (tot ls) ls; unfold mergeM; omega
theorem mgR_len {ls : List (List Int)} : (mgR ls).length < 1000000000 := by
  by_cases h : mgOK ls
  · rw [mgR_yes h]; exact Nat.lt_of_le_of_lt (mgO_len ls) h.1.tot
  · rw [mgR_no h]; simp
theorem once0 {l : List Int} (h : ¬ 0 < (onceF [] l).length) : l = [] := once_nil.1 (List.eq_nil_of_length_eq_zero (by omega))
theorem once1 {l : List Int} (h : 0 < (onceF [] l).length) : l ≠ [] := fun e => by rw [e] at h; simp [onceF] at h
theorem implMergeLists_sat {nl0 : Option Bool} {lists : List (List Int)} (hlists : lists.length < 1000000000) (hllists : ∀ l ∈ lists, l.length < 1000000000) : SatAt Try.prog 159 [.pv false (.sl nl0 1 (lists.map ints))] [] (fun res rows => ∃ nl, res = [.ref 0, bo (decide (mgOK lists))] ∧ rows = [Row.own 3 1 nl true ((mgR lists).map intP)]) := by
  refine sat_entry_g (ts := [2, 3]) Try.func159 rfl rfl (by decide) (Nat.le_of_ble_eq_true rfl) fun C hC => ?_
  rw [Try.ntmps159]
  replace hC : C.nb = 0 := hC
  refine vc_seq fun K1 hK1 => ?_
  refine vc_region ?_
  refine vo_assign_pv rfl rfl ?_
  refine vo_assign_pv rfl rfl ?_
  refine vo_nil ?_
  refine hK1 _ ?_
  refine vc_seq fun K2 hK2 => ?_
  refine vc_seq fun K3 hK3 => ?_
  refine vc_region ?_
  refine vo_move_pv rfl rfl ?_
  refine vo_call0 Try.func174 rfl rfl rfl rfl (canMerge_sat hlists hllists) ?_
  rintro _ _ ⟨rfl, rfl⟩
  refine ⟨rfl, rfl, .inl rfl, ?_⟩
  refine vo_not rfl rfl ?_
  refine vo_nil ?_
  refine hK3 _ ?_
  refine vc_cond rfl (fun hc1 => ?_) (fun hc1 => ?_)
  · try simp only [decide_eq_true_eq, decide_eq_false_iff_not, beq_iff_eq, bne_iff_ne, beq_eq_false_iff_ne, bne_eq_false_iff_eq, Bool.not_eq_true, Bool.not_eq_false, Bool.not_eq_eq_eq_not, Bool.not_true, Bool.not_false, List.length_map, Int.not_lt, Int.not_le, ne_eq, Decidable.not_not] at hc1
    refine vc_seq fun K4 hK4 => ?_
    refine vc_region ?_
    refine vo_assign_pv rfl rfl ?_
    refine vo_assign_pv rfl rfl ?_
    refine vo_nil ?_
    refine hK4 _ ?_
    refine vc_own_nil 2 E36 rfl ?_
    refine vc_ret ?_
    change retG _ _ _ _ _
    refine retG_one 0 hC rfl rfl rfl rfl rfl ?_
    exact ⟨_, congrArg (fun b => [SV.ref 0, bo b]) (bF fun h => hc1 h.1), rows_eq (g := intP) ((mgR_no fun h => hc1 h.1).symm)⟩
  · try simp only [decide_eq_true_eq, decide_eq_false_iff_not, beq_iff_eq, bne_iff_ne, beq_eq_false_iff_ne, bne_eq_false_iff_eq, Bool.not_eq_true, Bool.not_eq_false, Bool.not_eq_eq_eq_not, Bool.not_true, Bool.not_false, List.length_map, Int.not_lt, Int.not_le, ne_eq, Decidable.not_not] at hc1
    refine vc_skip ?_
    refine hK2 _ ?_
    refine vc_seq fun K5 hK5 => ?_
    refine vc_region ?_
    refine vo_move_pv rfl rfl ?_
    refine vo_call [] Try.func175 rfl rfl rfl rfl rfl rfl rfl (mergeAll_sat hlists hllists hc1.tot) ?_
    rintro _ _ ⟨rfl, rfl⟩
    refine ⟨Nat.le_of_ble_eq_true rfl, ⟨rfl, rfl, rfl, rfl⟩, .inl rfl, ?_⟩
    refine vo_stN ?_
    refine vo_move rfl ?_
    refine vo_extract rfl rfl rfl ?_
    refine vo_extract rfl rfl rfl ?_
    refine vo_assign_ref rfl rfl ?_
    refine vo_assign_pv rfl rfl ?_
    refine vo_nil ?_
    refine hK5 _ ?_
    refine vc_seq fun K6 hK6 => ?_
    refine vc_seq fun K7 hK7 => ?_
    refine vc_region ?_
    refine vo_move_pv rfl rfl ?_
    refine vo_call [] Try.func176 rfl rfl rfl rfl rfl rfl rfl (heads_sat (lists := (mergeM lists).2) (by rw [mgL_len]; omega) (mgL_all hllists)) ?_
    rintro _ _ ⟨nl9, rfl, rfl⟩
    refine ⟨Nat.le_of_ble_eq_true rfl, ⟨rfl, rfl, rfl, rfl⟩, .inl rfl, ?_⟩
    refine vo_stN ?_
    refine vo_len_ref rfl rfl rfl Try.underlying36 ?_
    refine vo_binI rfl rfl rfl rfl trivial ?_
    refine vo_nil ?_
    refine hK7 _ ?_
    refine vc_cond rfl (fun hc2 => ?_) (fun hc2 => ?_)
    · try simp only [decide_eq_true_eq, decide_eq_false_iff_not, beq_iff_eq, bne_iff_ne, beq_eq_false_iff_ne, bne_eq_false_iff_eq, Bool.not_eq_true, Bool.not_eq_false, Bool.not_eq_eq_eq_not, Bool.not_true, Bool.not_false, List.length_map, Int.not_lt, Int.not_le, ne_eq, Decidable.not_not] at hc2
      refine vc_seq fun K8 hK8 => ?_
      refine vc_region ?_
      refine vo_assign_pv rfl rfl ?_
      refine vo_assign_pv rfl rfl ?_
      refine vo_nil ?_
      refine hK8 _ ?_
      refine vc_own_nil 2 E36 rfl ?_
      refine vc_ret ?_
      change retG _ _ _ _ _
      refine retG_one 2 hC rfl rfl rfl rfl rfl ?_
      exact ⟨_, congrArg (fun b => [SV.ref 0, bo b]) (bF fun h => once1 (by omega) h.2), rows_eq (g := intP) ((mgR_no fun h => once1 (by omega) h.2).symm)⟩
    · try simp only [decide_eq_true_eq, decide_eq_false_iff_not, beq_iff_eq, bne_iff_ne, beq_eq_false_iff_ne, bne_eq_false_iff_eq, Bool.not_eq_true, Bool.not_eq_false, Bool.not_eq_eq_eq_not, Bool.not_true, Bool.not_false, List.length_map, Int.not_lt, Int.not_le, ne_eq, Decidable.not_not] at hc2
      refine vc_skip ?_
      refine hK6 _ ?_
      refine vc_seq fun K9 hK9 => ?_
      refine vc_region ?_
      refine vo_move_ref rfl rfl ?_
      refine vo_assign_ref rfl rfl ?_
      refine vo_assign_pv rfl rfl ?_
      refine vo_nil ?_
      refine hK9 _ ?_
      refine vc_ret ?_
      change retG _ _ _ _ _
      refine retG_one 0 hC rfl rfl rfl rfl rfl ?_
      exact ⟨_, congrArg (fun b => [SV.ref 0, bo b]) (bT ⟨hc1, once0 (by omega)⟩), rows_eq (g := intP) ((mgR_yes ⟨hc1, once0 (by omega)⟩).symm)⟩

end Go.Vl

namespace Go.Vl
set_option linter.unusedVariables false
set_option linter.unusedSimpArgs false
open Go.Proofs

end Go.Vl

namespace Go.Vl
set_option linter.unusedVariables false
set_option linter.unusedSimpArgs false
open Go.Proofs
theorem fM_ge (x : Int) : ∀ (l : List Int) (i : Int), 0 ≤ i → x ∈ l → i ≤ fM x l i
  | [], _, _, h => by cases h
  | y :: l, i, hi, h => by
    unfold fM
    split
    · exact Int.le_refl _
    · rename_i hy
      rcases List.mem_cons.1 h with h | h
      · exact absurd h.symm hy
      · have := fM_ge x l (i+1) (by omega) h
        omega
theorem tk_not {x : Int} {l : List Int} (h : l.Nodup) (hb : ¬ bhd x l) : x ∉ tk x l := by
  cases l with
  | nil => simp [tk]
  | cons y l =>
    by_cases hy : y = x
    · rw [tk_t (by simp) (by simpa using hy), ← hy]
      exact (List.nodup_cons.1 h).1
    · rw [tk_f (by simpa using hy)]
      intro hm
      rcases List.mem_cons.1 hm with h1 | h1
      · exact hy h1.symm
      · apply hb
        unfold bhd fM
        rw [if_neg hy]
        have := fM_ge x l (0+1) (by omega) h1
        omega
theorem tk_nodup {x : Int} {l : List Int} (h : l.Nodup) : (tk x l).Nodup := by
  unfold tk; split
  · exact (List.drop_sublist 1 l).nodup h
  · exact h
theorem tk_sub {x y : Int} {l : List Int} (h : y ∈ tk x l) : y ∈ l := by
  unfold tk at h; split at h
  · exact List.mem_of_mem_drop h
  · exact h
theorem mergeF_mem : ∀ (n : Nat) (ls : List (List Int)) (x : Int), x ∈ (mergeF n ls).1 → ∃ l ∈ ls, x ∈ l
  | 0, ls, x, h => by simp [mergeF] at h
  | n+1, ls, x, h => by
    unfold mergeF at h
    split at h
    · simp at h
    · rename_i y hy
      rcases List.mem_cons.1 h with h | h
      · obtain ⟨l, h1, h2, h3, _⟩ := fhF_some hy
        exact ⟨l, h1, by rw [h, ← h3]; exact getD_mem h2 0⟩
      · obtain ⟨l', h1, h2⟩ := mergeF_mem n _ x h
        obtain ⟨l, h3, rfl⟩ := List.mem_map.1 h1
        exact ⟨l, h3, tk_sub h2⟩
theorem mergeF_nodup : ∀ (n : Nat) (ls : List (List Int)), (∀ l ∈ ls, l.Nodup) → (mergeF n ls).1.Nodup
  | 0, ls, h => by simp [mergeF]
  | n+1, ls, h => by
    unfold mergeF
    split
    · exact List.nodup_nil
    · rename_i x hx
      obtain ⟨_, _, _, _, hb⟩ := fhF_some hx
      refine List.nodup_cons.2 ⟨fun hm => ?_, mergeF_nodup n _ fun l' hl' => ?_⟩
      · obtain ⟨l', h1, h2⟩ := mergeF_mem n _ x hm
        obtain ⟨l, h3, rfl⟩ := List.mem_map.1 h1
        exact tk_not (h _ h3) (fun hbl => hb ⟨l, h3, hbl⟩) h2
      · obtain ⟨l, h3, rfl⟩ := List.mem_map.1 hl'
        exact tk_nodup (h _ h3)
/-- Orders. -/
def ordL (o : List (List Int)) (l : List Int) : List (List Int) := l.map (fun x => o.getD x.toNat [])
def ordS (o : List (List Int)) (l : List Int) (c : Int) : List Int :=
  if ∃ x ∈ l, o.getD x.toNat [] = [] then [] else if hds (mergeM (ordL o l ++ [l])).2 = [] then c :: (mergeM (ordL o l ++ [l])).1 else []
def ordT (b : List (List Int)) : Nat → List (List Int)
  | 0 => []
  | n+1 => ordT b n ++ [ordS (ordT b n) (b.getD n []) n]
def ordM (b : List (List Int)) (c : Nat) : List Int := ordS (ordT b c) (b.getD c []) c
theorem ordT_len (b : List (List Int)) : ∀ n, (ordT b n).length = n
  | 0 => rfl
  | n+1 => by rw [ordT, List.length_append, ordT_len b n]; rfl
theorem ordT_get (b : List (List Int)) : ∀ (n k : Nat), k < n → (ordT b n).getD k [] = ordM b k
  | n+1, k, h => by
    rw [ordT]
    by_cases hk : k < n
    · rw [← ordT_get b n k hk]; simp only [List.getD]; rw [List.getElem?_append_left (by rw [ordT_len]; exact hk)]
    · have : k = n := by omega
      subst this
      simp only [List.getD]; rw [List.getElem?_append_right (by rw [ordT_len]; exact Nat.le_refl _), ordT_len, Nat.sub_self]; rfl
def OKord (o : List Int) (c : Nat) : Prop := o.Nodup ∧ ∀ x ∈ o, 0 ≤ x ∧ x ≤ c
theorem pig : ∀ (n : Nat) (o : List Int), o.Nodup → (∀ x ∈ o, 0 ≤ x ∧ x < n) → o.length ≤ n
  | 0, [], _, _ => Nat.le_refl _
  | 0, x :: o, _, h => by have := h x List.mem_cons_self; omega
  | n+1, o, h, hx => by
    by_cases hm : (n : Int) ∈ o
    · have h1 := pig n (o.erase n) (h.erase _) fun x h2 => by
        obtain ⟨h3, h4⟩ := (h.mem_erase_iff).1 h2
        have := hx x h4
        omega
      rw [List.length_erase_of_mem hm] at h1
      omega
    · have h1 := pig n o h fun x h2 => by
        have := hx x h2
        have : x ≠ n := fun e => hm (e ▸ h2)
        omega
      omega
theorem nodup_len {o : List Int} {c : Nat} (h : OKord o c) : o.length ≤ c + 1 := pig (c+1) o h.1 fun x hx => by have := h.2 x hx; omega
theorem VB.at {b : List (List Int)} (h : VB b) {c : Nat} (hc : c < b.length) : (b.getD c []).length ≤ 4 ∧ (b.getD c []).Nodup ∧ ∀ x ∈ b.getD c [], 0 ≤ x ∧ x ≤ (c : Int) - 1 := ((vb_iff b).1 h).2 c hc |>.2
theorem ordL_ok {b : List (List Int)} (hv : VB b) {c : Nat} (hc : c < b.length) (ih : ∀ k < c, OKord (ordM b k) k) : ∀ l ∈ ordL (ordT b c) (b.getD c []) ++ [b.getD c []], l.Nodup ∧ l.length ≤ 12 ∧ ∀ x ∈ l, 0 ≤ x ∧ x ≤ (c : Int) - 1 := by
  have h12 := hv.2.1
  obtain ⟨h4, hn, hx⟩ := hv.at hc
  intro l hl
  rcases List.mem_append.1 hl with h1 | h1
  · obtain ⟨x, h2, rfl⟩ := List.mem_map.1 h1
    have h3 := hx x h2
    have e := ordT_get b c x.toNat (by omega)
    have h5 := ih x.toNat (by omega)
    have h6 := nodup_len h5
    rw [e]
    exact ⟨h5.1, by omega, fun y hy => by have := h5.2 y hy; omega⟩
  · rw [List.mem_singleton.1 h1]
    exact ⟨hn, by omega, hx⟩
theorem ordM_ok {b : List (List Int)} (hv : VB b) : ∀ c, c < b.length → OKord (ordM b c) c := by
  intro c
  induction c using Nat.strongRecOn with
  | ind c ih =>
    intro hc
    have hL := ordL_ok hv hc (fun k hk => ih k hk (by omega))
    unfold ordM ordS
    split
    · exact ⟨List.nodup_nil, by simp⟩
    · split
      · refine ⟨List.nodup_cons.2 ⟨fun hm => ?_, mergeF_nodup _ _ fun l hl => (hL l hl).1⟩, fun x hx => ?_⟩
        · obtain ⟨l, h1, h2⟩ := mergeF_mem _ _ _ hm
          have := (hL l h1).2.2 _ h2
          omega
        · rcases List.mem_cons.1 hx with h | h
          · omega
          · obtain ⟨l, h1, h2⟩ := mergeF_mem _ _ _ h
            have := (hL l h1).2.2 _ h2
            omega
      · exact ⟨List.nodup_nil, by simp⟩
theorem ordM_len {b : List (List Int)} (hv : VB b) {c : Nat} (hc : c < b.length) : (ordM b c).length ≤ 12 := by
  have := nodup_len (ordM_ok hv c hc)
  have := hv.2.1
  omega
theorem ordL_OKLs {b : List (List Int)} (hv : VB b) {c : Nat} (hc : c < b.length) : OKLs (ordL (ordT b c) (b.getD c []) ++ [b.getD c []]) := by
  have hL := ordL_ok hv hc (fun k hk => ordM_ok hv k (by omega))
  obtain ⟨h4, _, _⟩ := hv.at hc
  refine ⟨fun l hl => ⟨?_, (hL l hl).1⟩, ?_⟩
  · have := (hL l hl).2.1; omega
  · simp only [ordL, List.length_append, List.length_map, List.length_singleton]; omega

end Go.Vl

namespace Go.Vl
set_option linter.unusedVariables false
set_option linter.unusedSimpArgs false
open Go.Proofs
theorem ordL_snoc (o : List (List Int)) {l : List Int} {k : Nat} (h : k < l.length) : ordL o (l.take k) ++ [o.getD (l.getD k 0).toNat []] = ordL o (l.take (k+1)) := by
  have e : l.getD k 0 = l[k] := by simp [List.getD, List.getElem?_eq_getElem h]
  unfold ordL
  rw [List.take_succ_eq_append_getElem h, List.map_append, e]; rfl
theorem ordL_len (o : List (List Int)) (l : List Int) : (ordL o l).length = l.length := List.length_map ..
theorem ordM_stuck {b : List (List Int)} {c : Nat} {x : Int} (hv : VB b) (hc : c < b.length) (hx : x ∈ b.getD c []) (h : ordM b x.toNat = []) : ordM b c = [] := by
  have := (hv.at hc).2.2 x hx
  unfold ordM ordS
  rw [if_pos ⟨x, hx, by rw [ordT_get b c _ (by omega)]; exact h⟩]
theorem ordM_go {b : List (List Int)} {c : Nat} (h : ∀ x ∈ b.getD c [], (ordT b c).getD x.toNat [] ≠ []) : ordM b c = if hds (mergeM (ordL (ordT b c) (b.getD c []) ++ [b.getD c []])).2 = [] then (c : Int) :: (mergeM (ordL (ordT b c) (b.getD c []) ++ [b.getD c []])).1 else [] := by
  unfold ordM ordS
  rw [if_neg (fun ⟨x, h1, h2⟩ => h x h1 h2)]
theorem ordT_at {b : List (List Int)} (hv : VB b) {c : Nat} (hc : c < b.length) {x : Int} (hx : x ∈ b.getD c []) : (ordT b c).getD x.toNat [] = ordM b x.toNat := by
  have := (hv.at hc).2.2 x hx
  exact ordT_get b c _ (by omega)
theorem row1_eqF {el : TypeId} {e : Nat} {nl : Option Bool} {f : Bool} {a b : List PV} (h : a = b) : [Row.own el e nl f a] = [Row.own el e nl f b] := by rw [h]

theorem orderOf_step {nl0 : Option Bool} {bases : List (List Int)} {c : Nat} (hbases : bases.length < 1000000000) (hlbases : ∀ l ∈ bases, l.length < 1000000000) (hv : VB bases) (hc : c < bases.length) (ih : ∀ x : Int, 0 ≤ x → x < c → SatAt Try.prog 72 [.pv false (.sl nl0 1 (bases.map ints)), i64 x] [] (fun res rows => ∃ nl, res = [.ref 0] ∧ rows = [Row.own 3 1 nl true ((ordM bases x.toNat).map intP)])) : SatAt Try.prog 72 [.pv false (.sl nl0 1 (bases.map ints)), i64 c] [] (fun res rows => ∃ nl, res = [.ref 0] ∧ rows = [Row.own 3 1 nl true ((ordM bases c).map intP)]) := by
  refine sat_entry_g (ts := [4]) Try.func72 rfl rfl (by decide) (Nat.le_of_ble_eq_true rfl) fun C hC => ?_
  rw [Try.ntmps72]
  replace hC : C.nb = 0 := hC
  refine vc_seq fun K1 hK1 => ?_
  refine vc_region ?_
  refine vo_assign_pv rfl rfl ?_
  refine vo_nil ?_
  refine hK1 _ ?_
  refine vc_seq fun K2 hK2 => ?_
  refine vc_region ?_
  refine vo_buildSlice E22 rfl rfl rfl rfl rfl ?_
  refine vo_assign_ref rfl rfl ?_
  refine vo_nil ?_
  refine hK2 _ ?_
  refine vc_seq fun K3 hK3 => ?_
  refine vc_seq fun K4 hK4 => ?_
  refine vc_region ?_
  refine vo_assign_pv rfl rfl ?_
  refine vo_nil ?_
  refine hK4 _ ?_
  refine vc_block ?_
  refine vc_flagrow 0 rfl ?_
  refine vc_stN ?_
  refine vc_loop [0, 1, 5, 6] (fun mz vs rows => ∃ (k : Nat), mz = (bases.getD c []).length - k ∧ (k ≤ (bases.getD c []).length) ∧ (∀ x ∈ (bases.getD c []).take k, (ordT bases c).getD x.toNat [] ≠ []) ∧ vs = [.pv false (.sl nl0 1 (bases.map ints)), i64 c, .ref 0, i64 k] ∧ rows = [Row.own 36 1 (some false) false ((ordL (ordT bases c) ((bases.getD c []).take k)).map ints)]) ((bases.getD c []).length) (le_len hC rfl) ⟨rfl, rfl⟩ ⟨0, rfl, Nat.zero_le _, (by simp), rfl, rfl⟩ ?_
  rintro mz vs rows - - ⟨k, rfl, hk, hf, rfl, rfl⟩
  have hll := ordL_len (ordT bases c) ((bases.getD c []).take k)
  rw [List.length_take] at hll
  have h4 := (hv.at hc).1
  refine vc_seq fun K5 hK5 => ?_
  refine vc_seq fun K6 hK6 => ?_
  refine vc_region ?_
  refine vo_move_pv rfl rfl ?_
  refine vo_move_pv rfl rfl ?_
  refine vo_move_pv rfl rfl ?_
  refine vo_index_pv (.sl none 1 []) rfl rfl rfl E22.und inf36 sz36 sd sd ?_
  simp only [Int.toNat_natCast, Int.toNat_zero, getD_ints, getD_intss, getD_bools, getD_bytes, PV.cells]
  refine vo_load_adr rfl rfl Try.underlying36 rfl ?_
  refine vo_len_pv rfl rfl Try.underlying36 ?_
  refine vo_binI rfl rfl rfl rfl trivial ?_
  refine vo_nil ?_
  refine hK6 _ ?_
  refine vc_cond rfl (fun hc1 => ?_) (fun hc1 => ?_)
  · try simp only [decide_eq_true_eq, decide_eq_false_iff_not, beq_iff_eq, bne_iff_ne, beq_eq_false_iff_ne, bne_eq_false_iff_eq, Bool.not_eq_true, Bool.not_eq_false, Bool.not_eq_eq_eq_not, Bool.not_true, Bool.not_false, List.length_map, Int.not_lt, Int.not_le, ne_eq, Decidable.not_not] at hc1
    have hm := getD_mem (show k < (bases.getD c []).length by omega) 0
    have hb := (hv.at hc).2.2 _ hm
    have he := ordT_at hv hc hm
    have hle := ordM_len hv (show ((bases.getD c []).getD k 0).toNat < bases.length by omega)
    refine vc_skip ?_
    refine hK5 _ ?_
    refine vc_seq fun K7 hK7 => ?_
    refine vc_block ?_
    refine vc_seq fun K8 hK8 => ?_
    refine vc_region ?_
    refine vo_move_pv rfl rfl ?_
    refine vo_move_pv rfl rfl ?_
    refine vo_move_pv rfl rfl ?_
    refine vo_index_pv (.sl none 1 []) rfl rfl rfl E22.und inf36 sz36 sd sd ?_
    simp only [Int.toNat_natCast, Int.toNat_zero, getD_ints, getD_intss, getD_bools, getD_bytes, PV.cells]
    refine vo_load_adr rfl rfl Try.underlying36 rfl ?_
    refine vo_move_pv rfl rfl ?_
    refine vo_index_pv (.int .i64 0) rfl rfl rfl E36.und inf3 sz3 sd sd ?_
    simp only [Int.toNat_natCast, Int.toNat_zero, getD_ints, getD_intss, getD_bools, getD_bytes, PV.cells]
    refine vo_load_adr rfl rfl Try.underlying3 rfl ?_
    refine vo_call [] Try.func72 rfl rfl rfl rfl rfl rfl rfl (ih _ hb.1 (by omega)) ?_
    rintro _ _ ⟨nl9, rfl, rfl⟩
    refine ⟨Nat.le_of_ble_eq_true rfl, ⟨rfl, rfl, rfl, rfl⟩, .inl rfl, ?_⟩
    refine vo_stN ?_
    refine vo_expose 1 (by omega) rfl ?_
    refine vo_stN ?_
    refine vo_weaken 28 rfl ?_
    refine vo_flag 28 rfl ?_
    refine vo_stN ?_
    refine vo_assign_pv rfl rfl ?_
    refine vo_nil ?_
    refine hK8 _ ?_
    refine vc_seq fun K9 hK9 => ?_
    refine vc_seq fun K10 hK10 => ?_
    refine vc_region ?_
    refine vo_move_pv rfl rfl ?_
    refine vo_len_pv rfl rfl Try.underlying36 ?_
    refine vo_binI rfl rfl rfl rfl trivial ?_
    refine vo_nil ?_
    refine hK10 _ ?_
    refine vc_cond rfl (fun hc2 => ?_) (fun hc2 => ?_)
    · try simp only [decide_eq_true_eq, decide_eq_false_iff_not, beq_iff_eq, bne_iff_ne, beq_eq_false_iff_ne, bne_eq_false_iff_eq, Bool.not_eq_true, Bool.not_eq_false, Bool.not_eq_eq_eq_not, Bool.not_true, Bool.not_false, List.length_map, Int.not_lt, Int.not_le, ne_eq, Decidable.not_not] at hc2
      refine vc_seq fun K11 hK11 => ?_
      refine vc_region ?_
      refine vo_buildSlice E36 rfl rfl rfl rfl rfl ?_
      refine vo_assign_ref rfl rfl ?_
      refine vo_nil ?_
      refine hK11 _ ?_
      refine vc_ret ?_
      change retG _ _ _ _ _
      refine retG_one 2 hC rfl rfl rfl rfl rfl ?_
      exact ⟨_, rfl, rows_eq (g := intP) ((ordM_stuck hv hc hm (List.eq_nil_of_length_eq_zero (by omega))).symm)⟩
    · try simp only [decide_eq_true_eq, decide_eq_false_iff_not, beq_iff_eq, bne_iff_ne, beq_eq_false_iff_ne, bne_eq_false_iff_eq, Bool.not_eq_true, Bool.not_eq_false, Bool.not_eq_eq_eq_not, Bool.not_true, Bool.not_false, List.length_map, Int.not_lt, Int.not_le, ne_eq, Decidable.not_not] at hc2
      refine vc_skip ?_
      refine hK9 _ ?_
      refine vc_region ?_
      refine vo_move_ref rfl rfl ?_
      refine vo_move_pv rfl rfl ?_
      refine vo_weaken 34 rfl ?_
      refine vo_buildSlice E22 rfl rfl rfl rfl rfl ?_
      refine vo_append E22 rfl (by omega) rfl rfl rfl sd sd ?_
      refine vo_stN ?_
      try simp only [app_ints, app_intss, app_bools]
      refine vo_assign_ref rfl rfl ?_
      refine vo_nil ?_
      refine hK7 _ ?_
      refine vc_region ?_
      refine vo_move_pv rfl rfl ?_
      refine vo_binI rfl rfl rfl rfl sd ?_
      refine vo_assign_pv rfl rfl ?_
      refine vo_nil ?_
      change again _ _ _ _ _ _
      refine again_mk rfl rfl rfl rfl ⟨_, ?_, k + 1, rfl, ?_, ?_, rfl, (congrArg (fun l => [Row.own 36 1 (some false) false (List.map ints l)]) (show ordL (ordT bases c) ((bases.getD c []).take k) ++ [ordM bases ((bases.getD c []).getD k 0).toNat] = ordL (ordT bases c) ((bases.getD c []).take (k+1)) by rw [← he, ordL_snoc _ (by omega)]))⟩
      · omega
      · omega
      · exact (all_take_succ (by omega) 0).2 ⟨hf, fun e => by rw [he] at e; rw [e] at hc2; simp at hc2⟩
  · try simp only [decide_eq_true_eq, decide_eq_false_iff_not, beq_iff_eq, bne_iff_ne, beq_eq_false_iff_ne, bne_eq_false_iff_eq, Bool.not_eq_true, Bool.not_eq_false, Bool.not_eq_eq_eq_not, Bool.not_true, Bool.not_false, List.length_map, Int.not_lt, Int.not_le, ne_eq, Decidable.not_not] at hc1
    have hk2 : k = (bases.getD c []).length := by omega
    subst hk2
    rw [take_all (Nat.le_refl _)]
    rw [take_all (Nat.le_refl _)] at hf
    have hO := ordL_OKLs hv hc
    have hmo := Nat.lt_of_le_of_lt (mgO_len (ordL (ordT bases c) (bases.getD c []) ++ [(bases.getD c [])])) hO.tot
    have h4 := (hv.at hc).1
    have hll := ordL_len (ordT bases c) (bases.getD c [])
    refine vc_exit ?_
    refine hK3 _ ?_
    refine vc_seq fun K12 hK12 => ?_
    refine vc_region ?_
    refine vo_move_ref rfl rfl ?_
    refine vo_move_pv rfl rfl ?_
    refine vo_move_pv rfl rfl ?_
    refine vo_index_pv (.sl none 1 []) rfl rfl rfl E22.und inf36 sz36 sd sd ?_
    simp only [Int.toNat_natCast, Int.toNat_zero, getD_ints, getD_intss, getD_bools, getD_bytes, PV.cells]
    refine vo_load_adr rfl rfl Try.underlying36 rfl ?_
    refine vo_weaken 42 rfl ?_
    refine vo_buildSlice E22 rfl rfl rfl rfl rfl ?_
    refine vo_append E22 rfl (by omega) rfl rfl rfl sd sd ?_
    refine vo_stN ?_
    try simp only [app_ints, app_intss, app_bools]
    refine vo_expose 0 (by omega) rfl ?_
    refine vo_weaken 44 rfl ?_
    refine vo_stN ?_
    refine vo_call [] Try.func120 rfl rfl rfl rfl rfl rfl rfl (merge_sat (lists := ordL (ordT bases c) (bases.getD c []) ++ [(bases.getD c [])]) (by have := hO.2; omega) (fun l hl => by have := (hO.1 l hl).1; omega) hO.tot) ?_
    rintro _ _ ⟨rfl, rfl⟩
    refine ⟨Nat.le_of_ble_eq_true rfl, ⟨rfl, rfl, rfl, rfl⟩, .inl rfl, ?_⟩
    refine vo_stN ?_
    refine vo_move rfl ?_
    refine vo_extract rfl rfl rfl ?_
    refine vo_extract rfl rfl rfl ?_
    refine vo_assign_ref rfl rfl ?_
    refine vo_assign_pv rfl rfl ?_
    refine vo_nil ?_
    refine hK12 _ ?_
    refine vc_seq fun K13 hK13 => ?_
    refine vc_seq fun K14 hK14 => ?_
    refine vc_region ?_
    refine vo_move_pv rfl rfl ?_
    refine vo_call0 Try.func121 rfl rfl rfl rfl (empty_sat (by rw [mgL_len]; have := hO.2; omega) (mgL_all (fun l hl => by have := (hO.1 l hl).1; omega))) ?_
    rintro _ _ ⟨rfl, rfl⟩
    refine ⟨rfl, rfl, .inl rfl, ?_⟩
    refine vo_not rfl rfl ?_
    refine vo_nil ?_
    refine hK14 _ ?_
    refine vc_cond rfl (fun hc3 => ?_) (fun hc3 => ?_)
    · try simp only [decide_eq_true_eq, decide_eq_false_iff_not, beq_iff_eq, bne_iff_ne, beq_eq_false_iff_ne, bne_eq_false_iff_eq, Bool.not_eq_true, Bool.not_eq_false, Bool.not_eq_eq_eq_not, Bool.not_true, Bool.not_false, List.length_map, Int.not_lt, Int.not_le, ne_eq, Decidable.not_not] at hc3
      refine vc_seq fun K15 hK15 => ?_
      refine vc_region ?_
      refine vo_buildSlice E36 rfl rfl rfl rfl rfl ?_
      refine vo_assign_ref rfl rfl ?_
      refine vo_nil ?_
      refine hK15 _ ?_
      refine vc_ret ?_
      change retG _ _ _ _ _
      refine retG_one 3 hC rfl rfl rfl rfl rfl ?_
      exact ⟨_, rfl, row1_eqF (by rw [ordM_go hf, if_neg hc3]; rfl)⟩
    · try simp only [decide_eq_true_eq, decide_eq_false_iff_not, beq_iff_eq, bne_iff_ne, beq_eq_false_iff_ne, bne_eq_false_iff_eq, Bool.not_eq_true, Bool.not_eq_false, Bool.not_eq_eq_eq_not, Bool.not_true, Bool.not_false, List.length_map, Int.not_lt, Int.not_le, ne_eq, Decidable.not_not] at hc3
      refine vc_skip ?_
      refine hK13 _ ?_
      refine vc_seq fun K16 hK16 => ?_
      refine vc_region ?_
      refine vo_move_pv rfl rfl ?_
      refine vo_buildSlice E36 rfl rfl rfl rfl rfl ?_
      refine vo_move_ref rfl rfl ?_
      refine vo_append E36 rfl (by omega) rfl rfl rfl sd sd ?_
      refine vo_stN ?_
      try simp only [app_ints, app_intss, app_bools]
      refine vo_assign_ref rfl rfl ?_
      refine vo_nil ?_
      refine hK16 _ ?_
      refine vc_ret ?_
      change retG _ _ _ _ _
      refine retG_one 3 hC rfl rfl rfl rfl rfl ?_
      exact ⟨_, rfl, row1_eqF (by rw [ordM_go hf, if_pos hc3]; rfl)⟩

theorem orderOf_sat {nl0 : Option Bool} {bases : List (List Int)} (hbases : bases.length < 1000000000) (hlbases : ∀ l ∈ bases, l.length < 1000000000) (hv : VB bases) : ∀ (n : Nat), n < bases.length → SatAt Try.prog 72 [.pv false (.sl nl0 1 (bases.map ints)), i64 n] [] (fun res rows => ∃ nl, res = [.ref 0] ∧ rows = [Row.own 3 1 nl true ((ordM bases n).map intP)]) := by
  intro n
  induction n using Nat.strongRecOn with
  | ind n ih =>
    intro hn
    refine orderOf_step hbases hlbases hv hn fun x h0 h1 => ?_
    obtain ⟨k, rfl⟩ := Int.eq_ofNat_of_zero_le h0
    exact ih k (by omega) (by omega)

end Go.Vl

namespace Go.Vl
set_option linter.unusedVariables false
set_option linter.unusedSimpArgs false
open Go.Proofs
abbrev ordP (l : List Int) : PV := .sl (some l.isEmpty) 1 (l.map intP)
def orOK (b : List (List Int)) (c : Int) : Prop := (VB b ∧ 0 ≤ c ∧ c < b.length) ∧ ordM b c.toNat ≠ []
instance {b : List (List Int)} {c : Int} : Decidable (orOK b c) := by unfold orOK; infer_instance
def orR (b : List (List Int)) (c : Int) : List Int := if orOK b c then ordM b c.toNat else []
theorem orR_no {b : List (List Int)} {c : Int} (h : ¬ orOK b c) : orR b c = [] := if_neg h
theorem orR_yes {b : List (List Int)} {c : Int} (h : orOK b c) : orR b c = ordM b c.toNat := if_pos h
theorem orR_len {b : List (List Int)} {c : Int} : (orR b c).length < 1000000000 := by
  by_cases h : orOK b c
  · rw [orR_yes h]
    have := ordM_len h.1.1 (show c.toNat < b.length by have := h.1; omega)
    omega
  · rw [orR_no h]; simp
theorem getD_ordP (o : List (List Int)) (k : Nat) : (o.map ordP).getD k (.sl (some true) 1 []) = .sl (some (o.getD k []).isEmpty) 1 ((o.getD k []).map intP) := by
  simp only [List.getD, List.getElem?_map]
  cases o[k]? <;> rfl
theorem isE {l : List Int} (h : l ≠ []) : l.isEmpty = false := by cases l with | nil => exact absurd rfl h | cons => rfl
theorem ordS_stuck {o : List (List Int)} {l : List Int} {c x : Int} (hx : x ∈ l) (h : o.getD x.toNat [] = []) : ordS o l c = [] := if_pos ⟨x, hx, h⟩
theorem ordS_go {o : List (List Int)} {l : List Int} {c : Int} (h : ∀ x ∈ l, o.getD x.toNat [] ≠ []) : ordS o l c = if hds (mergeM (ordL o l ++ [l])).2 = [] then c :: (mergeM (ordL o l ++ [l])).1 else [] := by
  unfold ordS
  rw [if_neg (fun ⟨x, h1, h2⟩ => h x h1 h2)]
theorem row1_eqN {el : TypeId} {e : Nat} {nl nl' : Option Bool} {f : Bool} {a b : List PV} (hn : nl = nl') (h : a = b) : [Row.own el e nl f a] = [Row.own el e nl' f b] := by rw [hn, h]
theorem bEmp {l : List Int} {b : Bool} (h1 : (some l.isEmpty = some true) → b = true) (h2 : (some l.isEmpty = some false) → b = false) : b = l.isEmpty := by cases l <;> simp_all
theorem fill_ord {o : List (List Int)} {n k : Nat} (h : k < n) (ho : o.length = k) (v : List Int) : ((o ++ List.replicate (n - k) []).map ordP).set k (ordP v) = ((o ++ [v]) ++ List.replicate (n - (k+1)) []).map ordP := by
  rw [show n - k = (n - (k+1)) + 1 by omega, List.replicate_succ, ← List.map_set, List.set_append_right _ _ (by omega), ho, Nat.sub_self, List.set_cons_zero, List.append_assoc]; rfl

theorem orderFrom_sat {nl0 nl1 : Option Bool} {o : List (List Int)} {list : List Int} {c : Int} (ho : o.length < 1000000000) (hl4 : list.length ≤ 4) (hlo : ∀ l ∈ o, l.length < 1000000000) (hx : ∀ x ∈ list, 0 ≤ x ∧ x < o.length) (hOK : (∀ x ∈ list, o.getD x.toNat [] ≠ []) → OKLs (ordL o list ++ [list])) : SatAt Try.prog 124 [.pv false (.sl nl0 1 (o.map ordP)), .pv false (.sl nl1 1 (list.map intP)), i64 c] [] (fun res rows => res = [.ref 0] ∧ rows = [Row.own 3 1 (some (ordS o list c).isEmpty) true ((ordS o list c).map intP)]) := by
  refine sat_entry_g (ts := [6]) Try.func124 rfl rfl (by decide) (Nat.le_of_ble_eq_true rfl) fun C hC => ?_
  rw [Try.ntmps124]
  replace hC : C.nb = 0 := hC
  refine vc_seq fun K1 hK1 => ?_
  refine vc_region ?_
  refine vo_assign_pv rfl rfl ?_
  refine vo_nil ?_
  refine hK1 _ ?_
  refine vc_seq fun K2 hK2 => ?_
  refine vc_region ?_
  refine vo_assign_pv rfl rfl ?_
  refine vo_nil ?_
  refine hK2 _ ?_
  refine vc_seq fun K3 hK3 => ?_
  refine vc_seq fun K4 hK4 => ?_
  refine vc_region ?_
  refine vo_move_pv rfl rfl ?_
  refine vo_len_pv rfl rfl Try.underlying36 ?_
  refine vo_move_pv rfl rfl ?_
  refine vo_nil ?_
  refine hK4 _ ?_
  refine vc_block ?_
  refine vc_own_nil 7 E22 rfl ?_
  refine vc_flagrow 0 rfl ?_
  refine vc_stN ?_
  refine vc_loop [0, 1, 2, 7, 12, 13, 14] (fun mz vs rows => ∃ (k : Nat), mz = list.length - k ∧ (k ≤ list.length) ∧ (∀ x ∈ list.take k, o.getD x.toNat [] ≠ []) ∧ vs = [.pv false (.sl nl0 1 (o.map ordP)), .pv false (.sl nl1 1 (list.map intP)), i64 c, .ref 0, .pv false (.sl nl1 1 (list.map intP)), i64 (list.map intP).length, i64 k] ∧ rows = [Row.own 36 1 none false ((ordL o (list.take k)).map ints)]) (list.length) (le_len hC rfl) ⟨rfl, rfl⟩ ⟨0, rfl, Nat.zero_le _, (by simp), rfl, rfl⟩ ?_
  rintro mz vs rows - - ⟨k, rfl, hk, hf, rfl, rfl⟩
  have hll := ordL_len o (list.take k)
  rw [List.length_take] at hll
  refine vc_seq fun K5 hK5 => ?_
  refine vc_region ?_
  refine vo_binI rfl rfl rfl rfl trivial ?_
  refine vo_nil ?_
  refine hK5 _ ?_
  refine vc_seq fun K6 hK6 => ?_
  refine vc_cond rfl (fun hc1 => ?_) (fun hc1 => ?_)
  · try simp only [decide_eq_true_eq, decide_eq_false_iff_not, beq_iff_eq, bne_iff_ne, beq_eq_false_iff_ne, bne_eq_false_iff_eq, Bool.not_eq_true, Bool.not_eq_false, Bool.not_eq_eq_eq_not, Bool.not_true, Bool.not_false, List.length_map, Int.not_lt, Int.not_le, ne_eq, Decidable.not_not] at hc1
    have hm := getD_mem (show k < list.length by omega) 0
    have hb := hx _ hm
    refine vc_skip ?_
    refine hK6 _ ?_
    refine vc_seq fun K7 hK7 => ?_
    refine vc_block ?_
    refine vc_seq fun K8 hK8 => ?_
    refine vc_region ?_
    refine vo_index_pv (.int .i64 0) rfl rfl rfl E36.und inf3 sz3 sd sd ?_
    simp only [Int.toNat_natCast, Int.toNat_zero, getD_ints, getD_intss, getD_bools, getD_bytes, PV.cells, getD_ordP]
    refine vo_load_adr rfl rfl Try.underlying3 rfl ?_
    refine vo_assign_pv rfl rfl ?_
    refine vo_nil ?_
    refine hK8 _ ?_
    refine vc_seq fun K9 hK9 => ?_
    refine vc_seq fun K10 hK10 => ?_
    refine vc_region ?_
    refine vo_move_pv rfl rfl ?_
    refine vo_move_pv rfl rfl ?_
    refine vo_index_pv (.sl (some true) 1 []) rfl rfl rfl E22.und inf36 sz36 sd sd ?_
    simp only [Int.toNat_natCast, Int.toNat_zero, getD_ints, getD_intss, getD_bools, getD_bytes, PV.cells, getD_ordP]
    refine vo_load_adr rfl rfl Try.underlying36 rfl ?_
    refine vo_eqnil rfl rfl Try.underlying36 fun bn1 hn1 hnt1 hnf1 => ?_
    refine vo_nil ?_
    refine hK10 _ ?_
    refine vc_cond rfl (fun hc2 => ?_) (fun hc2 => ?_)
    · try simp only [decide_eq_true_eq, decide_eq_false_iff_not, beq_iff_eq, bne_iff_ne, beq_eq_false_iff_ne, bne_eq_false_iff_eq, Bool.not_eq_true, Bool.not_eq_false, Bool.not_eq_eq_eq_not, Bool.not_true, Bool.not_false, List.length_map, Int.not_lt, Int.not_le, ne_eq, Decidable.not_not] at hc2
      have hE : (o.getD (list.getD k 0).toNat []) = [] := by have := bEmp hnt1 hnf1; simp_all
      refine vc_seq fun K11 hK11 => ?_
      refine vc_region ?_
      refine vo_assign_pv rfl rfl ?_
      refine vo_nil ?_
      refine hK11 _ ?_
      refine vc_own_nilT 6 E36 rfl ?_
      refine vc_ret ?_
      change retG _ _ _ _ _
      refine retG_one 1 hC rfl rfl rfl rfl rfl ?_
      have e := ordS_stuck (c := c) hm hE
      exact ⟨rfl, row1_eqN (by rw [e]; rfl) (by rw [e]; rfl)⟩
    · try simp only [decide_eq_true_eq, decide_eq_false_iff_not, beq_iff_eq, bne_iff_ne, beq_eq_false_iff_ne, bne_eq_false_iff_eq, Bool.not_eq_true, Bool.not_eq_false, Bool.not_eq_eq_eq_not, Bool.not_true, Bool.not_false, List.length_map, Int.not_lt, Int.not_le, ne_eq, Decidable.not_not] at hc2
      have hE : (o.getD (list.getD k 0).toNat []) ≠ [] := by have := bEmp hnt1 hnf1; simp_all
      refine vc_skip ?_
      refine hK9 _ ?_
      refine vc_region ?_
      refine vo_move_ref rfl rfl ?_
      refine vo_move_pv rfl rfl ?_
      refine vo_move_pv rfl rfl ?_
      refine vo_index_pv (.sl (some true) 1 []) rfl rfl rfl E22.und inf36 sz36 sd sd ?_
      simp only [Int.toNat_natCast, Int.toNat_zero, getD_ints, getD_intss, getD_bools, getD_bytes, PV.cells, getD_ordP]
      refine vo_load_adr rfl rfl Try.underlying36 rfl ?_
      refine vo_weaken 27 rfl ?_
      refine vo_buildSlice E22 rfl rfl rfl rfl rfl ?_
      refine vo_append E22 rfl (by omega) rfl rfl rfl sd sd ?_
      refine vo_stN ?_
      try simp only [app_ints, app_intss, app_bools]
      refine vo_assign_ref rfl rfl ?_
      refine vo_nil ?_
      refine hK7 _ ?_
      refine vc_region ?_
      refine vo_binI rfl rfl rfl rfl sd ?_
      refine vo_move_pv rfl rfl ?_
      refine vo_nil ?_
      change again _ _ _ _ _ _
      refine again_mk rfl rfl rfl rfl ⟨_, ?_, k + 1, rfl, ?_, ?_, rfl, (congrArg (fun l => [Row.own 36 1 none false (List.map ints l)]) (show ordL o (list.take k) ++ [o.getD (list.getD k 0).toNat []] = ordL o (list.take (k+1)) from ordL_snoc _ (by omega)))⟩
      · omega
      · omega
      · exact (all_take_succ (by omega) 0).2 ⟨hf, hE⟩
  · try simp only [decide_eq_true_eq, decide_eq_false_iff_not, beq_iff_eq, bne_iff_ne, beq_eq_false_iff_ne, bne_eq_false_iff_eq, Bool.not_eq_true, Bool.not_eq_false, Bool.not_eq_eq_eq_not, Bool.not_true, Bool.not_false, List.length_map, Int.not_lt, Int.not_le, ne_eq, Decidable.not_not] at hc1
    have hk2 : k = list.length := by omega
    subst hk2
    rw [take_all (Nat.le_refl _)]
    rw [take_all (Nat.le_refl _)] at hf
    have hO := hOK hf
    have hmo := Nat.lt_of_le_of_lt (mgO_len (ordL o list ++ [list])) hO.tot
    have hll2 := ordL_len o list
    have hmr := mgR_len (ls := ordL o list ++ [list])
    refine vc_exit ?_
    refine hK3 _ ?_
    refine vc_seq fun K12 hK12 => ?_
    refine vc_region ?_
    refine vo_move_ref rfl rfl ?_
    refine vo_move_pv rfl rfl ?_
    refine vo_weaken 33 rfl ?_
    refine vo_buildSlice E22 rfl rfl rfl rfl rfl ?_
    refine vo_append E22 rfl (by omega) rfl rfl rfl sd sd ?_
    refine vo_stN ?_
    try simp only [app_ints, app_intss, app_bools]
    refine vo_expose 0 (by omega) rfl ?_
    refine vo_weaken 35 rfl ?_
    refine vo_stN ?_
    refine vo_call [] Try.func159 rfl rfl rfl rfl rfl rfl rfl (implMergeLists_sat (lists := ordL o list ++ [list]) (by have := hO.2; omega) (fun l hl => by have := (hO.1 l hl).1; omega)) ?_
    rintro _ _ ⟨nlm, rfl, rfl⟩
    refine ⟨Nat.le_of_ble_eq_true rfl, ⟨rfl, rfl, rfl, rfl⟩, .inl rfl, ?_⟩
    refine vo_stN ?_
    refine vo_move rfl ?_
    refine vo_extract rfl rfl rfl ?_
    refine vo_extract rfl rfl rfl ?_
    refine vo_assign_ref rfl rfl ?_
    refine vo_assign_pv rfl rfl ?_
    refine vo_nil ?_
    refine hK12 _ ?_
    refine vc_seq fun K13 hK13 => ?_
    refine vc_seq fun K14 hK14 => ?_
    refine vc_region ?_
    refine vo_move_pv rfl rfl ?_
    refine vo_not rfl rfl ?_
    refine vo_nil ?_
    refine hK14 _ ?_
    refine vc_cond rfl (fun hc3 => ?_) (fun hc3 => ?_)
    · try simp only [decide_eq_true_eq, decide_eq_false_iff_not, beq_iff_eq, bne_iff_ne, beq_eq_false_iff_ne, bne_eq_false_iff_eq, Bool.not_eq_true, Bool.not_eq_false, Bool.not_eq_eq_eq_not, Bool.not_true, Bool.not_false, List.length_map, Int.not_lt, Int.not_le, ne_eq, Decidable.not_not] at hc3
      refine vc_seq fun K15 hK15 => ?_
      refine vc_region ?_
      refine vo_assign_pv rfl rfl ?_
      refine vo_nil ?_
      refine hK15 _ ?_
      refine vc_own_nilT 6 E36 rfl ?_
      refine vc_ret ?_
      change retG _ _ _ _ _
      refine retG_one 3 hC rfl rfl rfl rfl rfl ?_
      have e : ordS o list c = [] := by rw [ordS_go hf, if_neg fun h => hc3 ⟨hO, h⟩]
      exact ⟨rfl, row1_eqN (by rw [e]; rfl) (by rw [e]; rfl)⟩
    · try simp only [decide_eq_true_eq, decide_eq_false_iff_not, beq_iff_eq, bne_iff_ne, beq_eq_false_iff_ne, bne_eq_false_iff_eq, Bool.not_eq_true, Bool.not_eq_false, Bool.not_eq_eq_eq_not, Bool.not_true, Bool.not_false, List.length_map, Int.not_lt, Int.not_le, ne_eq, Decidable.not_not] at hc3
      refine vc_skip ?_
      refine hK13 _ ?_
      refine vc_seq fun K16 hK16 => ?_
      refine vc_region ?_
      refine vo_move_pv rfl rfl ?_
      refine vo_buildSlice E36 rfl rfl rfl rfl rfl ?_
      refine vo_move_ref rfl rfl ?_
      refine vo_append E36 rfl (by omega) rfl rfl rfl sd sd ?_
      refine vo_stN ?_
      try simp only [app_ints, app_intss, app_bools]
      refine vo_assign_ref rfl rfl ?_
      refine vo_nil ?_
      refine hK16 _ ?_
      refine vc_ret ?_
      change retG _ _ _ _ _
      refine retG_one 3 hC rfl rfl rfl rfl rfl ?_
      have e : ordS o list c = c :: mgR (ordL o list ++ [list]) := by rw [ordS_go hf, if_pos hc3.2, mgR_yes hc3]
      exact ⟨rfl, row1_eqN (by rw [e]; rfl) (by rw [e]; rfl)⟩

end Go.Vl

namespace Go.Vl
set_option linter.unusedVariables false
set_option linter.unusedSimpArgs false
open Go.Proofs
theorem ordS_pad {o r : List (List Int)} {l : List Int} {c : Int} (h : ∀ x ∈ l, 0 ≤ x ∧ x < o.length) : ordS (o ++ r) l c = ordS o l c ∧ ordL (o ++ r) l = ordL o l := by
  have e : ∀ x ∈ l, (o ++ r).getD x.toNat [] = o.getD x.toNat [] := fun x hx => by
    have := h x hx
    simp only [List.getD]
    rw [List.getElem?_append_left (by omega)]
  have e2 : ordL (o ++ r) l = ordL o l := List.map_congr_left e
  have e3 : (∃ x ∈ l, (o ++ r).getD x.toNat [] = []) ↔ (∃ x ∈ l, o.getD x.toNat [] = []) :=
    ⟨fun ⟨x, h1, h2⟩ => ⟨x, h1, by rw [← e x h1]; exact h2⟩, fun ⟨x, h1, h2⟩ => ⟨x, h1, by rw [e x h1]; exact h2⟩⟩
  refine ⟨?_, e2⟩
  unfold ordS
  rw [e2]
  by_cases hh : ∃ x ∈ l, o.getD x.toNat [] = []
  · rw [if_pos hh, if_pos (e3.2 hh)]
  · rw [if_neg hh, if_neg (fun h => hh (e3.1 h))]
theorem get_ord {o : List (List Int)} {k : Nat} (h : k < o.length) : (o.map ordP)[k]? = some (.sl (some (o.getD k []).isEmpty) 1 ((o.getD k []).map intP)) := by
  simp [List.getD, List.getElem?_eq_getElem h]
theorem ordT_step {b : List (List Int)} (hv : VB b) {k : Nat} (h : k < b.length) (r : List (List Int)) : ordS (ordT b k ++ r) (b.getD k []) k = ordM b k ∧ ordL (ordT b k ++ r) (b.getD k []) = ordL (ordT b k) (b.getD k []) :=
  ordS_pad fun x hx => by have := (hv.at h).2.2 x hx; rw [ordT_len]; omega
theorem pad_mem {b : List (List Int)} (hv : VB b) {k n : Nat} (hk : k ≤ b.length) : ∀ l ∈ ordT b k ++ List.replicate n [], l.length < 1000000000 := by
  intro l hl
  rcases List.mem_append.1 hl with h | h
  · obtain ⟨j, hj, e⟩ := List.getElem_of_mem h
    have h1 : l = (ordT b k).getD j [] := by rw [← e]; simp [List.getD, List.getElem?_eq_getElem hj]
    rw [ordT_len] at hj
    rw [h1, ordT_get b k j hj]
    have := ordM_len hv (show j < b.length by omega)
    omega
  · rw [(List.mem_replicate.1 h).2]; simp

theorem ordersUpTo_sat {nl0 : Option Bool} {bases : List (List Int)} {c : Nat} (hbases : bases.length < 1000000000) (hlbases : ∀ l ∈ bases, l.length < 1000000000) (hv : VB bases) (hc : c < bases.length) : SatAt Try.prog 76 [.pv false (.sl nl0 1 (bases.map ints)), i64 c] [] (fun res rows => res = [.ref 0] ∧ rows = [Row.tree 36 1 (some false) none ((ordT bases (c+1)).map ordP)]) := by
  refine sat_entry_g (ts := [4]) Try.func76 rfl rfl (by decide) (Nat.le_of_ble_eq_true rfl) fun C hC => ?_
  rw [Try.ntmps76]
  replace hC : C.nb = 0 := hC
  refine vc_seq fun K1 hK1 => ?_
  refine vc_region ?_
  refine vo_assign_pv rfl rfl ?_
  refine vo_nil ?_
  refine hK1 _ ?_
  refine vc_seq fun K2 hK2 => ?_
  refine vc_region ?_
  refine vo_move_pv rfl rfl ?_
  refine vo_binI rfl rfl rfl rfl sd ?_
  refine vo_make E22 rfl rfl rfl sd sd sd ?_
  refine vo_assign_ref rfl rfl ?_
  refine vo_nil ?_
  refine hK2 _ ?_
  refine vc_seq fun K3 hK3 => ?_
  refine vc_seq fun K4 hK4 => ?_
  refine vc_region ?_
  refine vo_move_ref rfl rfl ?_
  refine vo_len_ref rfl rfl rfl Try.underlying22 ?_
  refine vo_move_pv rfl rfl ?_
  refine vo_nil ?_
  refine hK4 _ ?_
  refine vc_block ?_
  refine vc_totree 0 rfl (plain_rep _ _) ?_
  refine vc_stN ?_
  refine vc_loop [0, 5, 11, 12] (fun mz vs rows => ∃ (k : Nat), mz = (c + 1) - k ∧ (k ≤ (c + 1)) ∧ vs = [.pv false (.sl nl0 1 (bases.map ints)), .ref 0, i64 ((List.replicate (((c : Nat) : Int) + 1).toNat (PV.sl (some true) 1 [])).length : Nat), i64 k] ∧ rows = [Row.tree 36 1 (some false) none ((ordT bases k ++ List.replicate (c + 1 - k) []).map ordP)]) ((c + 1)) (le_len hC rfl) ⟨rfl, rfl⟩ ⟨0, rfl, Nat.zero_le _, rfl, (row1_eqT (by simp [ordT]))⟩ ?_
  rintro mz vs rows - - ⟨k, rfl, hk, rfl, rfl⟩
  have hR : (List.replicate (((c : Nat) : Int) + 1).toNat (PV.sl (some true) 1 [])).length = c + 1 := by rw [List.length_replicate]; omega
  have hP : (ordT bases k ++ List.replicate (c + 1 - k) []).length = c + 1 := by rw [List.length_append, ordT_len, List.length_replicate]; omega
  refine vc_seq fun K5 hK5 => ?_
  refine vc_region ?_
  refine vo_binI rfl rfl rfl rfl trivial ?_
  refine vo_nil ?_
  refine hK5 _ ?_
  refine vc_seq fun K6 hK6 => ?_
  refine vc_cond rfl (fun hc1 => ?_) (fun hc1 => ?_)
  · try simp only [decide_eq_true_eq, decide_eq_false_iff_not, beq_iff_eq, bne_iff_ne, beq_eq_false_iff_ne, bne_eq_false_iff_eq, Bool.not_eq_true, Bool.not_eq_false, Bool.not_eq_eq_eq_not, Bool.not_true, Bool.not_false, List.length_map, Int.not_lt, Int.not_le, ne_eq, Decidable.not_not] at hc1
    have h4 := (hv.at (show k < bases.length by omega)).1
    have hst := ordT_step hv (show k < bases.length by omega) (List.replicate (c + 1 - k) [])
    have hbd := (hv.at (show k < bases.length by omega)).2.2
    refine vc_skip ?_
    refine hK6 _ ?_
    refine vc_seq fun K7 hK7 => ?_
    refine vc_block ?_
    refine vc_seq fun K8 hK8 => ?_
    refine vc_region ?_
    refine vo_move_pv rfl rfl ?_
    refine vo_assign_pv rfl rfl ?_
    refine vo_nil ?_
    refine hK8 _ ?_
    refine vc_region ?_
    refine vo_move_ref rfl rfl ?_
    refine vo_move_pv rfl rfl ?_
    refine vo_move_ref rfl rfl ?_
    refine vo_move_pv rfl rfl ?_
    refine vo_move_pv rfl rfl ?_
    refine vo_index_pv (.sl none 1 []) rfl rfl rfl E22.und inf36 sz36 sd sd ?_
    simp only [Int.toNat_natCast, Int.toNat_zero, getD_ints, getD_intss, getD_bools, getD_bytes, PV.cells]
    refine vo_load_adr rfl rfl Try.underlying36 rfl ?_
    refine vo_move_pv rfl rfl ?_
    refine vo_call [] Try.func124 rfl rfl rfl rfl rfl rfl rfl (orderFrom_sat (o := ordT bases k ++ List.replicate (c + 1 - k) []) (list := bases.getD k []) (c := k) (by omega) h4 (pad_mem hv (by omega)) (fun x hx => by have := hbd x hx; omega) (fun _ => by rw [hst.2]; exact ordL_OKLs hv (by omega))) ?_
    rintro _ _ ⟨rfl, rfl⟩
    refine ⟨Nat.le_of_ble_eq_true rfl, ⟨rfl, rfl, rfl, rfl⟩, .inr ⟨rfl, rfl⟩, ?_⟩
    refine vo_stN ?_
    refine vo_index_ref rfl rfl rfl rfl E22.und inf36 sz36 sd sd ?_
    try simp only [Int.toNat_natCast]
    refine vo_store_tree rfl rfl (.inl rfl) rfl rfl rfl (fits_of rfl) (fun _ _ _ _ _ h => (own_tp h (plain_ints _)).1) rfl (by omega) (by omega) inf36 sz36 sd ?_
    refine vo_stN ?_
    try simp only [set_intss, Int.toNat_natCast]
    refine vo_nil ?_
    refine hK7 _ ?_
    refine vc_region ?_
    refine vo_binI rfl rfl rfl rfl sd ?_
    refine vo_move_pv rfl rfl ?_
    refine vo_nil ?_
    change again _ _ _ _ _ _
    refine again_mk rfl rfl rfl rfl ⟨_, ?_, k + 1, rfl, ?_, rfl, (row1_eqT (by rw [hst.1]; exact fill_ord (by omega) (ordT_len bases k) _))⟩
    · omega
    · omega
  · try simp only [decide_eq_true_eq, decide_eq_false_iff_not, beq_iff_eq, bne_iff_ne, beq_eq_false_iff_ne, bne_eq_false_iff_eq, Bool.not_eq_true, Bool.not_eq_false, Bool.not_eq_eq_eq_not, Bool.not_true, Bool.not_false, List.length_map, Int.not_lt, Int.not_le, ne_eq, Decidable.not_not] at hc1
    refine vc_exit ?_
    refine hK3 _ ?_
    refine vc_seq fun K9 hK9 => ?_
    refine vc_region ?_
    refine vo_move_ref rfl rfl ?_
    refine vo_assign_ref rfl rfl ?_
    refine vo_nil ?_
    refine hK9 _ ?_
    refine vc_ret ?_
    change retG _ _ _ _ _
    refine retG_one 0 hC rfl rfl rfl rfl rfl ?_
    exact ⟨rfl, row1_eqT (by rw [show k = c + 1 by omega]; simp)⟩

end Go.Vl

namespace Go.Vl
set_option linter.unusedVariables false
set_option linter.unusedSimpArgs false
open Go.Proofs

theorem implOrderOf_sat {nl0 : Option Bool} {bases : List (List Int)} {c : Int} (hbases : bases.length < 1000000000) (hlbases : ∀ l ∈ bases, l.length < 1000000000) : SatAt Try.prog 27 [.pv false (.sl nl0 1 (bases.map ints)), i64 c] [] (fun res rows => ∃ (Rr : TypeId) (nl : Option Bool), res = [.ref 0, bo (decide (orOK bases c))] ∧ rows = [Row.own Rr 1 nl true ((orR bases c).map intP)]) := by
  refine sat_entry_g (ts := [4, 5]) Try.func27 rfl rfl (by decide) (Nat.le_of_ble_eq_true rfl) fun C hC => ?_
  rw [Try.ntmps27]
  replace hC : C.nb = 0 := hC
  refine vc_seq fun K1 hK1 => ?_
  refine vc_region ?_
  refine vo_assign_pv rfl rfl ?_
  refine vo_assign_pv rfl rfl ?_
  refine vo_nil ?_
  refine hK1 _ ?_
  refine vc_seq fun K2 hK2 => ?_
  refine vc_seq fun K3 hK3 => ?_
  refine vc_region ?_
  refine vo_move_pv rfl rfl ?_
  refine vo_move_pv rfl rfl ?_
  refine vo_call0 Try.func75 rfl rfl rfl rfl (hasClass_sat hbases hlbases) ?_
  rintro _ _ ⟨rfl, rfl⟩
  refine ⟨rfl, rfl, .inl rfl, ?_⟩
  refine vo_not rfl rfl ?_
  refine vo_nil ?_
  refine hK3 _ ?_
  refine vc_cond rfl (fun hc1 => ?_) (fun hc1 => ?_)
  · try simp only [decide_eq_true_eq, decide_eq_false_iff_not, beq_iff_eq, bne_iff_ne, beq_eq_false_iff_ne, bne_eq_false_iff_eq, Bool.not_eq_true, Bool.not_eq_false, Bool.not_eq_eq_eq_not, Bool.not_true, Bool.not_false, List.length_map, Int.not_lt, Int.not_le, ne_eq, Decidable.not_not] at hc1
    refine vc_seq fun K4 hK4 => ?_
    refine vc_region ?_
    refine vo_assign_pv rfl rfl ?_
    refine vo_assign_pv rfl rfl ?_
    refine vo_nil ?_
    refine hK4 _ ?_
    refine vc_own_nil 4 E36 rfl ?_
    refine vc_ret ?_
    change retG _ _ _ _ _
    refine retG_one 0 hC rfl rfl rfl rfl rfl ?_
    exact ⟨_, _, congrArg (fun b => [SV.ref 0, bo b]) (bF fun h => hc1 h.1), row1_eqF (by rw [orR_no fun h => hc1 h.1]; rfl)⟩
  · try simp only [decide_eq_true_eq, decide_eq_false_iff_not, beq_iff_eq, bne_iff_ne, beq_eq_false_iff_ne, bne_eq_false_iff_eq, Bool.not_eq_true, Bool.not_eq_false, Bool.not_eq_eq_eq_not, Bool.not_true, Bool.not_false, List.length_map, Int.not_lt, Int.not_le, ne_eq, Decidable.not_not] at hc1
    obtain ⟨hv, h0, h1⟩ := hc1
    obtain ⟨n, rfl⟩ := Int.eq_ofNat_of_zero_le h0
    have hn : n < bases.length := by omega
    have hTl := ordT_len bases (n+1)
    refine vc_skip ?_
    refine hK2 _ ?_
    refine vc_seq fun K5 hK5 => ?_
    refine vc_region ?_
    refine vo_move_pv rfl rfl ?_
    refine vo_move_pv rfl rfl ?_
    refine vo_call [] Try.func76 rfl rfl rfl rfl rfl rfl rfl (ordersUpTo_sat hbases hlbases hv hn) ?_
    rintro _ _ ⟨rfl, rfl⟩
    refine ⟨Nat.le_of_ble_eq_true rfl, ⟨rfl, rfl, rfl, rfl⟩, .inl rfl, ?_⟩
    refine vo_stN ?_
    refine vo_move_pv rfl rfl ?_
    refine vo_index_ref rfl rfl rfl rfl E22.und inf36 sz36 sd sd ?_
    try simp only [Int.toNat_natCast]
    refine vo_load_sub rfl rfl rfl Try.underlying36 rfl sd fun u1 => ?_
    refine vo_stN ?_
    try simp only [Int.toNat_natCast]
    refine vo_take 0 16 (by omega) rfl rfl (get_ord (by rw [ordT_len]; omega)) (plain_ints _) fun Rt => ?_
    refine vo_stN ?_
    refine vo_assign_ref rfl rfl ?_
    refine vo_nil ?_
    refine hK5 _ ?_
    refine vc_seq fun K6 hK6 => ?_
    refine vc_region ?_
    refine vo_move_ref rfl rfl ?_
    refine vo_move_ref rfl rfl ?_
    refine vo_neqnil_ref rfl rfl rfl Try.underlying36 fun bn1 hn1 hnt1 hnf1 => ?_
    refine vo_assign_ref rfl rfl ?_
    refine vo_assign_pv rfl rfl ?_
    refine vo_nil ?_
    refine hK6 _ ?_
    refine vc_ret ?_
    change retG _ _ _ _ _
    refine retG_one 1 hC rfl rfl rfl rfl rfl ?_
    have hg := ordT_get bases (n+1) n (by omega)
    rw [hg] at hn1 hnt1 hnf1 ⊢
    have hb := bEmp hnt1 hnf1
    by_cases he : ordM bases n = []
    · have hno : ¬ orOK bases n := fun h => h.2 he
      refine ⟨_, _, congrArg (fun b => [SV.ref 0, bo b]) (show (!bn1) = _ by rw [hb, he]; exact bF hno), row1_eqF (by rw [orR_no hno, he])⟩
    · have hok : orOK bases n := ⟨⟨hv, h0, h1⟩, he⟩
      refine ⟨_, _, congrArg (fun b => [SV.ref 0, bo b]) (show (!bn1) = _ by rw [hb, isE he]; exact bT hok), row1_eqF (by rw [orR_yes hok]; rfl)⟩

end Go.Vl

namespace Go.Vl
set_option linter.unusedVariables false
set_option linter.unusedSimpArgs false
open Go.Proofs
def allOK (b : List (List Int)) : Prop := VB b ∧ ∀ i, i < b.length → ordM b i ≠ []
instance {b : List (List Int)} : Decidable (allOK b) := by unfold allOK; infer_instance
end Go.Vl

namespace Go.Vl
set_option linter.unusedVariables false
set_option linter.unusedSimpArgs false
open Go.Proofs
def anms (l : List AttrM) : List Int := l.map AttrM.name
@[simp] theorem anms_len (l : List AttrM) : (anms l).length = l.length := by simp [anms]
theorem take_anms (l : List AttrM) (k : Nat) : (anms l).take k = anms (l.take k) := by simp [anms]
def okAttr (a : AttrM) : Prop := (0 ≤ a.name ∧ a.name ≤ 9) ∧ (0 ≤ a.kind ∧ a.kind ≤ 5) ∧ (0 ≤ a.value ∧ a.value ≤ 99)
instance (a : AttrM) : Decidable (okAttr a) := by unfold okAttr; exact inferInstance
def AAttrs (l : List AttrM) : Prop := l.length ≤ 8 ∧ (anms l).Nodup ∧ ∀ a ∈ l, okAttr a
instance (l : List AttrM) : Decidable (AAttrs l) := by unfold AAttrs; exact inferInstance
def okObj (n : Nat) (o : ObjM) : Prop := (0 ≤ o.cls ∧ o.cls ≤ (n : Int) - 1) ∧ o.pairs.length ≤ 8 ∧ AOwn o.pairs
instance (n : Nat) (o : ObjM) : Decidable (okObj n o) := by unfold okObj; exact inferInstance
def VWorld (w : WorldM) : Prop := allOK w.bases ∧ w.attrs.length = w.bases.length ∧ w.objs.length ≤ 6 ∧ (∀ l ∈ w.attrs, AAttrs l) ∧ ∀ o ∈ w.objs, okObj w.bases.length o
instance (w : WorldM) : Decidable (VWorld w) := by unfold VWorld; exact inferInstance

end Go.Vl

namespace Go.Vl
set_option linter.unusedVariables false
set_option linter.unusedSimpArgs false
open Go.Proofs

end Go.Vl

/- Operations that read no memory come at any time, behind those that write too. -/
namespace Go.Vl
set_option linter.unusedVariables false
set_option linter.unusedSimpArgs false
open Go.RowKit
section
variable {P : Program} {C : Ctx} {s : St} {t : Nat} {ty : TypeId} {pos : String} {af : Array Edge}

end
end Go.Vl

namespace Go.Vl
set_option linter.unusedVariables false
set_option linter.unusedSimpArgs false
open Go.Proofs

/-- The first of the classes that has a name, and the attribute. -/
def fnd (A : List (List AttrM)) (name : Int) : List Int → Int × AttrM
  | [] => (-1, ⟨0, 0, 0⟩)
  | x :: r => if 0 ≤ findM name (anms (A.getD x.toNat [])) 0 then (x, (A.getD x.toNat []).getD (findM name (anms (A.getD x.toNat [])) 0).toNat ⟨0, 0, 0⟩) else fnd A name r
def ownrs (A : List (List AttrM)) (name : Int) (o : List Int) : List Int := o.filter fun x => decide (0 ≤ findM name (anms (A.getD x.toNat [])) 0)
/-- Classes of an order are classes. -/
def OrdIn (n : Nat) (o : List Int) : Prop := o.length < 1000000000 ∧ ∀ x ∈ o, 0 ≤ x ∧ x < n
def fndM (w : WorldM) (c name : Int) : Int × AttrM := if VWorld w ∧ 0 ≤ c ∧ c ≤ (w.bases.length : Int) - 1 then fnd w.attrs name (ordM w.bases c.toNat) else (-1, ⟨0, 0, 0⟩)

end Go.Vl

namespace Go.Vl
set_option linter.unusedVariables false
set_option linter.unusedSimpArgs false
open Go.Proofs

def ownM (w : WorldM) (c name : Int) : List Int := if VWorld w ∧ 0 ≤ c ∧ c ≤ (w.bases.length : Int) - 1 then ownrs w.attrs name (ordM w.bases c.toNat) else []
end Go.Vl

namespace Go.Vl
set_option linter.unusedVariables false
set_option linter.unusedSimpArgs false
open Go.Proofs

def rstM (o : List Int) (x : Int) : List Int := if 0 ≤ findM x o 0 then o.drop (findM x o 0 + 1).toNat else []
def nxtO (o : List Int) (x : Int) : Int := if 0 ≤ findM x o 0 ∧ findM x o 0 + 1 < o.length then o.getD (findM x o 0 + 1).toNat 0 else -1
theorem findM_ltL {x : Int} {o : List Int} (h : 0 ≤ findM x o 0) : findM x o 0 < o.length := by
  obtain ⟨i, hi, h1, _⟩ := findM_pos_iff (n := x) (l := o) (k := 0) (by omega) h
  omega
theorem rstM_len {o : List Int} {x : Int} : (rstM o x).length = if 0 ≤ findM x o 0 then o.length - (findM x o 0 + 1).toNat else 0 := by
  unfold rstM; split <;> simp
theorem nxtO_nil {o : List Int} {x : Int} (h : (rstM o x).length = 0) : nxtO o x = -1 := by
  rw [rstM_len] at h
  unfold nxtO
  split at h
  · rw [if_neg (by omega)]
  · rw [if_neg (by omega)]
theorem nxtO_get {o : List Int} {x : Int} (h : (rstM o x).length ≠ 0) : nxtO o x = (rstM o x).getD 0 0 := by
  rw [rstM_len] at h
  unfold nxtO
  split at h
  · rename_i h0
    rw [if_pos ⟨h0, by omega⟩]; unfold rstM; rw [if_pos h0]
    simp [List.getD]
  · exact absurd rfl h
theorem orR_eq {b : List (List Int)} {c : Int} (h : VB b ∧ 0 ≤ c ∧ c < b.length) : orR b c = ordM b c.toNat := by
  by_cases h2 : orOK b c
  · exact orR_yes h2
  · rw [orR_no h2]
    by_cases h3 : ordM b c.toNat = []
    · exact h3.symm
    · exact absurd ⟨h, h3⟩ h2
theorem orR_bad {b : List (List Int)} {c : Int} (h : ¬ (VB b ∧ 0 ≤ c ∧ c < b.length)) : orR b c = [] := orR_no fun h2 => h h2.1

theorem restBehind_sat {nl0 : Option Bool} {order : List Int} {cls : Int} (horder : order.length < 1000000000)  : SatAt Try.prog 70 [.pv false (.sl nl0 1 (order.map intP)), i64 cls] [] (fun res rows => ∃ f nl, res = [.pv f (.sl nl 1 ((rstM order cls).map intP))] ∧ rows = []) := by
  refine sat_entry_G (rs := [(4, none)]) Try.func70 rfl rfl (Nat.le_of_ble_eq_true rfl) (Nat.le_of_ble_eq_true rfl) (resTs1 trivial) fun C hC => ?_
  rw [Try.ntmps70]
  replace hC : C.nb = 0 := hC
  refine vc_seq fun K1 hK1 => ?_
  refine vc_region ?_
  refine vo_assign_pv rfl rfl ?_
  refine vo_own_nil 4 E36 rfl ?_
  refine vo_nil ?_
  refine hK1 _ ?_
  refine vc_seq fun K2 hK2 => ?_
  refine vc_region ?_
  refine vo_move_pv rfl rfl ?_
  refine vo_move_pv rfl rfl ?_
  refine vo_call0 Try.func118 rfl rfl rfl rfl (Index_sat (s := order) horder) ?_
  rintro _ _ ⟨rfl, rfl⟩
  refine ⟨rfl, rfl, .inl rfl, ?_⟩
  refine vo_stM ?_
  refine vo_assign_pv rfl rfl ?_
  refine vo_nil ?_
  refine hK2 _ ?_
  refine vc_seq fun K3 hK3 => ?_
  refine vc_seq fun K4 hK4 => ?_
  refine vc_region ?_
  refine vo_move_pv rfl rfl ?_
  refine vo_binI rfl rfl rfl rfl trivial ?_
  refine vo_nil ?_
  refine hK4 _ ?_
  refine vc_cond rfl (fun hc1 => ?_) (fun hc1 => ?_)
  · try simp only [decide_eq_true_eq, decide_eq_false_iff_not, beq_iff_eq, bne_iff_ne, beq_eq_false_iff_ne, bne_eq_false_iff_eq, Bool.not_eq_true, Bool.not_eq_false, Bool.not_eq_eq_eq_not, Bool.not_true, Bool.not_false, List.length_map, Int.not_lt, Int.not_le, ne_eq, Decidable.not_not] at hc1
    refine vc_seq fun K5 hK5 => ?_
    refine vc_region ?_
    refine vo_assign_pv rfl rfl ?_
    refine vo_own_nil 4 E36 rfl ?_
    refine vo_nil ?_
    refine hK5 _ ?_
    refine vc_expose 1 (by omega) rfl ?_
    refine vc_stM ?_
    refine vc_ret ?_
    change retQ _ _ _ _ _
    refine retQ_sel [] (srows := []) (.inr rfl) hC rfl rfl rfl rfl rfl rfl rfl ?_
    have e : rstM order cls = [] := by unfold rstM; rw [if_neg (by omega)]
    rw [e]; exact ⟨_, _, rfl, rfl⟩
  · try simp only [decide_eq_true_eq, decide_eq_false_iff_not, beq_iff_eq, bne_iff_ne, beq_eq_false_iff_ne, bne_eq_false_iff_eq, Bool.not_eq_true, Bool.not_eq_false, Bool.not_eq_eq_eq_not, Bool.not_true, Bool.not_false, List.length_map, Int.not_lt, Int.not_le, ne_eq, Decidable.not_not] at hc1
    have hlt := findM_ltL (x := cls) (o := order) (by omega)
    refine vc_skip ?_
    refine hK3 _ ?_
    refine vc_seq fun K6 hK6 => ?_
    refine vc_region ?_
    refine vo_move_pv rfl rfl ?_
    refine vo_move_pv rfl rfl ?_
    refine vo_binI rfl rfl rfl rfl sd ?_
    refine vo_slice_pv rfl rfl rfl rfl E36.und inf3 sz3 sd sd sd ?_
    simp only [Int.toNat_natCast, Int.toNat_zero, List.drop_zero, Nat.sub_zero, ← List.map_drop, ← List.map_take]
    refine vo_assign_pv rfl rfl ?_
    refine vo_nil ?_
    refine hK6 _ ?_
    refine vc_ret ?_
    change retQ _ _ _ _ _
    refine retQ_sel [] (srows := []) (.inr rfl) hC rfl rfl rfl rfl rfl rfl rfl ?_
    have e : rstM order cls = (order.drop (findM cls order 0 + 1).toNat).take ((order.map intP).length - (findM cls order 0 + 1).toNat) := by unfold rstM; rw [if_pos (by omega), List.take_of_length_le (by rw [List.length_drop, List.length_map]; omega)]
    rw [e]
    exact ⟨_, _, rfl, rfl⟩


theorem implNextAfter_sat {nl0 : Option Bool} {bases : List (List Int)} {c : Int} {aft : Int} (hbases : bases.length < 1000000000) (hlbases : ∀ l ∈ bases, l.length < 1000000000)  : SatAt Try.prog 24 [.pv false (.sl nl0 1 (bases.map ints)), i64 c, i64 aft] [] (fun res rows => res = [i64 (nxtO (orR bases c) aft)] ∧ rows = []) := by
  have hol := orR_len (b := bases) (c := c)
  refine sat_entry_G (rs := [(6, none)]) Try.func24 rfl rfl (Nat.le_of_ble_eq_true rfl) (Nat.le_of_ble_eq_true rfl) (resTs1 trivial) fun C hC => ?_
  rw [Try.ntmps24]
  replace hC : C.nb = 0 := hC
  refine vc_seq fun K1 hK1 => ?_
  refine vc_region ?_
  refine vo_assign_pv rfl rfl ?_
  refine vo_nil ?_
  refine hK1 _ ?_
  refine vc_seq fun K2 hK2 => ?_
  refine vc_region ?_
  refine vo_move_pv rfl rfl ?_
  refine vo_move_pv rfl rfl ?_
  refine vo_call [] Try.func27 rfl rfl rfl rfl rfl rfl rfl (implOrderOf_sat hbases hlbases) ?_
  rintro _ _ ⟨Rr, nlo, rfl, rfl⟩
  refine ⟨Nat.le_of_ble_eq_true rfl, ⟨rfl, rfl, rfl, rfl⟩, .inl rfl, ?_⟩
  refine vo_stM ?_
  refine vo_move rfl ?_
  refine vo_stM ?_
  refine vo_extract rfl rfl rfl ?_
  refine vo_extract rfl rfl rfl ?_
  refine vo_assign_ref rfl rfl ?_
  refine vo_assign_pv rfl rfl ?_
  refine vo_nil ?_
  refine hK2 _ ?_
  refine vc_seq fun K3 hK3 => ?_
  refine vc_region ?_
  refine vo_move_ref rfl rfl ?_
  refine vo_move_pv rfl rfl ?_
  refine vo_expose 0 (by omega) rfl ?_
  refine vo_stM ?_
  refine vo_weaken 16 rfl ?_
  refine vo_stM ?_
  refine vo_call0 Try.func70 rfl rfl rfl rfl (restBehind_sat (order := orR bases c) hol) ?_
  rintro _ _ ⟨f8, nl8, rfl, rfl⟩
  refine ⟨rfl, rfl, .inl rfl, ?_⟩
  refine vo_stM ?_
  refine vo_flag 18 rfl ?_
  refine vo_stM ?_
  refine vo_assign_pv rfl rfl ?_
  refine vo_nil ?_
  refine hK3 _ ?_
  refine vc_seq fun K4 hK4 => ?_
  refine vc_seq fun K5 hK5 => ?_
  refine vc_region ?_
  refine vo_move_pv rfl rfl ?_
  refine vo_len_pv rfl rfl Try.underlying36 ?_
  refine vo_binI rfl rfl rfl rfl trivial ?_
  refine vo_nil ?_
  refine hK5 _ ?_
  refine vc_cond rfl (fun hc1 => ?_) (fun hc1 => ?_)
  · try simp only [decide_eq_true_eq, decide_eq_false_iff_not, beq_iff_eq, bne_iff_ne, beq_eq_false_iff_ne, bne_eq_false_iff_eq, Bool.not_eq_true, Bool.not_eq_false, Bool.not_eq_eq_eq_not, Bool.not_true, Bool.not_false, List.length_map, Int.not_lt, Int.not_le, ne_eq, Decidable.not_not] at hc1
    refine vc_seq fun K6 hK6 => ?_
    refine vc_region ?_
    refine vo_assign_pv rfl rfl ?_
    refine vo_nil ?_
    refine hK6 _ ?_
    refine vc_ret ?_
    change retQ _ _ _ _ _
    refine retQ_sel [] (srows := []) (.inr rfl) hC rfl rfl rfl rfl rfl rfl rfl ?_
    refine ⟨?_, rfl⟩
    refine (congrArg (fun b => [i64 b]) (?_ : _ = _) : [i64 _] = [i64 _])
    rw [nxtO_nil (by omega)]
  · try simp only [decide_eq_true_eq, decide_eq_false_iff_not, beq_iff_eq, bne_iff_ne, beq_eq_false_iff_ne, bne_eq_false_iff_eq, Bool.not_eq_true, Bool.not_eq_false, Bool.not_eq_eq_eq_not, Bool.not_true, Bool.not_false, List.length_map, Int.not_lt, Int.not_le, ne_eq, Decidable.not_not] at hc1
    refine vc_skip ?_
    refine hK4 _ ?_
    refine vc_seq fun K7 hK7 => ?_
    refine vc_region ?_
    refine vo_move_pv rfl rfl ?_
    refine vo_index_pv (.int .i64 0) rfl rfl rfl E36.und inf3 sz3 sd sd ?_
    simp only [Int.toNat_natCast, Int.toNat_zero, getD_ints, getD_intss, getD_bools, getD_bytes, PV.cells, getD_ops, getD_pairs, getD_insts]
    refine vo_load_adr rfl rfl Try.underlying3 rfl ?_
    refine vo_assign_pv rfl rfl ?_
    refine vo_nil ?_
    refine hK7 _ ?_
    refine vc_ret ?_
    change retQ _ _ _ _ _
    refine retQ_sel [] (srows := []) (.inr rfl) hC rfl rfl rfl rfl rfl rfl rfl ?_
    refine ⟨?_, rfl⟩
    refine (congrArg (fun b => [i64 b]) (?_ : _ = _) : [i64 _] = [i64 _])
    rw [nxtO_get (by omega)]


theorem specNextAfter_sat {nl0 : Option Bool} {bases : List (List Int)} {c : Int} {aft : Int} (hbases : bases.length < 1000000000) (hlbases : ∀ l ∈ bases, l.length < 1000000000)  : SatAt Try.prog 25 [.pv false (.sl nl0 1 (bases.map ints)), i64 c, i64 aft] [] (fun res rows => res = [i64 (nxtO (orR bases c) aft)] ∧ rows = []) := by
  refine sat_entry_G (rs := [(6, none)]) Try.func25 rfl rfl (Nat.le_of_ble_eq_true rfl) (Nat.le_of_ble_eq_true rfl) (resTs1 trivial) fun C hC => ?_
  rw [Try.ntmps25]
  replace hC : C.nb = 0 := hC
  refine vc_seq fun K1 hK1 => ?_
  refine vc_region ?_
  refine vo_assign_pv rfl rfl ?_
  refine vo_nil ?_
  refine hK1 _ ?_
  refine vc_seq fun K2 hK2 => ?_
  refine vc_seq fun K3 hK3 => ?_
  refine vc_region ?_
  refine vo_move_pv rfl rfl ?_
  refine vo_move_pv rfl rfl ?_
  refine vo_call0 Try.func71 rfl rfl rfl rfl (validClass_sat hbases hlbases) ?_
  rintro _ _ ⟨rfl, rfl⟩
  refine ⟨rfl, rfl, .inl rfl, ?_⟩
  refine vo_stM ?_
  refine vo_not rfl rfl ?_
  refine vo_nil ?_
  refine hK3 _ ?_
  refine vc_cond rfl (fun hc1 => ?_) (fun hc1 => ?_)
  · try simp only [decide_eq_true_eq, decide_eq_false_iff_not, beq_iff_eq, bne_iff_ne, beq_eq_false_iff_ne, bne_eq_false_iff_eq, Bool.not_eq_true, Bool.not_eq_false, Bool.not_eq_eq_eq_not, Bool.not_true, Bool.not_false, List.length_map, Int.not_lt, Int.not_le, ne_eq, Decidable.not_not] at hc1
    refine vc_seq fun K4 hK4 => ?_
    refine vc_region ?_
    refine vo_assign_pv rfl rfl ?_
    refine vo_nil ?_
    refine hK4 _ ?_
    refine vc_ret ?_
    change retQ _ _ _ _ _
    refine retQ_sel [] (srows := []) (.inr rfl) hC rfl rfl rfl rfl rfl rfl rfl ?_
    refine ⟨?_, rfl⟩
    refine (congrArg (fun b => [i64 b]) (?_ : _ = _) : [i64 _] = [i64 _])
    rw [orR_bad (by assumption)]; rfl
  · try simp only [decide_eq_true_eq, decide_eq_false_iff_not, beq_iff_eq, bne_iff_ne, beq_eq_false_iff_ne, bne_eq_false_iff_eq, Bool.not_eq_true, Bool.not_eq_false, Bool.not_eq_eq_eq_not, Bool.not_true, Bool.not_false, List.length_map, Int.not_lt, Int.not_le, ne_eq, Decidable.not_not] at hc1
    obtain ⟨n, rfl⟩ := Int.eq_ofNat_of_zero_le hc1.2.1
    have hol := ordM_len hc1.1 (show n < bases.length by omega)
    have ho := orR_eq hc1
    rw [Int.toNat_natCast] at ho
    refine vc_skip ?_
    refine hK2 _ ?_
    refine vc_seq fun K5 hK5 => ?_
    refine vc_region ?_
    refine vo_move_pv rfl rfl ?_
    refine vo_move_pv rfl rfl ?_
    refine vo_call [] Try.func72 rfl rfl rfl rfl rfl rfl rfl (orderOf_sat hbases hlbases hc1.1 n (by omega)) ?_
    rintro _ _ ⟨nlo, rfl, rfl⟩
    refine ⟨Nat.le_of_ble_eq_true rfl, ⟨rfl, rfl, rfl, rfl⟩, .inl rfl, ?_⟩
    refine vo_stM ?_
    refine vo_assign_ref rfl rfl ?_
    refine vo_nil ?_
    refine hK5 _ ?_
    refine vc_seq fun K6 hK6 => ?_
    refine vc_region ?_
    refine vo_move_ref rfl rfl ?_
    refine vo_move_pv rfl rfl ?_
    refine vo_call0 Try.func73 rfl rfl rfl rfl (placeIn_sat (list := ordM bases n) (by omega)) ?_
    rintro _ _ ⟨rfl, rfl⟩
    refine ⟨rfl, rfl, .inr rfl, ?_⟩
    refine vo_stM ?_
    refine vo_assign_pv rfl rfl ?_
    refine vo_nil ?_
    refine hK6 _ ?_
    refine vc_seq fun K7 hK7 => ?_
    refine vc_seq fun K8 hK8 => ?_
    refine vc_region ?_
    refine vo_move_pv rfl rfl ?_
    refine vo_binI rfl rfl rfl rfl trivial ?_
    refine vo_move_pv rfl rfl ?_
    refine vo_split 21 rfl (fun hg2 => ?_) (fun hg2 => ?_)
    · try simp only [decide_eq_true_eq, decide_eq_false_iff_not, beq_iff_eq, bne_iff_ne, beq_eq_false_iff_ne, bne_eq_false_iff_eq, Bool.not_eq_true, Bool.not_eq_false, Bool.not_eq_eq_eq_not, Bool.not_true, Bool.not_false, List.length_map, Int.not_lt, Int.not_le, ne_eq, Decidable.not_not] at hg2
      refine vo_guard_off rfl rfl rfl rfl rfl ?_
      refine vo_guard_off rfl rfl rfl rfl rfl ?_
      refine vo_guard_off rfl rfl rfl rfl rfl ?_
      refine vo_guard_off rfl rfl rfl rfl rfl ?_
      refine vo_guard_off rfl rfl rfl rfl rfl ?_
      refine vo_pick_t rfl rfl ?_
      refine vo_nil ?_
      refine hK8 _ ?_
      refine vc_cond_t rfl ?_
      refine vc_seq fun K9 hK9 => ?_
      refine vc_region ?_
      refine vo_assign_pv rfl rfl ?_
      refine vo_nil ?_
      refine hK9 _ ?_
      refine vc_ret ?_
      change retQ _ _ _ _ _
      refine retQ_sel [] (srows := []) (.inr rfl) hC rfl rfl rfl rfl rfl rfl rfl ?_
      refine ⟨?_, rfl⟩
      refine (congrArg (fun b => [i64 b]) (?_ : _ = _) : [i64 _] = [i64 _])
      rw [ho]; unfold nxtO; rw [if_neg (by omega)]
    · try simp only [decide_eq_true_eq, decide_eq_false_iff_not, beq_iff_eq, bne_iff_ne, beq_eq_false_iff_ne, bne_eq_false_iff_eq, Bool.not_eq_true, Bool.not_eq_false, Bool.not_eq_eq_eq_not, Bool.not_true, Bool.not_false, List.length_map, Int.not_lt, Int.not_le, ne_eq, Decidable.not_not] at hg2
      have hlt := findM_ltL (x := aft) (o := ordM bases n) (by omega)
      refine vo_guard_on rfl rfl rfl ?_
      refine vo_move_pv rfl rfl ?_
      refine vo_guard_on rfl rfl rfl ?_
      refine vo_binI rfl rfl rfl rfl sd ?_
      refine vo_guard_on rfl rfl rfl ?_
      refine vo_move_ref rfl rfl ?_
      refine vo_guard_on rfl rfl rfl ?_
      refine vo_len_ref rfl rfl rfl Try.underlying36 ?_
      refine vo_guard_on rfl rfl rfl ?_
      refine vo_binI rfl rfl rfl rfl trivial ?_
      refine vo_pick_f rfl rfl ?_
      refine vo_nil ?_
      refine hK8 _ ?_
      refine vc_cond rfl (fun hc3 => ?_) (fun hc3 => ?_)
      · try simp only [decide_eq_true_eq, decide_eq_false_iff_not, beq_iff_eq, bne_iff_ne, beq_eq_false_iff_ne, bne_eq_false_iff_eq, Bool.not_eq_true, Bool.not_eq_false, Bool.not_eq_eq_eq_not, Bool.not_true, Bool.not_false, List.length_map, Int.not_lt, Int.not_le, ne_eq, Decidable.not_not] at hc3
        refine vc_seq fun K10 hK10 => ?_
        refine vc_region ?_
        refine vo_assign_pv rfl rfl ?_
        refine vo_nil ?_
        refine hK10 _ ?_
        refine vc_ret ?_
        change retQ _ _ _ _ _
        refine retQ_sel [] (srows := []) (.inr rfl) hC rfl rfl rfl rfl rfl rfl rfl ?_
        refine ⟨?_, rfl⟩
        refine (congrArg (fun b => [i64 b]) (?_ : _ = _) : [i64 _] = [i64 _])
        rw [ho]; unfold nxtO; rw [if_neg (by omega)]
      · try simp only [decide_eq_true_eq, decide_eq_false_iff_not, beq_iff_eq, bne_iff_ne, beq_eq_false_iff_ne, bne_eq_false_iff_eq, Bool.not_eq_true, Bool.not_eq_false, Bool.not_eq_eq_eq_not, Bool.not_true, Bool.not_false, List.length_map, Int.not_lt, Int.not_le, ne_eq, Decidable.not_not] at hc3
        refine vc_skip ?_
        refine hK7 _ ?_
        refine vc_seq fun K11 hK11 => ?_
        refine vc_region ?_
        refine vo_move_ref rfl rfl ?_
        refine vo_move_pv rfl rfl ?_
        refine vo_binI rfl rfl rfl rfl sd ?_
        refine vo_index_ref rfl rfl rfl rfl E36.und inf3 sz3 sd sd ?_
        try simp only [Int.toNat_natCast]
        refine vo_load_own rfl rfl rfl Try.underlying3 rfl sd (getD_ints _ _) rfl ?_
        try simp only [Int.toNat_natCast]
        refine vo_assign_pv rfl rfl ?_
        refine vo_nil ?_
        refine hK11 _ ?_
        refine vc_ret ?_
        change retQ _ _ _ _ _
        refine retQ_sel [] (srows := []) (.inr rfl) hC rfl rfl rfl rfl rfl rfl rfl ?_
        refine ⟨?_, rfl⟩
        refine (congrArg (fun b => [i64 b]) (?_ : _ = _) : [i64 _] = [i64 _])
        rw [ho]; unfold nxtO; rw [if_pos (by omega)]

end Go.Vl

/- Calls by any operation that enters a function: by name, through an interface, of a value. -/
namespace Go.Vl
set_option linter.unusedVariables false
set_option linter.unusedSimpArgs false
open Go.RowKit
section
variable {P : Program} {C : Ctx} {Q : Go.Exit → St → Prop} {s : St}

end
end Go.Vl

namespace Go.Vl
open Go.RowKit
section
variable {P : Program} {C : Ctx} {Q : Go.Exit → St → Prop} {s : St} {ops : Array Oper} {rest : List Oper} {t : Nat} {ty : TypeId} {pos : String} {af : Array Edge}

/-- Which function a method is, for a dynamic type; and what it is given. -/
def MethAt (P : Program) (T : TypeId) (name : String) (p : PV) (F : FuncId) (q : PV) : Prop :=
  ∀ (w : World) (G : Nat → Prop) (v : Value), RP w G p v → ∃ r, (Go.method (P.types.size + Made.depth) T v name).run P w = .ok (F, r) w ∧ RP w G q r

end
end Go.Vl

namespace Go.Vl
set_option linter.unusedVariables false
set_option linter.unusedSimpArgs false
open Go.Proofs

structure FoundM where
  how : Int
  owner : Int
  value : Int
  self : Int
  deriving Inhabited, DecidableEq
abbrev foundP (f : FoundM) : PV := .agg [.int .i64 f.how, .int .i64 f.owner, .int .i64 f.value, .int .i64 f.self]
def none0 : FoundM := ⟨0, -1, -1, -1⟩
abbrev memP (o : Int) (a : AttrM) : PV := .agg [.int .i64 o, .int .i64 a.name, .int .i64 a.kind, .int .i64 a.value]
def bindM (ow : Int) (a : AttrM) (obj c : Int) : FoundM :=
  if a.kind = 1 then ⟨if 0 ≤ obj then 3 else 2, ow, a.value, obj⟩
  else if a.kind = 4 then ⟨3, ow, a.value, c⟩
  else if (a.kind = 2 ∨ a.kind = 3) ∧ 0 ≤ obj then ⟨4, ow, a.value, obj⟩
  else ⟨2, ow, a.value, -1⟩
def getR (ow : Int) (a : AttrM) (z pv x cls : Int) : FoundM :=
  if 0 ≤ ow ∧ (a.kind = 2 ∨ a.kind = 3) then bindM ow a x cls else if 0 ≤ z then ⟨1, -1, pv, x⟩ else if 0 ≤ ow then bindM ow a x cls else none0
def getM (w : WorldM) (x : Nat) (name : Int) : FoundM :=
  getR (fnd w.attrs name (ordM w.bases (w.objs.getD x ⟨0, []⟩).cls.toNat)).1 (fnd w.attrs name (ordM w.bases (w.objs.getD x ⟨0, []⟩).cls.toNat)).2 (findM name (nms (w.objs.getD x ⟨0, []⟩).pairs) 0)
    ((w.objs.getD x ⟨0, []⟩).pairs.getD (findM name (nms (w.objs.getD x ⟨0, []⟩).pairs) 0).toNat (0, 0)).2 x (w.objs.getD x ⟨0, []⟩).cls
def hasO (w : WorldM) (x : Int) : Prop := VWorld w ∧ 0 ≤ x ∧ x ≤ (w.objs.length : Int) - 1
instance (w : WorldM) (x : Int) : Decidable (hasO w x) := by unfold hasO; exact inferInstance
def getAttrM (w : WorldM) (x name : Int) : FoundM := if hasO w x then getM w x.toNat name else none0
def getClsM (w : WorldM) (c name : Int) : FoundM := if 0 ≤ (fndM w c name).1 then bindM (fndM w c name).1 (fndM w c name).2 (-1) c else none0
def bindO (r : Int × AttrM) (x c : Int) : FoundM := if 0 ≤ r.1 then bindM r.1 r.2 x c else none0
def superM (w : WorldM) (x beh name : Int) : FoundM := if hasO w x then bindO (fnd w.attrs name (rstM (ordM w.bases (w.objs.getD x.toNat ⟨0, []⟩).cls.toNat) beh)) x (w.objs.getD x.toNat ⟨0, []⟩).cls else none0
/-- A member of a class: one of six types. -/
def MemIs (ow : Int) (a : AttrM) (p : PV) : Prop := (ow < 0 ∧ p = .ifc 178 (.agg [])) ∨ ((0 ≤ ow ∧ a.kind ≠ 1 ∧ a.kind ≠ 2 ∧ a.kind ≠ 3 ∧ a.kind ≠ 4) ∧ p = .ifc 180 (memP ow a)) ∨ ((0 ≤ ow ∧ a.kind = 1) ∧ p = .ifc 182 (memP ow a)) ∨
  ((0 ≤ ow ∧ a.kind = 3) ∧ p = .ifc 183 (memP ow a)) ∨ ((0 ≤ ow ∧ a.kind = 2) ∧ p = .ifc 185 (memP ow a)) ∨ ((0 ≤ ow ∧ a.kind = 4) ∧ p = .ifc 186 (memP ow a))
end Go.Vl

namespace Go.Vl
set_option linter.unusedVariables false
set_option linter.unusedSimpArgs false
open Go.Proofs

end Go.Vl

namespace Go.Vl
set_option linter.unusedVariables false
set_option linter.unusedSimpArgs false
open Go.Proofs

def acOK (b : List (List Int)) (l : List Int) : Prop := VB b ∧ VB (b ++ [l]) ∧ ordM (b ++ [l]) b.length ≠ []
instance {b : List (List Int)} {l : List Int} : Decidable (acOK b l) := by unfold acOK; infer_instance
def acR (b : List (List Int)) (l : List Int) : List (List Int) := if acOK b l then b ++ [l] else []
end Go.Vl

namespace Go.Vl
set_option linter.unusedVariables false
set_option linter.unusedSimpArgs false
open Go.Proofs

def mkLL : Int → List (List Int) → List (List Int)
  | _, [] => []
  | k, l :: r => markL k l.length :: mkLL (k + l.length) r
def mkE : Int → List (List Int) → Int
  | k, [] => k
  | k, l :: r => mkE (k + l.length) r
end Go.Vl

namespace Go.Vl
set_option linter.unusedVariables false
set_option linter.unusedSimpArgs false
open Go.Proofs

/-- A reader that has given p numbers. -/
abbrev rdr (nl : Option Bool) (c : List (Fin 256)) (p : Nat) : Row := .var 150 [.pv false (.sl nl 1 (c.map byteP)), i64 p]
/-- Bases as the readers make them. -/
def SB (B : List (List Int)) : Prop := 1 ≤ B.length ∧ B.getD 0 [] = [] ∧ ∀ i, i < B.length → 0 < i → B.getD i [] ≠ [] ∧ (B.getD i []).length ≤ 3 ∧ (B.getD i []).Nodup ∧ ∀ x ∈ B.getD i [], 0 ≤ x ∧ x < i
theorem getD_app {α : Type} {l l' : List α} {i : Nat} (h : i < l.length) (d : α) : (l ++ l').getD i d = l.getD i d := by simp [List.getD, List.getElem?_append_left h]
theorem getD_end {α : Type} {l : List α} {x : α} (d : α) : (l ++ [x]).getD l.length d = x := by simp [List.getD]
theorem nodup_snoc {l : List Int} {x : Int} (h : l.Nodup) (hx : x ∉ l) : (l ++ [x]).Nodup := by
  rw [List.nodup_append]; exact ⟨h, by simp, fun a ha b hb e => hx (by rw [List.mem_singleton.1 hb] at e; exact e ▸ ha)⟩
theorem SB.snoc {B : List (List Int)} {l : List Int} (h : SB B) (h1 : l ≠ []) (h2 : l.length ≤ 3) (h3 : l.Nodup) (h4 : ∀ x ∈ l, 0 ≤ x ∧ x < B.length) : SB (B ++ [l]) := by
  obtain ⟨a1, a2, a3⟩ := h
  refine ⟨by simp, by rw [getD_app (by omega)]; exact a2, fun i hi h0 => ?_⟩
  rcases Nat.lt_or_ge i B.length with hb | hb
  · rw [getD_app hb]; exact a3 i hb h0
  · have : i = B.length := by simp at hi; omega
    subst this
    rw [getD_end]
    exact ⟨h1, h2, h3, h4⟩
theorem SB.lens {B : List (List Int)} (h : SB B) : ∀ l ∈ B, l.length ≤ 3 := by
  intro l hl
  obtain ⟨i, hi, rfl⟩ := List.getElem_of_mem hl
  have e : B[i] = B.getD i [] := by simp [List.getD, List.getElem?_eq_getElem hi]
  rw [e]
  rcases Nat.eq_zero_or_pos i with rfl | h0
  · rw [h.2.1]; simp
  · exact (h.2.2 i hi h0).2.1

theorem newReader_sat {nl : Option Bool} {c : List (Fin 256)} (hl : c.length < 1000000000) : SatAt Try.prog 66 [.pv false (.sl nl 1 (c.map byteP))] [] (fun res rows => ∃ nl2 c2, c2.length ≤ 2000 ∧ res = [.ptr 0 0 0 0] ∧ rows = [rdr nl2 c2 0]) := by
  refine sat_entry_g (ts := [2]) Try.func66 rfl rfl (by decide) (Nat.le_of_ble_eq_true rfl) fun C hC => ?_
  rw [Try.ntmps66]
  replace hC : C.nb = 0 := hC
  refine vc_seq fun K1 hK1 => ?_
  refine vc_region ?_
  refine vo_assign rfl ?_
  refine vo_nil ?_
  refine hK1 _ ?_
  refine vc_seq fun K2 hK2 => ?_
  refine vc_seq fun K3 hK3 => ?_
  refine vc_region ?_
  refine vo_move_pv rfl rfl ?_
  refine vo_len_pv rfl rfl Try.underlying31 ?_
  refine vo_binI rfl rfl rfl rfl trivial ?_
  refine vo_nil ?_
  refine hK3 _ ?_
  refine vc_cond rfl (fun hc1 => ?_) (fun hc1 => ?_)
  · try simp only [decide_eq_true_eq, decide_eq_false_iff_not, beq_iff_eq, bne_iff_ne, beq_eq_false_iff_ne, bne_eq_false_iff_eq, Bool.not_eq_true, Bool.not_eq_false, Bool.not_eq_eq_eq_not, Bool.not_true, Bool.not_false, List.length_map, Int.not_lt, Int.not_le, ne_eq, Decidable.not_not] at hc1
    refine vc_region ?_
    refine vo_move_pv rfl rfl ?_
    refine vo_slice_pv rfl rfl rfl rfl E31.und inf5 sz5 sd sd sd ?_
    simp only [Int.toNat_natCast, Int.toNat_zero, List.drop_zero, Nat.sub_zero, ← List.map_drop, ← List.map_take]
    refine vo_assign_pv rfl rfl ?_
    refine vo_nil ?_
    refine hK2 _ ?_
    refine vc_seq fun K4 hK4 => ?_
    refine vc_region ?_
    refine vo_move_pv rfl rfl ?_
    refine vo_build S150 rfl rfl rfl ?_
    refine vo_box rfl rfl ?_
    refine vo_assign_ptr rfl rfl ?_
    refine vo_nil ?_
    refine hK4 _ ?_
    refine vc_ret ?_
    change retG _ _ _ _ _
    refine retG_one 0 hC rfl rfl rfl rfl rfl ?_
    refine ⟨_, _, ?_, rfl, rfl⟩
    first | omega | (simp; omega)
  · try simp only [decide_eq_true_eq, decide_eq_false_iff_not, beq_iff_eq, bne_iff_ne, beq_eq_false_iff_ne, bne_eq_false_iff_eq, Bool.not_eq_true, Bool.not_eq_false, Bool.not_eq_eq_eq_not, Bool.not_true, Bool.not_false, List.length_map, Int.not_lt, Int.not_le, ne_eq, Decidable.not_not] at hc1
    refine vc_skip ?_
    refine hK2 _ ?_
    refine vc_seq fun K5 hK5 => ?_
    refine vc_region ?_
    refine vo_move_pv rfl rfl ?_
    refine vo_build S150 rfl rfl rfl ?_
    refine vo_box rfl rfl ?_
    refine vo_assign_ptr rfl rfl ?_
    refine vo_nil ?_
    refine hK5 _ ?_
    refine vc_ret ?_
    change retG _ _ _ _ _
    refine retG_one 0 hC rfl rfl rfl rfl rfl ?_
    refine ⟨_, _, ?_, rfl, rfl⟩
    first | omega | (simp; omega)


theorem pick_sat {nl : Option Bool} {c : List (Fin 256)} {p : Nat} {n : Int} (hc : c.length ≤ 2000) (hp : p < 1000000) : SatAt Try.prog 69 [.ptr 0 0 0 0, i64 n] [rdr nl c p] (fun res rows => ∃ x, (0 ≤ x ∧ (1 ≤ n → x < n)) ∧ res = [i64 x] ∧ rows = [rdr nl c (p + 1)]) := by
  have hL : ((c.map byteP).length : Int) = c.length := by simp
  refine sat_entry_g (ts := [4]) Try.func69 rfl rfl (by decide) (Nat.le_of_ble_eq_true rfl) fun C hC => ?_
  rw [Try.ntmps69]
  replace hC : C.nb = 1 := hC
  refine vc_seq fun K1 hK1 => ?_
  refine vc_region ?_
  refine vo_assign_pv rfl rfl ?_
  refine vo_nil ?_
  refine hK1 _ ?_
  refine vc_seq fun K2 hK2 => ?_
  refine vc_region ?_
  refine vo_move_ptr rfl rfl ?_
  refine vo_move_ptr rfl rfl ?_
  refine vo_nilCheck_ptr rfl rfl ?_
  refine vo_fieldAddr_ptr rfl rfl Try.underlying150 rfl inf3 (by rw [sz3]; decide) ?_
  refine vo_load_var rfl rfl rfl Try.underlying3 rfl rfl ?_
  refine vo_binI rfl rfl rfl rfl sd ?_
  refine vo_nilCheck_ptr rfl rfl ?_
  refine vo_fieldAddr_ptr rfl rfl Try.underlying150 rfl inf3 (by rw [sz3]; decide) ?_
  refine vo_store_var rfl rfl rfl rfl inf3 sz3 rfl ?_
  refine vo_nil ?_
  refine hK2 _ ?_
  refine vc_seq fun K3 hK3 => ?_
  refine vc_seq fun K4 hK4 => ?_
  refine vc_region ?_
  refine vo_move_pv rfl rfl ?_
  refine vo_binI rfl rfl rfl rfl trivial ?_
  refine vo_move_pv rfl rfl ?_
  refine vo_split 17 rfl (fun hg1 => ?_) (fun hg1 => ?_)
  · try simp only [decide_eq_true_eq, decide_eq_false_iff_not, beq_iff_eq, bne_iff_ne, beq_eq_false_iff_ne, bne_eq_false_iff_eq, Bool.not_eq_true, Bool.not_eq_false, Bool.not_eq_eq_eq_not, Bool.not_true, Bool.not_false, List.length_map, Int.not_lt, Int.not_le, ne_eq, Decidable.not_not] at hg1
    refine vo_guard_off rfl rfl rfl rfl rfl ?_
    refine vo_guard_off rfl rfl rfl rfl rfl ?_
    refine vo_guard_off rfl rfl rfl rfl rfl ?_
    refine vo_guard_off rfl rfl rfl rfl rfl ?_
    refine vo_guard_off rfl rfl rfl rfl rfl ?_
    refine vo_guard_off rfl rfl rfl rfl rfl ?_
    refine vo_pick_t rfl rfl ?_
    refine vo_nil ?_
    refine hK4 _ ?_
    refine vc_cond_t rfl ?_
    refine vc_seq fun K5 hK5 => ?_
    refine vc_region ?_
    refine vo_assign_pv rfl rfl ?_
    refine vo_nil ?_
    refine hK5 _ ?_
    refine vc_ret ?_
    change retG _ _ _ _ _
    refine retG_sel [] [] hC rfl rfl rfl rfl rfl rfl ?_
    exact ⟨_, ⟨by omega, by omega⟩, rfl, rfl⟩
  · try simp only [decide_eq_true_eq, decide_eq_false_iff_not, beq_iff_eq, bne_iff_ne, beq_eq_false_iff_ne, bne_eq_false_iff_eq, Bool.not_eq_true, Bool.not_eq_false, Bool.not_eq_eq_eq_not, Bool.not_true, Bool.not_false, List.length_map, Int.not_lt, Int.not_le, ne_eq, Decidable.not_not] at hg1
    refine vo_guard_on rfl rfl rfl ?_
    refine vo_move_ptr rfl rfl ?_
    refine vo_guard_on rfl rfl rfl ?_
    refine vo_nilCheck_ptr rfl rfl ?_
    refine vo_guard_on rfl rfl rfl ?_
    refine vo_fieldAddr_ptr rfl rfl Try.underlying150 rfl inf31 (by rw [sz31]; decide) ?_
    refine vo_guard_on rfl rfl rfl ?_
    refine vo_load_var rfl rfl rfl Try.underlying31 rfl rfl ?_
    refine vo_guard_on rfl rfl rfl ?_
    refine vo_len_pv rfl rfl Try.underlying31 ?_
    refine vo_guard_on rfl rfl rfl ?_
    refine vo_binI rfl rfl rfl rfl trivial ?_
    refine vo_pick_f rfl rfl ?_
    refine vo_nil ?_
    refine hK4 _ ?_
    refine vc_cond rfl (fun hc2 => ?_) (fun hc2 => ?_)
    · try simp only [decide_eq_true_eq, decide_eq_false_iff_not, beq_iff_eq, bne_iff_ne, beq_eq_false_iff_ne, bne_eq_false_iff_eq, Bool.not_eq_true, Bool.not_eq_false, Bool.not_eq_eq_eq_not, Bool.not_true, Bool.not_false, List.length_map, Int.not_lt, Int.not_le, ne_eq, Decidable.not_not] at hc2
      refine vc_seq fun K6 hK6 => ?_
      refine vc_region ?_
      refine vo_assign_pv rfl rfl ?_
      refine vo_nil ?_
      refine hK6 _ ?_
      refine vc_ret ?_
      change retG _ _ _ _ _
      refine retG_sel [] [] hC rfl rfl rfl rfl rfl rfl ?_
      exact ⟨_, ⟨by omega, by omega⟩, rfl, rfl⟩
    · try simp only [decide_eq_true_eq, decide_eq_false_iff_not, beq_iff_eq, bne_iff_ne, beq_eq_false_iff_ne, bne_eq_false_iff_eq, Bool.not_eq_true, Bool.not_eq_false, Bool.not_eq_eq_eq_not, Bool.not_true, Bool.not_false, List.length_map, Int.not_lt, Int.not_le, ne_eq, Decidable.not_not] at hc2
      refine vc_skip ?_
      refine hK3 _ ?_
      refine vc_seq fun K7 hK7 => ?_
      refine vc_region ?_
      refine vo_move_ptr rfl rfl ?_
      refine vo_nilCheck_ptr rfl rfl ?_
      refine vo_fieldAddr_ptr rfl rfl Try.underlying150 rfl inf3 (by rw [sz3]; decide) ?_
      refine vo_load_var rfl rfl rfl Try.underlying3 rfl rfl ?_
      refine vo_binI rfl rfl rfl rfl sd ?_
      refine vo_assign_pv rfl rfl ?_
      refine vo_nil ?_
      refine hK7 _ ?_
      refine vc_seq fun K8 hK8 => ?_
      refine vc_seq fun K9 hK9 => ?_
      refine vc_region ?_
      refine vo_move_pv rfl rfl ?_
      refine vo_move_ptr rfl rfl ?_
      refine vo_nilCheck_ptr rfl rfl ?_
      refine vo_fieldAddr_ptr rfl rfl Try.underlying150 rfl inf31 (by rw [sz31]; decide) ?_
      refine vo_load_var rfl rfl rfl Try.underlying31 rfl rfl ?_
      refine vo_len_pv rfl rfl Try.underlying31 ?_
      refine vo_binI rfl rfl rfl rfl trivial ?_
      refine vo_nil ?_
      refine hK9 _ ?_
      refine vc_cond rfl (fun hc3 => ?_) (fun hc3 => ?_)
      · try simp only [decide_eq_true_eq, decide_eq_false_iff_not, beq_iff_eq, bne_iff_ne, beq_eq_false_iff_ne, bne_eq_false_iff_eq, Bool.not_eq_true, Bool.not_eq_false, Bool.not_eq_eq_eq_not, Bool.not_true, Bool.not_false, List.length_map, Int.not_lt, Int.not_le, ne_eq, Decidable.not_not] at hc3
        refine vc_seq fun K10 hK10 => ?_
        refine vc_region ?_
        refine vo_move_ptr rfl rfl ?_
        refine vo_nilCheck_ptr rfl rfl ?_
        refine vo_fieldAddr_ptr rfl rfl Try.underlying150 rfl inf31 (by rw [sz31]; decide) ?_
        refine vo_load_var rfl rfl rfl Try.underlying31 rfl rfl ?_
        refine vo_move_pv rfl rfl ?_
        refine vo_index_pv (.int .u8 0) rfl rfl rfl E31.und inf5 sz5 sd sd ?_
        simp only [Int.toNat_natCast, Int.toNat_zero, getD_ints, getD_intss, getD_bools, getD_bytes, PV.cells]
        refine vo_load_adr rfl rfl Try.underlying5 rfl ?_
        refine vo_convI rfl rfl Try.underlying5 Try.underlying3 sd ?_
        refine vo_move_pv rfl rfl ?_
        refine vo_binI rfl rfl rfl rfl sd ?_
        refine vo_assign_pv rfl rfl ?_
        refine vo_nil ?_
        refine hK10 _ ?_
        refine vc_ret ?_
        change retG _ _ _ _ _
        refine retG_sel [] [] hC rfl rfl rfl rfl rfl rfl ?_
        exact ⟨_, ⟨Int.emod_nonneg _ (by omega), fun h => Int.emod_lt_of_pos _ (by omega)⟩, rfl, rfl⟩
      · try simp only [decide_eq_true_eq, decide_eq_false_iff_not, beq_iff_eq, bne_iff_ne, beq_eq_false_iff_ne, bne_eq_false_iff_eq, Bool.not_eq_true, Bool.not_eq_false, Bool.not_eq_eq_eq_not, Bool.not_true, Bool.not_false, List.length_map, Int.not_lt, Int.not_le, ne_eq, Decidable.not_not] at hc3
        have e1 : 0 ≤ ((p : Int) + 1 - 1) % ((c.map byteP).length : Int) := Int.emod_nonneg _ (by omega)
        have e2 : ((p : Int) + 1 - 1) % ((c.map byteP).length : Int) < ((c.map byteP).length : Int) := Int.emod_lt_of_pos _ (by omega)
        have e3 : 0 ≤ (((p : Int) + 1 - 1) * 7 + 3) % ((c.map byteP).length : Int) := Int.emod_nonneg _ (by omega)
        have e4 : (((p : Int) + 1 - 1) * 7 + 3) % ((c.map byteP).length : Int) < ((c.map byteP).length : Int) := Int.emod_lt_of_pos _ (by omega)
        have e5 : 0 ≤ ((p : Int) + 1 - 1) / ((c.map byteP).length : Int) := Int.ediv_nonneg (by omega) (by omega)
        have e6 : ((p : Int) + 1 - 1) / ((c.map byteP).length : Int) ≤ (p : Int) + 1 - 1 := Int.ediv_le_self _ (by omega)
        refine vc_skip ?_
        refine hK8 _ ?_
        refine vc_seq fun K11 hK11 => ?_
        refine vc_draw (by kernel_rfl) ?_
        change VD _ _ _ 46 _ _ _
        refine vd_light 0 rfl rfl rfl (by kernel_rfl) (by kernel_rfl) (by kernel_rfl) (wnt_none rfl) (lt_move_ptr rfl) ?_
        refine vd_light 1 rfl rfl rfl (by kernel_rfl) (by kernel_rfl) (by kernel_rfl) (wnt_none rfl) (lt_nilCheck_ptr rfl) ?_
        refine vd_light 2 rfl rfl rfl (by kernel_rfl) (by kernel_rfl) (by kernel_rfl) (wnt_none rfl) (lt_fieldAddr_ptr rfl Try.underlying150 rfl inf31 (by rw [sz31]; decide)) ?_
        refine vd_light 3 rfl rfl rfl (by kernel_rfl) (by kernel_rfl) (by kernel_rfl) (wnt_none rfl) (lt_load_var rfl rfl Try.underlying31 rfl rfl) ?_
        refine vd_light 4 rfl rfl rfl (by kernel_rfl) (by kernel_rfl) (by kernel_rfl) (wnt_none rfl) (lt_move_pv rfl) ?_
        refine vd_light 5 rfl rfl rfl (by kernel_rfl) (by kernel_rfl) (by kernel_rfl) (wnt_none rfl) (lt_move_ptr rfl) ?_
        refine vd_light 6 rfl rfl rfl (by kernel_rfl) (by kernel_rfl) (by kernel_rfl) (wnt_none rfl) (lt_nilCheck_ptr rfl) ?_
        refine vd_light 7 rfl rfl rfl (by kernel_rfl) (by kernel_rfl) (by kernel_rfl) (wnt_none rfl) (lt_fieldAddr_ptr rfl Try.underlying150 rfl inf31 (by rw [sz31]; decide)) ?_
        refine vd_light 8 rfl rfl rfl (by kernel_rfl) (by kernel_rfl) (by kernel_rfl) (wnt_none rfl) (lt_load_var rfl rfl Try.underlying31 rfl rfl) ?_
        refine vd_light 9 rfl rfl rfl (by kernel_rfl) (by kernel_rfl) (by kernel_rfl) (wnt_none rfl) (lt_len_pv rfl Try.underlying31) ?_
        refine vd_light 10 rfl rfl rfl (by kernel_rfl) (by kernel_rfl) (by kernel_rfl) (wnt_none rfl) (lt_binI rfl rfl rfl sd) ?_
        refine vd_light 11 rfl rfl rfl (by kernel_rfl) (by kernel_rfl) (by kernel_rfl) (wnt_none rfl) (lt_index_pv (.int .u8 0) rfl rfl E31.und inf5 sz5 sd sd) ?_
        simp only [Int.toNat_natCast, Int.toNat_zero, getD_ints, getD_intss, getD_bools, getD_bytes, PV.cells]
        refine vd_light 12 rfl rfl rfl (by kernel_rfl) (by kernel_rfl) (by kernel_rfl) (wnt_none rfl) (lt_load_adr rfl Try.underlying5 rfl) ?_
        refine vd_light 13 rfl rfl rfl (by kernel_rfl) (by kernel_rfl) (by kernel_rfl) (wnt_none rfl) (lt_convI rfl Try.underlying5 Try.underlying3 sd) ?_
        refine vd_light 14 rfl rfl rfl (by kernel_rfl) (by kernel_rfl) (by kernel_rfl) (wnt_none rfl) (lt_binI rfl rfl rfl sd) ?_
        refine vd_light 15 rfl rfl rfl (by kernel_rfl) (by kernel_rfl) (by kernel_rfl) (wnt_none rfl) (lt_move_ptr rfl) ?_
        refine vd_light 16 rfl rfl rfl (by kernel_rfl) (by kernel_rfl) (by kernel_rfl) (wnt_none rfl) (lt_nilCheck_ptr rfl) ?_
        refine vd_light 17 rfl rfl rfl (by kernel_rfl) (by kernel_rfl) (by kernel_rfl) (wnt_none rfl) (lt_fieldAddr_ptr rfl Try.underlying150 rfl inf31 (by rw [sz31]; decide)) ?_
        refine vd_light 18 rfl rfl rfl (by kernel_rfl) (by kernel_rfl) (by kernel_rfl) (wnt_none rfl) (lt_load_var rfl rfl Try.underlying31 rfl rfl) ?_
        refine vd_light 19 rfl rfl rfl (by kernel_rfl) (by kernel_rfl) (by kernel_rfl) (wnt_none rfl) (lt_move_pv rfl) ?_
        refine vd_light 20 rfl rfl rfl (by kernel_rfl) (by kernel_rfl) (by kernel_rfl) (wnt_none rfl) (lt_binI rfl rfl rfl sd) ?_
        refine vd_light 21 rfl rfl rfl (by kernel_rfl) (by kernel_rfl) (by kernel_rfl) (wnt_none rfl) (lt_binI rfl rfl rfl sd) ?_
        refine vd_light 22 rfl rfl rfl (by kernel_rfl) (by kernel_rfl) (by kernel_rfl) (wnt_none rfl) (lt_move_ptr rfl) ?_
        refine vd_light 23 rfl rfl rfl (by kernel_rfl) (by kernel_rfl) (by kernel_rfl) (wnt_none rfl) (lt_nilCheck_ptr rfl) ?_
        refine vd_light 24 rfl rfl rfl (by kernel_rfl) (by kernel_rfl) (by kernel_rfl) (wnt_none rfl) (lt_fieldAddr_ptr rfl Try.underlying150 rfl inf31 (by rw [sz31]; decide)) ?_
        refine vd_light 25 rfl rfl rfl (by kernel_rfl) (by kernel_rfl) (by kernel_rfl) (wnt_none rfl) (lt_load_var rfl rfl Try.underlying31 rfl rfl) ?_
        refine vd_light 26 rfl rfl rfl (by kernel_rfl) (by kernel_rfl) (by kernel_rfl) (wnt_none rfl) (lt_len_pv rfl Try.underlying31) ?_
        refine vd_light 27 rfl rfl rfl (by kernel_rfl) (by kernel_rfl) (by kernel_rfl) (wnt_none rfl) (lt_binI rfl rfl rfl sd) ?_
        refine vd_light 28 rfl rfl rfl (by kernel_rfl) (by kernel_rfl) (by kernel_rfl) (wnt_none rfl) (lt_index_pv (.int .u8 0) rfl rfl E31.und inf5 sz5 sd sd) ?_
        simp only [Int.toNat_natCast, Int.toNat_zero, getD_ints, getD_intss, getD_bools, getD_bytes, PV.cells]
        refine vd_light 29 rfl rfl rfl (by kernel_rfl) (by kernel_rfl) (by kernel_rfl) (wnt_none rfl) (lt_load_adr rfl Try.underlying5 rfl) ?_
        refine vd_light 30 rfl rfl rfl (by kernel_rfl) (by kernel_rfl) (by kernel_rfl) (wnt_none rfl) (lt_convI rfl Try.underlying5 Try.underlying3 sd) ?_
        refine vd_light 31 rfl rfl rfl (by kernel_rfl) (by kernel_rfl) (by kernel_rfl) (wnt_none rfl) (lt_binI rfl rfl rfl sd) ?_
        refine vd_light 32 rfl rfl rfl (by kernel_rfl) (by kernel_rfl) (by kernel_rfl) (wnt_none rfl) (lt_binI rfl rfl rfl sd) ?_
        refine vd_light 33 rfl rfl rfl (by kernel_rfl) (by kernel_rfl) (by kernel_rfl) (wnt_none rfl) (lt_move_pv rfl) ?_
        refine vd_light 34 rfl rfl rfl (by kernel_rfl) (by kernel_rfl) (by kernel_rfl) (wnt_none rfl) (lt_binI rfl rfl rfl sd) ?_
        refine vd_light 35 rfl rfl rfl (by kernel_rfl) (by kernel_rfl) (by kernel_rfl) (wnt_none rfl) (lt_binI rfl rfl rfl sd) ?_
        refine vd_light 36 rfl rfl rfl (by kernel_rfl) (by kernel_rfl) (by kernel_rfl) (wnt_none rfl) (lt_move_pv rfl) ?_
        refine vd_light 37 rfl rfl rfl (by kernel_rfl) (by kernel_rfl) (by kernel_rfl) (wnt_none rfl) (lt_move_ptr rfl) ?_
        refine vd_light 38 rfl rfl rfl (by kernel_rfl) (by kernel_rfl) (by kernel_rfl) (wnt_none rfl) (lt_nilCheck_ptr rfl) ?_
        refine vd_light 39 rfl rfl rfl (by kernel_rfl) (by kernel_rfl) (by kernel_rfl) (wnt_none rfl) (lt_fieldAddr_ptr rfl Try.underlying150 rfl inf31 (by rw [sz31]; decide)) ?_
        refine vd_light 40 rfl rfl rfl (by kernel_rfl) (by kernel_rfl) (by kernel_rfl) (wnt_none rfl) (lt_load_var rfl rfl Try.underlying31 rfl rfl) ?_
        refine vd_light 41 rfl rfl rfl (by kernel_rfl) (by kernel_rfl) (by kernel_rfl) (wnt_none rfl) (lt_len_pv rfl Try.underlying31) ?_
        refine vd_light 42 rfl rfl rfl (by kernel_rfl) (by kernel_rfl) (by kernel_rfl) (wnt_none rfl) (lt_binI rfl rfl rfl sd) ?_
        refine vd_light 43 rfl rfl rfl (by kernel_rfl) (by kernel_rfl) (by kernel_rfl) (wnt_none rfl) (lt_binI rfl rfl rfl sd) ?_
        refine vd_light 44 rfl rfl rfl (by kernel_rfl) (by kernel_rfl) (by kernel_rfl) (wnt_none rfl) (lt_binI rfl rfl rfl sd) ?_
        refine vd_light 45 rfl rfl rfl (by kernel_rfl) (by kernel_rfl) (by kernel_rfl) (wnt_none rfl) (lt_assign_pv rfl) ?_
        refine vd_nil (by kernel_rfl) ?_
        refine hK11 _ ?_
        refine vc_seq fun K12 hK12 => ?_
        refine vc_region ?_
        refine vo_move_pv rfl rfl ?_
        refine vo_move_pv rfl rfl ?_
        refine vo_binI rfl rfl rfl rfl sd ?_
        refine vo_xor rfl rfl rfl sd sd sd sd ?_
        refine vo_assign_pv rfl rfl ?_
        refine vo_nil ?_
        refine hK12 _ ?_
        refine vc_seq fun K13 hK13 => ?_
        refine vc_region ?_
        refine vo_move_pv rfl rfl ?_
        refine vo_move_pv rfl rfl ?_
        refine vo_binI rfl rfl rfl rfl sd ?_
        refine vo_assign_pv rfl rfl ?_
        refine vo_nil ?_
        refine hK13 _ ?_
        refine vc_ret ?_
        change retG _ _ _ _ _
        refine retG_sel [] [] hC rfl rfl rfl rfl rfl rfl ?_
        exact ⟨_, ⟨Int.emod_nonneg _ (by omega), fun h => Int.emod_lt_of_pos _ (by omega)⟩, rfl, rfl⟩


theorem one_sat {nl : Option Bool} {c : List (Fin 256)} {p : Nat} {nl2 : Option Bool} {list : List Int} (hc : c.length ≤ 2000) (hp : p < 1000000) (hn : list ≠ []) (hl : list.length < 1000000000) : SatAt Try.prog 68 [.ptr 0 0 0 0, .pv false (.sl nl2 1 (list.map intP))] [rdr nl c p] (fun res rows => ∃ x, x ∈ list ∧ res = [i64 x] ∧ rows = [rdr nl c (p + 1)]) := by
  have hL : ((list.map intP).length : Int) = list.length := by simp
  have hN := List.length_pos_iff.2 hn
  refine sat_entry_g (ts := [4]) Try.func68 rfl rfl (by decide) (Nat.le_of_ble_eq_true rfl) fun C hC => ?_
  rw [Try.ntmps68]
  replace hC : C.nb = 1 := hC
  refine vc_seq fun K1 hK1 => ?_
  refine vc_region ?_
  refine vo_assign_pv rfl rfl ?_
  refine vo_nil ?_
  refine hK1 _ ?_
  refine vc_seq fun K2 hK2 => ?_
  refine vc_region ?_
  refine vo_move_pv rfl rfl ?_
  refine vo_move_ptr rfl rfl ?_
  refine vo_move_pv rfl rfl ?_
  refine vo_len_pv rfl rfl Try.underlying36 ?_
  refine vo_call [0] Try.func69 rfl rfl rfl rfl rfl rfl rfl (pick_sat hc (by omega)) ?_
  rintro _ _ ⟨x, ⟨hx0, hx1⟩, rfl, rfl⟩
  refine ⟨Nat.le_of_ble_eq_true rfl, ⟨rfl, rfl, rfl, rfl⟩, .inl rfl, ?_⟩
  refine vo_stN ?_
  refine vo_index_pv (.int .i64 0) rfl rfl rfl E36.und inf3 sz3 sd sd ?_
  simp only [Int.toNat_natCast, Int.toNat_zero, getD_ints, getD_intss, getD_bools, getD_bytes, PV.cells]
  refine vo_load_adr rfl rfl Try.underlying3 rfl ?_
  refine vo_assign_pv rfl rfl ?_
  refine vo_nil ?_
  refine hK2 _ ?_
  refine vc_ret ?_
  change retG _ _ _ _ _
  refine retG_sel [] [] hC rfl rfl rfl rfl rfl rfl ?_
  exact ⟨_, getD_mem (by omega) 0, rfl, rfl⟩


theorem one2_sat {nl : Option Bool} {c : List (Fin 256)} {p : Nat} {nl2 : Option Bool} {list : List (List Int)} (hc : c.length ≤ 2000) (hp : p < 1000000) (hn : list ≠ []) (hl : list.length < 1000000000) : SatAt Try.prog 155 [.ptr 0 0 0 0, .pv false (.sl nl2 1 (list.map ints))] [rdr nl c p] (fun res rows => ∃ x, x ∈ list ∧ res = [.pv false (ints x)] ∧ rows = [rdr nl c (p + 1)]) := by
  have hL : ((list.map ints).length : Int) = list.length := by simp
  have hN := List.length_pos_iff.2 hn
  refine sat_entry_g (ts := [4]) Try.func155 rfl rfl (by decide) (Nat.le_of_ble_eq_true rfl) fun C hC => ?_
  rw [Try.ntmps155]
  replace hC : C.nb = 1 := hC
  refine vc_seq fun K1 hK1 => ?_
  refine vc_region ?_
  refine vo_assign_pv rfl rfl ?_
  refine vo_nil ?_
  refine hK1 _ ?_
  refine vc_seq fun K2 hK2 => ?_
  refine vc_region ?_
  refine vo_move_pv rfl rfl ?_
  refine vo_move_ptr rfl rfl ?_
  refine vo_move_pv rfl rfl ?_
  refine vo_len_pv rfl rfl Try.underlying22 ?_
  refine vo_call [0] Try.func69 rfl rfl rfl rfl rfl rfl rfl (pick_sat hc (by omega)) ?_
  rintro _ _ ⟨x, ⟨hx0, hx1⟩, rfl, rfl⟩
  refine ⟨Nat.le_of_ble_eq_true rfl, ⟨rfl, rfl, rfl, rfl⟩, .inl rfl, ?_⟩
  refine vo_stN ?_
  refine vo_index_pv (.sl none 1 []) rfl rfl rfl E22.und inf36 sz36 sd sd ?_
  simp only [Int.toNat_natCast, Int.toNat_zero, getD_ints, getD_intss, getD_bools, getD_bytes, PV.cells]
  refine vo_load_adr rfl rfl Try.underlying36 rfl ?_
  refine vo_assign_pv rfl rfl ?_
  refine vo_nil ?_
  refine hK2 _ ?_
  refine vc_ret ?_
  change retG _ _ _ _ _
  refine retG_sel [] [] hC rfl rfl rfl rfl rfl rfl ?_
  exact ⟨_, getD_mem (by omega) [], rfl, rfl⟩


theorem someBases_sat {nl : Option Bool} {c : List (Fin 256)} {p : Nat} {most : Int} (hc : c.length ≤ 2000) (hp : p < 999900) : SatAt Try.prog 154 [.ptr 0 0 0 0, i64 most] [rdr nl c p] (fun res rows => ∃ B q, (SB B ∧ B.length ≤ 9 ∧ ((B.length : Int) ≤ most ∨ B.length = 1) ∧ q ≤ p + 90) ∧ res = [.ref 1] ∧ rows = [rdr nl c q, Row.own 36 1 (some false) true (B.map ints)]) := by
  refine sat_entry_g (ts := [4]) Try.func154 rfl rfl (by decide) (Nat.le_of_ble_eq_true rfl) fun C hC => ?_
  rw [Try.ntmps154]
  replace hC : C.nb = 1 := hC
  refine vc_seq fun K1 hK1 => ?_
  refine vc_region ?_
  refine vo_assign_pv rfl rfl ?_
  refine vo_nil ?_
  refine hK1 _ ?_
  refine vc_seq fun K2 hK2 => ?_
  refine vc_region ?_
  refine vo_buildSlice E36 rfl rfl rfl rfl rfl ?_
  refine vo_expose 1 (by omega) rfl ?_
  refine vo_weaken 10 rfl ?_
  refine vo_stN ?_
  refine vo_buildSlice E22 rfl rfl rfl rfl rfl ?_
  refine vo_assign_ref rfl rfl ?_
  refine vo_nil ?_
  refine hK2 _ ?_
  refine vc_seq fun K3 hK3 => ?_
  refine vc_seq fun K4 hK4 => ?_
  refine vc_region ?_
  refine vo_move_ptr rfl rfl ?_
  refine vo_buildSlice E36 rfl rfl rfl rfl rfl ?_
  refine vo_expose 3 (by omega) rfl ?_
  refine vo_weaken 13 rfl ?_
  refine vo_stN ?_
  refine vo_call [0] Try.func68 rfl rfl rfl rfl rfl rfl rfl (one_sat (list := [4,5,3,6,7,2,0,8]) hc (by omega) (by simp) (by simp)) ?_
  rintro _ _ ⟨x, hx, rfl, rfl⟩
  refine ⟨Nat.le_of_ble_eq_true rfl, ⟨rfl, rfl, rfl, rfl⟩, .inl rfl, ?_⟩
  refine vo_stN ?_
  refine vo_assign_pv rfl rfl ?_
  refine vo_nil ?_
  refine hK4 _ ?_
  refine vc_block ?_
  refine vc_stN ?_
  refine vc_loop [0, 1, 5, 6] (fun mz vs rows => ∃ (B : List (List Int)) (q : Nat) (n : Int), mz = n.toNat ∧ ((0 ≤ n ∧ B.length + n ≤ 9)) ∧ ((q + 10 * n ≤ p + 90)) ∧ (SB B) ∧ (((B.length : Int) ≤ most ∨ B.length = 1)) ∧ vs = [.ptr 0 0 0 0, i64 most, .ref 2, i64 n] ∧ rows = [rdr nl c q, .dead, Row.own 36 1 (some false) true (B.map ints), .dead]) (x.toNat) (le_len hC rfl) ⟨rfl, rfl⟩ ⟨[[]], p+1, x, rfl, (by simp at hx; simp; omega), (by simp at hx; omega), ⟨by simp, rfl, fun i h1 h2 => by simp at h1; omega⟩, .inr rfl, rfl, rfl⟩ ?_
  rintro mz vs rows - - ⟨B, q, n, rfl, hn, hq, hB, hm, rfl, rfl⟩
  have hBl : ((B.map ints).length : Int) = B.length := by simp
  have hB1 := hB.1
  refine vc_seq fun K5 hK5 => ?_
  refine vc_seq fun K6 hK6 => ?_
  refine vc_region ?_
  refine vo_move_pv rfl rfl ?_
  refine vo_binI rfl rfl rfl rfl trivial ?_
  refine vo_move_pv rfl rfl ?_
  refine vo_split 17 rfl (fun hg1 => ?_) (fun hg1 => ?_)
  · try simp only [decide_eq_true_eq, decide_eq_false_iff_not, beq_iff_eq, bne_iff_ne, beq_eq_false_iff_ne, bne_eq_false_iff_eq, Bool.not_eq_true, Bool.not_eq_false, Bool.not_eq_eq_eq_not, Bool.not_true, Bool.not_false, List.length_map, Int.not_lt, Int.not_le, ne_eq, Decidable.not_not] at hg1
    refine vo_guard_on rfl rfl rfl ?_
    refine vo_move_ref rfl rfl ?_
    refine vo_guard_on rfl rfl rfl ?_
    refine vo_len_ref rfl rfl rfl Try.underlying22 ?_
    refine vo_guard_on rfl rfl rfl ?_
    refine vo_move_pv rfl rfl ?_
    refine vo_guard_on rfl rfl rfl ?_
    refine vo_binI rfl rfl rfl rfl trivial ?_
    refine vo_pick_t rfl rfl ?_
    refine vo_nil ?_
    refine hK6 _ ?_
    refine vc_cond rfl (fun hc2 => ?_) (fun hc2 => ?_)
    · try simp only [decide_eq_true_eq, decide_eq_false_iff_not, beq_iff_eq, bne_iff_ne, beq_eq_false_iff_ne, bne_eq_false_iff_eq, Bool.not_eq_true, Bool.not_eq_false, Bool.not_eq_eq_eq_not, Bool.not_true, Bool.not_false, List.length_map, Int.not_lt, Int.not_le, ne_eq, Decidable.not_not] at hc2
      refine vc_skip ?_
      refine hK5 _ ?_
      refine vc_seq fun K7 hK7 => ?_
      refine vc_block ?_
      refine vc_seq fun K8 hK8 => ?_
      refine vc_region ?_
      refine vo_buildSlice E36 rfl rfl rfl rfl rfl ?_
      refine vo_assign_ref rfl rfl ?_
      refine vo_nil ?_
      refine hK8 _ ?_
      refine vc_seq fun K9 hK9 => ?_
      refine vc_seq fun K10 hK10 => ?_
      refine vc_region ?_
      refine vo_move_ptr rfl rfl ?_
      refine vo_buildSlice E36 rfl rfl rfl rfl rfl ?_
      refine vo_expose 5 (by omega) rfl ?_
      refine vo_weaken 27 rfl ?_
      refine vo_stN ?_
      refine vo_call [0] Try.func68 rfl rfl rfl rfl rfl rfl rfl (one_sat (list := [1,2,2,3]) hc (by omega) (by simp) (by simp)) ?_
      rintro _ _ ⟨y, hy, rfl, rfl⟩
      refine ⟨Nat.le_of_ble_eq_true rfl, ⟨rfl, rfl, rfl, rfl⟩, .inl rfl, ?_⟩
      refine vo_stN ?_
      refine vo_assign_pv rfl rfl ?_
      refine vo_nil ?_
      refine hK10 _ ?_
      refine vc_block ?_
      refine vc_stN ?_
      refine vc_loop [0, 1, 5, 6, 7, 8] (fun mz vs rows => ∃ (q : Nat) (k : Int) (l : List Int), mz = k.toNat ∧ ((0 ≤ k ∧ l.length + k ≤ 3)) ∧ ((q + 3 * k + 10 * (n-1) ≤ p + 90)) ∧ (l.Nodup) ∧ ((∀ x ∈ l, 0 ≤ x ∧ x < B.length)) ∧ ((l ≠ [] ∨ 1 ≤ k)) ∧ vs = [.ptr 0 0 0 0, i64 most, .ref 2, i64 n, .ref 4, i64 k] ∧ rows = [rdr nl c q, .dead, Row.own 36 1 (some false) true (B.map ints), .dead, Row.own 3 1 (some false) true (l.map intP), .dead]) (y.toNat) (le_len hC rfl) ⟨rfl, rfl⟩ ⟨q+1, y, [], rfl, (by simp at hy; simp; omega), (by simp at hy; omega), List.nodup_nil, (by simp), (.inr (by simp at hy; omega)), rfl, rfl⟩ ?_
      rintro mz vs rows - - ⟨q, k, l, rfl, hk, hq2, hl, hl2, hl3, rfl, rfl⟩
      refine vc_seq fun K11 hK11 => ?_
      refine vc_seq fun K12 hK12 => ?_
      refine vc_region ?_
      refine vo_move_pv rfl rfl ?_
      refine vo_binI rfl rfl rfl rfl trivial ?_
      refine vo_nil ?_
      refine hK12 _ ?_
      refine vc_cond rfl (fun hc3 => ?_) (fun hc3 => ?_)
      · try simp only [decide_eq_true_eq, decide_eq_false_iff_not, beq_iff_eq, bne_iff_ne, beq_eq_false_iff_ne, bne_eq_false_iff_eq, Bool.not_eq_true, Bool.not_eq_false, Bool.not_eq_eq_eq_not, Bool.not_true, Bool.not_false, List.length_map, Int.not_lt, Int.not_le, ne_eq, Decidable.not_not] at hc3
        refine vc_skip ?_
        refine hK11 _ ?_
        refine vc_seq fun K13 hK13 => ?_
        refine vc_block ?_
        refine vc_seq fun K14 hK14 => ?_
        refine vc_region ?_
        refine vo_move_ptr rfl rfl ?_
        refine vo_move_ref rfl rfl ?_
        refine vo_len_ref rfl rfl rfl Try.underlying22 ?_
        refine vo_binI rfl rfl rfl rfl sd ?_
        refine vo_move_ptr rfl rfl ?_
        refine vo_move_ref rfl rfl ?_
        refine vo_len_ref rfl rfl rfl Try.underlying22 ?_
        refine vo_call [0] Try.func69 rfl rfl rfl rfl rfl rfl rfl (pick_sat hc (by omega)) ?_
        rintro _ _ ⟨x1, ⟨hx1, hx2⟩, rfl, rfl⟩
        refine ⟨Nat.le_of_ble_eq_true rfl, ⟨rfl, rfl, rfl, rfl⟩, .inl rfl, ?_⟩
        refine vo_stN ?_
        refine vo_move_ptr rfl rfl ?_
        refine vo_move_ref rfl rfl ?_
        refine vo_len_ref rfl rfl rfl Try.underlying22 ?_
        refine vo_call [0] Try.func69 rfl rfl rfl rfl rfl rfl rfl (pick_sat hc (by omega)) ?_
        rintro _ _ ⟨x2, ⟨hx3, hx4⟩, rfl, rfl⟩
        refine ⟨Nat.le_of_ble_eq_true rfl, ⟨rfl, rfl, rfl, rfl⟩, .inl rfl, ?_⟩
        refine vo_stN ?_
        refine vo_buildSlice E36 rfl rfl rfl rfl rfl ?_
        refine vo_expose 6 (by omega) rfl ?_
        refine vo_weaken 45 rfl ?_
        refine vo_stN ?_
        refine vo_call [0] Try.func68 rfl rfl rfl rfl rfl rfl rfl (one_sat (list := [_,_,_]) hc (by omega) (by simp) (by simp)) ?_
        rintro _ _ ⟨x, hx, rfl, rfl⟩
        refine ⟨Nat.le_of_ble_eq_true rfl, ⟨rfl, rfl, rfl, rfl⟩, .inl rfl, ?_⟩
        refine vo_stN ?_
        refine vo_assign_pv rfl rfl ?_
        refine vo_nil ?_
        refine hK14 _ ?_
        refine vc_seq fun K15 hK15 => ?_
        refine vc_region ?_
        refine vo_move_ref rfl rfl ?_
        refine vo_move_pv rfl rfl ?_
        refine vo_call0 Try.func73 rfl rfl rfl rfl (placeIn_sat (by omega)) ?_
        rintro _ _ ⟨rfl, rfl⟩
        refine ⟨rfl, rfl, .inr rfl, ?_⟩
        refine vo_binI rfl rfl rfl rfl trivial ?_
        refine vo_nil ?_
        refine hK15 _ ?_
        refine vc_cond rfl (fun hc4 => ?_) (fun hc4 => ?_)
        · try simp only [decide_eq_true_eq, decide_eq_false_iff_not, beq_iff_eq, bne_iff_ne, beq_eq_false_iff_ne, bne_eq_false_iff_eq, Bool.not_eq_true, Bool.not_eq_false, Bool.not_eq_eq_eq_not, Bool.not_true, Bool.not_false, List.length_map, Int.not_lt, Int.not_le, ne_eq, Decidable.not_not] at hc4
          refine vc_region ?_
          refine vo_move_ref rfl rfl ?_
          refine vo_move_pv rfl rfl ?_
          refine vo_buildSlice E36 rfl rfl rfl rfl rfl ?_
          refine vo_append E36 rfl (by omega) rfl rfl rfl sd sd ?_
          refine vo_stN ?_
          try simp only [app_ints, app_intss, app_bools]
          refine vo_assign_ref rfl rfl ?_
          refine vo_nil ?_
          refine hK13 _ ?_
          refine vc_region ?_
          refine vo_move_pv rfl rfl ?_
          refine vo_binI rfl rfl rfl rfl sd ?_
          refine vo_assign_pv rfl rfl ?_
          refine vo_nil ?_
          change again _ _ _ _ _ _
          refine again_mk rfl rfl rfl rfl ⟨_, ?_, q + 1 + 1 + 1, k - 1, l ++ [x], rfl, ?_, ?_, ?_, ?_, ?_, rfl, rfl⟩
          · omega
          · refine ⟨by omega, ?_⟩; rw [List.length_append, List.length_singleton]; omega
          · omega
          · exact nodup_snoc hl ((findM_not _ _ 0 (by omega)).1 (by assumption))
          · intro z hz; rcases List.mem_append.1 hz with hz | hz
            · exact hl2 z hz
            · rw [List.mem_singleton.1 hz]; simp only [List.mem_cons, List.not_mem_nil, or_false] at hx; rcases hx with rfl | rfl | rfl <;> omega
          · exact .inl (by simp)
        · try simp only [decide_eq_true_eq, decide_eq_false_iff_not, beq_iff_eq, bne_iff_ne, beq_eq_false_iff_ne, bne_eq_false_iff_eq, Bool.not_eq_true, Bool.not_eq_false, Bool.not_eq_eq_eq_not, Bool.not_true, Bool.not_false, List.length_map, Int.not_lt, Int.not_le, ne_eq, Decidable.not_not] at hc4
          refine vc_skip ?_
          refine hK13 _ ?_
          refine vc_region ?_
          refine vo_move_pv rfl rfl ?_
          refine vo_binI rfl rfl rfl rfl sd ?_
          refine vo_assign_pv rfl rfl ?_
          refine vo_nil ?_
          change again _ _ _ _ _ _
          refine again_mk rfl rfl rfl rfl ⟨_, ?_, q + 1 + 1 + 1, k - 1, l, rfl, ?_, ?_, ?_, ?_, ?_, rfl, rfl⟩
          · omega
          · omega
          · omega
          · exact hl
          · exact hl2
          · exact .inl (fun e => by subst e; simp [findM] at *)
      · try simp only [decide_eq_true_eq, decide_eq_false_iff_not, beq_iff_eq, bne_iff_ne, beq_eq_false_iff_ne, bne_eq_false_iff_eq, Bool.not_eq_true, Bool.not_eq_false, Bool.not_eq_eq_eq_not, Bool.not_true, Bool.not_false, List.length_map, Int.not_lt, Int.not_le, ne_eq, Decidable.not_not] at hc3
        refine vc_exit ?_
        refine hK9 _ ?_
        refine vc_region ?_
        refine vo_move_ref rfl rfl ?_
        refine vo_move_ref rfl rfl ?_
        refine vo_expose 4 (by omega) rfl ?_
        refine vo_weaken 56 rfl ?_
        refine vo_stN ?_
        refine vo_buildSlice E22 rfl rfl rfl rfl rfl ?_
        refine vo_append E22 rfl (by omega) rfl rfl rfl sd sd ?_
        refine vo_stN ?_
        try simp only [app_ints, app_intss, app_bools]
        refine vo_assign_ref rfl rfl ?_
        refine vo_nil ?_
        refine hK7 _ ?_
        refine vc_region ?_
        refine vo_move_pv rfl rfl ?_
        refine vo_binI rfl rfl rfl rfl sd ?_
        refine vo_assign_pv rfl rfl ?_
        refine vo_nil ?_
        change again _ _ _ _ _ _
        refine again_mk rfl rfl rfl rfl ⟨_, ?_, B ++ [l], q, n - 1, rfl, ?_, ?_, ?_, ?_, rfl, rfl⟩
        · omega
        · refine ⟨by omega, ?_⟩; rw [List.length_append, List.length_singleton]; omega
        · omega
        · exact hB.snoc (by rcases hl3 with h | h; exact h; omega) (by omega) hl hl2
        · left; rw [List.length_append, List.length_singleton]; omega
    · try simp only [decide_eq_true_eq, decide_eq_false_iff_not, beq_iff_eq, bne_iff_ne, beq_eq_false_iff_ne, bne_eq_false_iff_eq, Bool.not_eq_true, Bool.not_eq_false, Bool.not_eq_eq_eq_not, Bool.not_true, Bool.not_false, List.length_map, Int.not_lt, Int.not_le, ne_eq, Decidable.not_not] at hc2
      refine vc_exit ?_
      refine hK3 _ ?_
      refine vc_seq fun K16 hK16 => ?_
      refine vc_region ?_
      refine vo_move_ref rfl rfl ?_
      refine vo_assign_ref rfl rfl ?_
      refine vo_nil ?_
      refine hK16 _ ?_
      refine vc_ret ?_
      change retG _ _ _ _ _
      refine retG_one 2 hC rfl rfl rfl rfl rfl ?_
      exact ⟨_, _, ⟨hB, by omega, hm, by omega⟩, rfl, rfl⟩
  · try simp only [decide_eq_true_eq, decide_eq_false_iff_not, beq_iff_eq, bne_iff_ne, beq_eq_false_iff_ne, bne_eq_false_iff_eq, Bool.not_eq_true, Bool.not_eq_false, Bool.not_eq_eq_eq_not, Bool.not_true, Bool.not_false, List.length_map, Int.not_lt, Int.not_le, ne_eq, Decidable.not_not] at hg1
    refine vo_guard_off rfl rfl rfl rfl rfl ?_
    refine vo_guard_off rfl rfl rfl rfl rfl ?_
    refine vo_guard_off rfl rfl rfl rfl rfl ?_
    refine vo_guard_off rfl rfl rfl rfl rfl ?_
    refine vo_pick_f rfl rfl ?_
    refine vo_nil ?_
    refine hK6 _ ?_
    refine vc_cond_f rfl ?_
    refine vc_exit ?_
    refine hK3 _ ?_
    refine vc_seq fun K17 hK17 => ?_
    refine vc_region ?_
    refine vo_move_ref rfl rfl ?_
    refine vo_assign_ref rfl rfl ?_
    refine vo_nil ?_
    refine hK17 _ ?_
    refine vc_ret ?_
    change retG _ _ _ _ _
    refine retG_one 2 hC rfl rfl rfl rfl rfl ?_
    exact ⟨_, _, ⟨hB, by omega, hm, by omega⟩, rfl, rfl⟩

end Go.Vl

namespace Go.Vl
set_option linter.unusedVariables false
set_option linter.unusedSimpArgs false
open Go.Proofs

theorem rows2_eq {r : Row} {el : TypeId} {e : Nat} {nl : Option Bool} {f : Bool} {xs ys : List PV} (h : xs = ys) : [r, Row.own el e nl f xs] = [r, Row.own el e nl f ys] := by rw [h]
theorem anyBases_sat {nl : Option Bool} {c : List (Fin 256)} {p : Nat} {most : Int} (hc : c.length ≤ 2000) (hp : p < 999800) : SatAt Try.prog 117 [.ptr 0 0 0 0, i64 most] [rdr nl c p] (fun res rows => ∃ (B : List (List Int)) (q : Nat) (f : Bool), (1 ≤ B.length ∧ B.length ≤ 10 ∧ (∀ l ∈ B, l.length ≤ 3) ∧ q ≤ p + 100) ∧ res = [.ref 1] ∧ rows = [rdr nl c q, Row.own 36 1 (some false) f (B.map ints)]) := by
  refine sat_entry_g (ts := [4]) Try.func117 rfl rfl (by decide) (Nat.le_of_ble_eq_true rfl) fun C hC => ?_
  rw [Try.ntmps117]
  replace hC : C.nb = 1 := hC
  refine vc_seq fun K1 hK1 => ?_
  refine vc_region ?_
  refine vo_assign_pv rfl rfl ?_
  refine vo_nil ?_
  refine hK1 _ ?_
  refine vc_seq fun K2 hK2 => ?_
  refine vc_region ?_
  refine vo_move_ptr rfl rfl ?_
  refine vo_move_pv rfl rfl ?_
  refine vo_call [0] Try.func154 rfl rfl rfl rfl rfl rfl rfl (someBases_sat hc (by omega)) ?_
  rintro _ _ ⟨B, q, ⟨hB, hB2, hB3, hB4⟩, rfl, rfl⟩
  refine ⟨Nat.le_of_ble_eq_true rfl, ⟨rfl, rfl, rfl, rfl⟩, .inl rfl, ?_⟩
  refine vo_stN ?_
  refine vo_assign_ref rfl rfl ?_
  refine vo_nil ?_
  refine hK2 _ ?_
  refine vc_seq fun K3 hK3 => ?_
  refine vc_seq fun K4 hK4 => ?_
  refine vc_region ?_
  refine vo_move_ptr rfl rfl ?_
  refine vo_call [0] Try.func69 rfl rfl rfl rfl rfl rfl rfl (pick_sat hc (by omega)) ?_
  rintro _ _ ⟨x, ⟨hx0, hx1⟩, rfl, rfl⟩
  refine ⟨Nat.le_of_ble_eq_true rfl, ⟨rfl, rfl, rfl, rfl⟩, .inl rfl, ?_⟩
  refine vo_stN ?_
  refine vo_nil ?_
  refine hK4 _ ?_
  refine vc_block ?_
  refine vc_seq fun K5 hK5 => ?_
  refine vc_region ?_
  refine vo_binI rfl rfl rfl rfl trivial ?_
  refine vo_assign_pv rfl rfl ?_
  refine vo_nil ?_
  refine hK5 _ ?_
  refine vc_cond rfl (fun hc1 => ?_) (fun hc1 => ?_)
  · try simp only [decide_eq_true_eq, decide_eq_false_iff_not, beq_iff_eq, bne_iff_ne, beq_eq_false_iff_ne, bne_eq_false_iff_eq, Bool.not_eq_true, Bool.not_eq_false, Bool.not_eq_eq_eq_not, Bool.not_true, Bool.not_false, List.length_map, Int.not_lt, Int.not_le, ne_eq, Decidable.not_not] at hc1
    have hB1 := hB.1
    have hL : (B.map ints).length = B.length := by simp
    refine vc_region ?_
    refine vo_move_ref rfl rfl ?_
    refine vo_buildSlice E36 rfl rfl rfl rfl rfl ?_
    refine vo_index_ref rfl rfl rfl rfl E22.und inf36 sz36 sd sd ?_
    try simp only [Int.toNat_natCast]
    refine vo_expose 2 (by omega) rfl ?_
    refine vo_weaken 14 rfl ?_
    refine vo_stN ?_
    refine vo_store_own rfl rfl rfl inf36 sz36 (by decide) rfl sd ?_
    try simp only [set_ints, set_intss, set_bools, rep_bools, rep_ints, Int.toNat_natCast, Int.toNat_zero]
    refine vo_nil ?_
    refine hK3 _ ?_
    refine vc_seq fun K6 hK6 => ?_
    refine vc_region ?_
    refine vo_move_ref rfl rfl ?_
    refine vo_assign_ref rfl rfl ?_
    refine vo_nil ?_
    refine hK6 _ ?_
    refine vc_ret ?_
    change retG _ _ _ _ _
    refine retG_one 1 hC rfl rfl rfl rfl rfl ?_
    exact ⟨B.set 0 [0], q+1, _, ⟨by rw [List.length_set]; omega, by rw [List.length_set]; omega, set_lens hB.lens (by decide), by omega⟩, rfl, rows2_eq (set_intss B 0 [0])⟩
  · try simp only [decide_eq_true_eq, decide_eq_false_iff_not, beq_iff_eq, bne_iff_ne, beq_eq_false_iff_ne, bne_eq_false_iff_eq, Bool.not_eq_true, Bool.not_eq_false, Bool.not_eq_eq_eq_not, Bool.not_true, Bool.not_false, List.length_map, Int.not_lt, Int.not_le, ne_eq, Decidable.not_not] at hc1
    have hB1 := hB.1
    refine vc_seq fun K7 hK7 => ?_
    refine vc_region ?_
    refine vo_binI rfl rfl rfl rfl trivial ?_
    refine vo_assign_pv rfl rfl ?_
    refine vo_nil ?_
    refine hK7 _ ?_
    refine vc_cond rfl (fun hc2 => ?_) (fun hc2 => ?_)
    · try simp only [decide_eq_true_eq, decide_eq_false_iff_not, beq_iff_eq, bne_iff_ne, beq_eq_false_iff_ne, bne_eq_false_iff_eq, Bool.not_eq_true, Bool.not_eq_false, Bool.not_eq_eq_eq_not, Bool.not_true, Bool.not_false, List.length_map, Int.not_lt, Int.not_le, ne_eq, Decidable.not_not] at hc2
      refine vc_region ?_
      refine vo_move_ref rfl rfl ?_
      refine vo_move_ref rfl rfl ?_
      refine vo_len_ref rfl rfl rfl Try.underlying22 ?_
      refine vo_buildSlice E36 rfl rfl rfl rfl rfl ?_
      refine vo_expose 2 (by omega) rfl ?_
      refine vo_weaken 21 rfl ?_
      refine vo_stN ?_
      refine vo_buildSlice E22 rfl rfl rfl rfl rfl ?_
      refine vo_append E22 rfl (by omega) rfl rfl rfl sd sd ?_
      refine vo_stN ?_
      try simp only [app_ints, app_intss, app_bools]
      refine vo_assign_ref rfl rfl ?_
      refine vo_nil ?_
      refine hK3 _ ?_
      refine vc_seq fun K8 hK8 => ?_
      refine vc_region ?_
      refine vo_move_ref rfl rfl ?_
      refine vo_assign_ref rfl rfl ?_
      refine vo_nil ?_
      refine hK8 _ ?_
      refine vc_ret ?_
      change retG _ _ _ _ _
      refine retG_one 1 hC rfl rfl rfl rfl rfl ?_
      refine ⟨B ++ [[((B.map ints).length : Int)]], q+1, _, ⟨by rw [List.length_append, List.length_singleton]; omega, by rw [List.length_append, List.length_singleton]; omega, app_lens hB.lens (by simp), by omega⟩, rfl, rows2_eq (app_intss B [((B.map ints).length : Int)])⟩
    · try simp only [decide_eq_true_eq, decide_eq_false_iff_not, beq_iff_eq, bne_iff_ne, beq_eq_false_iff_ne, bne_eq_false_iff_eq, Bool.not_eq_true, Bool.not_eq_false, Bool.not_eq_eq_eq_not, Bool.not_true, Bool.not_false, List.length_map, Int.not_lt, Int.not_le, ne_eq, Decidable.not_not] at hc2
      refine vc_seq fun K9 hK9 => ?_
      refine vc_region ?_
      refine vo_binI rfl rfl rfl rfl trivial ?_
      refine vo_assign_pv rfl rfl ?_
      refine vo_nil ?_
      refine hK9 _ ?_
      refine vc_cond rfl (fun hc3 => ?_) (fun hc3 => ?_)
      · try simp only [decide_eq_true_eq, decide_eq_false_iff_not, beq_iff_eq, bne_iff_ne, beq_eq_false_iff_ne, bne_eq_false_iff_eq, Bool.not_eq_true, Bool.not_eq_false, Bool.not_eq_eq_eq_not, Bool.not_true, Bool.not_false, List.length_map, Int.not_lt, Int.not_le, ne_eq, Decidable.not_not] at hc3
        refine vc_region ?_
        refine vo_move_ref rfl rfl ?_
        refine vo_move_ptr rfl rfl ?_
        refine vo_buildSlice E36 rfl rfl rfl rfl rfl ?_
        refine vo_buildSlice E36 rfl rfl rfl rfl rfl ?_
        refine vo_buildSlice E36 rfl rfl rfl rfl rfl ?_
        refine vo_expose 2 (by omega) rfl ?_
        refine vo_weaken 28 rfl ?_
        refine vo_stN ?_
        refine vo_expose 3 (by omega) rfl ?_
        refine vo_weaken 29 rfl ?_
        refine vo_stN ?_
        refine vo_expose 4 (by omega) rfl ?_
        refine vo_weaken 30 rfl ?_
        refine vo_stN ?_
        refine vo_buildSlice E22 rfl rfl rfl rfl rfl ?_
        refine vo_expose 5 (by omega) rfl ?_
        refine vo_weaken 31 rfl ?_
        refine vo_stN ?_
        refine vo_call [0] Try.func155 rfl rfl rfl rfl rfl rfl rfl (one2_sat (list := [[],[0,0],[-1]]) hc (by omega) (by simp) (by simp)) ?_
        rintro _ _ ⟨y, hy, rfl, rfl⟩
        refine ⟨Nat.le_of_ble_eq_true rfl, ⟨rfl, rfl, rfl, rfl⟩, .inl rfl, ?_⟩
        refine vo_stN ?_
        refine vo_weaken 32 rfl ?_
        refine vo_buildSlice E22 rfl rfl rfl rfl rfl ?_
        refine vo_append E22 rfl (by omega) rfl rfl rfl sd sd ?_
        refine vo_stN ?_
        try simp only [app_ints, app_intss, app_bools]
        refine vo_assign_ref rfl rfl ?_
        refine vo_nil ?_
        refine hK3 _ ?_
        refine vc_seq fun K10 hK10 => ?_
        refine vc_region ?_
        refine vo_move_ref rfl rfl ?_
        refine vo_assign_ref rfl rfl ?_
        refine vo_nil ?_
        refine hK10 _ ?_
        refine vc_ret ?_
        change retG _ _ _ _ _
        refine retG_one 1 hC rfl rfl rfl rfl rfl ?_
        refine ⟨B ++ [y], q+1+1, _, ⟨by rw [List.length_append, List.length_singleton]; omega, by rw [List.length_append, List.length_singleton]; omega, app_lens hB.lens (by simp at hy; rcases hy with rfl | rfl | rfl <;> simp), by omega⟩, rfl, rfl⟩
      · try simp only [decide_eq_true_eq, decide_eq_false_iff_not, beq_iff_eq, bne_iff_ne, beq_eq_false_iff_ne, bne_eq_false_iff_eq, Bool.not_eq_true, Bool.not_eq_false, Bool.not_eq_eq_eq_not, Bool.not_true, Bool.not_false, List.length_map, Int.not_lt, Int.not_le, ne_eq, Decidable.not_not] at hc3
        refine vc_skip ?_
        refine hK3 _ ?_
        refine vc_seq fun K11 hK11 => ?_
        refine vc_region ?_
        refine vo_move_ref rfl rfl ?_
        refine vo_assign_ref rfl rfl ?_
        refine vo_nil ?_
        refine hK11 _ ?_
        refine vc_ret ?_
        change retG _ _ _ _ _
        refine retG_one 1 hC rfl rfl rfl rfl rfl ?_
        refine ⟨B, q+1, _, ⟨by omega, by omega, hB.lens, by omega⟩, rfl, rfl⟩


theorem classOf_sat {nl : Option Bool} {c : List (Fin 256)} {p : Nat} {most : Int} (hc : c.length ≤ 2000) (hp : p < 999700) : SatAt Try.prog 67 [.ptr 0 0 0 0, i64 most] [rdr nl c p] (fun res rows => ∃ (B : List (List Int)) (q : Nat) (z : Int) (f : Bool), ((1 ≤ B.length ∧ B.length ≤ 10 ∧ (∀ l ∈ B, l.length ≤ 3) ∧ -1 ≤ z ∧ z ≤ 12) ∧ q ≤ p + 120) ∧ res = [.ref 1, i64 z] ∧ rows = [rdr nl c q, Row.own 36 1 (some false) f (B.map ints)]) := by
  refine sat_entry_g (ts := [4, 5]) Try.func67 rfl rfl (by decide) (Nat.le_of_ble_eq_true rfl) fun C hC => ?_
  rw [Try.ntmps67]
  replace hC : C.nb = 1 := hC
  refine vc_seq fun K1 hK1 => ?_
  refine vc_region ?_
  refine vo_assign_pv rfl rfl ?_
  refine vo_assign_pv rfl rfl ?_
  refine vo_nil ?_
  refine hK1 _ ?_
  refine vc_seq fun K2 hK2 => ?_
  refine vc_region ?_
  refine vo_move_ptr rfl rfl ?_
  refine vo_move_pv rfl rfl ?_
  refine vo_call [0] Try.func117 rfl rfl rfl rfl rfl rfl rfl (anyBases_sat hc (by omega)) ?_
  rintro _ _ ⟨B, q, f, ⟨h1, h2, h3, h4⟩, rfl, rfl⟩
  refine ⟨Nat.le_of_ble_eq_true rfl, ⟨rfl, rfl, rfl, rfl⟩, .inl rfl, ?_⟩
  refine vo_stN ?_
  refine vo_assign_ref rfl rfl ?_
  refine vo_nil ?_
  refine hK2 _ ?_
  refine vc_seq fun K3 hK3 => ?_
  refine vc_seq fun K4 hK4 => ?_
  refine vc_region ?_
  refine vo_move_ptr rfl rfl ?_
  refine vo_call [0] Try.func69 rfl rfl rfl rfl rfl rfl rfl (pick_sat hc (by omega)) ?_
  rintro _ _ ⟨x, ⟨hx0, hx1⟩, rfl, rfl⟩
  refine ⟨Nat.le_of_ble_eq_true rfl, ⟨rfl, rfl, rfl, rfl⟩, .inl rfl, ?_⟩
  refine vo_stN ?_
  refine vo_binI rfl rfl rfl rfl trivial ?_
  refine vo_nil ?_
  refine hK4 _ ?_
  refine vc_cond rfl (fun hc1 => ?_) (fun hc1 => ?_)
  · try simp only [decide_eq_true_eq, decide_eq_false_iff_not, beq_iff_eq, bne_iff_ne, beq_eq_false_iff_ne, bne_eq_false_iff_eq, Bool.not_eq_true, Bool.not_eq_false, Bool.not_eq_eq_eq_not, Bool.not_true, Bool.not_false, List.length_map, Int.not_lt, Int.not_le, ne_eq, Decidable.not_not] at hc1
    refine vc_seq fun K5 hK5 => ?_
    refine vc_region ?_
    refine vo_move_ref rfl rfl ?_
    refine vo_move_ptr rfl rfl ?_
    refine vo_buildSlice E36 rfl rfl rfl rfl rfl ?_
    refine vo_expose 2 (by omega) rfl ?_
    refine vo_weaken 15 rfl ?_
    refine vo_stN ?_
    refine vo_call [0] Try.func68 rfl rfl rfl rfl rfl rfl rfl (one_sat (list := [_,_]) hc (by omega) (by simp) (by simp)) ?_
    rintro _ _ ⟨z, hz, rfl, rfl⟩
    refine ⟨Nat.le_of_ble_eq_true rfl, ⟨rfl, rfl, rfl, rfl⟩, .inl rfl, ?_⟩
    refine vo_stN ?_
    refine vo_assign_ref rfl rfl ?_
    refine vo_assign_pv rfl rfl ?_
    refine vo_nil ?_
    refine hK5 _ ?_
    refine vc_ret ?_
    change retG _ _ _ _ _
    refine retG_one 1 hC rfl rfl rfl rfl rfl ?_
    simp at hz
    exact ⟨_, _, _, _, ⟨⟨h1, h2, h3, by omega, by omega⟩, by omega⟩, rfl, rfl⟩
  · try simp only [decide_eq_true_eq, decide_eq_false_iff_not, beq_iff_eq, bne_iff_ne, beq_eq_false_iff_ne, bne_eq_false_iff_eq, Bool.not_eq_true, Bool.not_eq_false, Bool.not_eq_eq_eq_not, Bool.not_true, Bool.not_false, List.length_map, Int.not_lt, Int.not_le, ne_eq, Decidable.not_not] at hc1
    refine vc_skip ?_
    refine hK3 _ ?_
    refine vc_seq fun K6 hK6 => ?_
    refine vc_region ?_
    refine vo_move_ref rfl rfl ?_
    refine vo_move_ptr rfl rfl ?_
    refine vo_move_ref rfl rfl ?_
    refine vo_len_ref rfl rfl rfl Try.underlying22 ?_
    refine vo_binI rfl rfl rfl rfl sd ?_
    refine vo_move_ptr rfl rfl ?_
    refine vo_move_ref rfl rfl ?_
    refine vo_len_ref rfl rfl rfl Try.underlying22 ?_
    refine vo_call [0] Try.func69 rfl rfl rfl rfl rfl rfl rfl (pick_sat hc (by omega)) ?_
    rintro _ _ ⟨y, ⟨hy0, hy1⟩, rfl, rfl⟩
    refine ⟨Nat.le_of_ble_eq_true rfl, ⟨rfl, rfl, rfl, rfl⟩, .inl rfl, ?_⟩
    refine vo_stN ?_
    refine vo_buildSlice E36 rfl rfl rfl rfl rfl ?_
    refine vo_expose 2 (by omega) rfl ?_
    refine vo_weaken 26 rfl ?_
    refine vo_stN ?_
    refine vo_call [0] Try.func68 rfl rfl rfl rfl rfl rfl rfl (one_sat (list := [_,_]) hc (by omega) (by simp) (by simp)) ?_
    rintro _ _ ⟨z, hz, rfl, rfl⟩
    refine ⟨Nat.le_of_ble_eq_true rfl, ⟨rfl, rfl, rfl, rfl⟩, .inl rfl, ?_⟩
    refine vo_stN ?_
    refine vo_assign_ref rfl rfl ?_
    refine vo_assign_pv rfl rfl ?_
    refine vo_nil ?_
    refine hK6 _ ?_
    refine vc_ret ?_
    change retG _ _ _ _ _
    refine retG_one 1 hC rfl rfl rfl rfl rfl ?_
    simp at hz hy1
    exact ⟨_, _, _, _, ⟨⟨h1, h2, h3, by omega, by omega⟩, by omega⟩, rfl, rfl⟩

end Go.Vl

namespace Go.Vl
set_option linter.unusedVariables false
set_option linter.unusedSimpArgs false
open Go.Proofs

theorem lt3 {B : List (List Int)} (h : ∀ l ∈ B, l.length ≤ 3) : ∀ l ∈ B, l.length < 1000000000 := fun l hl => by have := h l hl; omega

theorem isIn_sat {nl0 : Option Bool} {list : List Int} {n : Int} (hlist : list.length < 1000000000)  : SatAt Try.prog 29 [.pv false (.sl nl0 1 (list.map intP)), i64 n] [] (fun res rows => res = [bo (decide (n ∈ list))] ∧ rows = []) := by
  refine sat_entry (ts := [4]) Try.func29 rfl rfl (by decide) (Nat.le_of_ble_eq_true rfl) fun C hC => ?_
  rw [Try.ntmps29]
  replace hC : C.nb = 0 := hC
  refine vc_seq fun K1 hK1 => ?_
  refine vc_region ?_
  refine vo_assign_pv rfl rfl ?_
  refine vo_nil ?_
  refine hK1 _ ?_
  refine vc_seq fun K2 hK2 => ?_
  refine vc_seq fun K3 hK3 => ?_
  refine vc_region ?_
  refine vo_assign_pv rfl rfl ?_
  refine vo_nil ?_
  refine hK3 _ ?_
  refine vc_block ?_
  refine vc_stN ?_
  refine vc_loopF [0, 1] [5] [.pv false (.sl nl0 1 (list.map intP)), i64 n] _ (fun mz vs => ∃ (k : Nat), mz = list.length - k ∧ (k ≤ list.length) ∧ (n ∉ list.take k) ∧ vs = [i64 k]) (list.length) rfl rfl (le_len hC rfl) ⟨rfl, rfl, rfl⟩ ⟨0, rfl, Nat.zero_le _, (by simp), rfl⟩ ?_
  rintro mz vs - ⟨k, rfl, hk, hf, rfl⟩
  refine vc_stN ?_
  refine vc_seq fun K4 hK4 => ?_
  refine vc_seq fun K5 hK5 => ?_
  refine vc_region ?_
  refine vo_move_pv rfl rfl ?_
  refine vo_move_pv rfl rfl ?_
  refine vo_len_pv rfl rfl Try.underlying36 ?_
  refine vo_binI rfl rfl rfl rfl trivial ?_
  refine vo_nil ?_
  refine hK5 _ ?_
  refine vc_cond rfl (fun hc1 => ?_) (fun hc1 => ?_)
  · try simp only [decide_eq_true_eq, decide_eq_false_iff_not, beq_iff_eq, bne_iff_ne, beq_eq_false_iff_ne, bne_eq_false_iff_eq, Bool.not_eq_true, Bool.not_eq_false, Bool.not_eq_eq_eq_not, Bool.not_true, Bool.not_false, List.length_map, Int.not_lt, Int.not_le, ne_eq, Decidable.not_not] at hc1
    refine vc_skip ?_
    refine hK4 _ ?_
    refine vc_seq fun K6 hK6 => ?_
    refine vc_block ?_
    refine vc_seq fun K7 hK7 => ?_
    refine vc_region ?_
    refine vo_move_pv rfl rfl ?_
    refine vo_move_pv rfl rfl ?_
    refine vo_index_pv (.int .i64 0) rfl rfl rfl E36.und inf3 sz3 sd sd ?_
    simp only [Int.toNat_natCast, Int.toNat_zero, getD_ints, getD_intss, getD_bools, getD_bytes, PV.cells]
    refine vo_load_adr rfl rfl Try.underlying3 rfl ?_
    refine vo_move_pv rfl rfl ?_
    refine vo_binI rfl rfl rfl rfl trivial ?_
    refine vo_nil ?_
    refine hK7 _ ?_
    refine vc_cond rfl (fun hc2 => ?_) (fun hc2 => ?_)
    · try simp only [decide_eq_true_eq, decide_eq_false_iff_not, beq_iff_eq, bne_iff_ne, beq_eq_false_iff_ne, bne_eq_false_iff_eq, Bool.not_eq_true, Bool.not_eq_false, Bool.not_eq_eq_eq_not, Bool.not_true, Bool.not_false, List.length_map, Int.not_lt, Int.not_le, ne_eq, Decidable.not_not] at hc2
      refine vc_seq fun K8 hK8 => ?_
      refine vc_region ?_
      refine vo_assign_pv rfl rfl ?_
      refine vo_nil ?_
      refine hK8 _ ?_
      refine vc_ret ?_
      change retPv _ _ _ _ _
      refine retPv_mk rfl rfl rfl ⟨?_, rfl⟩
      refine (congrArg (fun b => [bo b]) (?_ : _ = _) : [bo _] = [bo _])
      exact bT (by have := getD_mem (show k < list.length by omega) 0; simp_all)
    · try simp only [decide_eq_true_eq, decide_eq_false_iff_not, beq_iff_eq, bne_iff_ne, beq_eq_false_iff_ne, bne_eq_false_iff_eq, Bool.not_eq_true, Bool.not_eq_false, Bool.not_eq_eq_eq_not, Bool.not_true, Bool.not_false, List.length_map, Int.not_lt, Int.not_le, ne_eq, Decidable.not_not] at hc2
      refine vc_skip ?_
      refine hK6 _ ?_
      refine vc_region ?_
      refine vo_move_pv rfl rfl ?_
      refine vo_binI rfl rfl rfl rfl sd ?_
      refine vo_assign_pv rfl rfl ?_
      refine vo_nil ?_
      change againF _ _ _ _ _ _ _ _ _
      refine againF_mk rfl rfl rfl rfl rfl rfl ⟨_, ?_, k + 1, rfl, ?_, ?_, rfl⟩
      · omega
      · omega
      · rw [List.take_succ_eq_append_getElem (by omega), List.mem_append]; rintro (h | h)
        · exact hf h
        · rw [List.mem_singleton, ← getD_at (by omega) 0] at h; omega
  · try simp only [decide_eq_true_eq, decide_eq_false_iff_not, beq_iff_eq, bne_iff_ne, beq_eq_false_iff_ne, bne_eq_false_iff_eq, Bool.not_eq_true, Bool.not_eq_false, Bool.not_eq_eq_eq_not, Bool.not_true, Bool.not_false, List.length_map, Int.not_lt, Int.not_le, ne_eq, Decidable.not_not] at hc1
    refine vc_exit ?_
    refine hK2 _ ?_
    refine vc_seq fun K9 hK9 => ?_
    refine vc_region ?_
    refine vo_assign_pv rfl rfl ?_
    refine vo_nil ?_
    refine hK9 _ ?_
    refine vc_ret ?_
    change retPv _ _ _ _ _
    refine retPv_mk rfl rfl rfl ⟨?_, rfl⟩
    refine (congrArg (fun b => [bo b]) (?_ : _ = _) : [bo _] = [bo _])
    rw [take_all (by omega)] at hf; exact bF hf


theorem equalInts_sat {nl0 : Option Bool} {a : List Int} {nl1 : Option Bool} {b : List Int} (ha : a.length < 1000000000) (hb : b.length < 1000000000)  : SatAt Try.prog 28 [.pv false (.sl nl0 1 (a.map intP)), .pv false (.sl nl1 1 (b.map intP))] [] (fun res rows => res = [bo (decide (a = b))] ∧ rows = []) := by
  refine sat_entry (ts := [4]) Try.func28 rfl rfl (by decide) (Nat.le_of_ble_eq_true rfl) fun C hC => ?_
  rw [Try.ntmps28]
  replace hC : C.nb = 0 := hC
  refine vc_seq fun K1 hK1 => ?_
  refine vc_region ?_
  refine vo_assign_pv rfl rfl ?_
  refine vo_nil ?_
  refine hK1 _ ?_
  refine vc_seq fun K2 hK2 => ?_
  refine vc_seq fun K3 hK3 => ?_
  refine vc_region ?_
  refine vo_move_pv rfl rfl ?_
  refine vo_len_pv rfl rfl Try.underlying36 ?_
  refine vo_move_pv rfl rfl ?_
  refine vo_len_pv rfl rfl Try.underlying36 ?_
  refine vo_binI rfl rfl rfl rfl trivial ?_
  refine vo_nil ?_
  refine hK3 _ ?_
  refine vc_cond rfl (fun hc1 => ?_) (fun hc1 => ?_)
  · try simp only [decide_eq_true_eq, decide_eq_false_iff_not, beq_iff_eq, bne_iff_ne, beq_eq_false_iff_ne, bne_eq_false_iff_eq, Bool.not_eq_true, Bool.not_eq_false, Bool.not_eq_eq_eq_not, Bool.not_true, Bool.not_false, List.length_map, Int.not_lt, Int.not_le, ne_eq, Decidable.not_not] at hc1
    refine vc_seq fun K4 hK4 => ?_
    refine vc_region ?_
    refine vo_assign_pv rfl rfl ?_
    refine vo_nil ?_
    refine hK4 _ ?_
    refine vc_ret ?_
    change retPv _ _ _ _ _
    refine retPv_mk rfl rfl rfl ⟨?_, rfl⟩
    refine (congrArg (fun b => [bo b]) (?_ : _ = _) : [bo _] = [bo _])
    exact bF fun h => by subst h; omega
  · try simp only [decide_eq_true_eq, decide_eq_false_iff_not, beq_iff_eq, bne_iff_ne, beq_eq_false_iff_ne, bne_eq_false_iff_eq, Bool.not_eq_true, Bool.not_eq_false, Bool.not_eq_eq_eq_not, Bool.not_true, Bool.not_false, List.length_map, Int.not_lt, Int.not_le, ne_eq, Decidable.not_not] at hc1
    refine vc_skip ?_
    refine hK2 _ ?_
    refine vc_seq fun K5 hK5 => ?_
    refine vc_seq fun K6 hK6 => ?_
    refine vc_region ?_
    refine vo_assign_pv rfl rfl ?_
    refine vo_nil ?_
    refine hK6 _ ?_
    refine vc_block ?_
    refine vc_stN ?_
    refine vc_loopF [0, 1] [5] [.pv false (.sl nl0 1 (a.map intP)), .pv false (.sl nl1 1 (b.map intP))] _ (fun mz vs => ∃ (k : Nat), mz = a.length - k ∧ (k ≤ a.length) ∧ (a.take k = b.take k) ∧ vs = [i64 k]) (a.length) rfl rfl (le_len hC rfl) ⟨rfl, rfl, rfl⟩ ⟨0, rfl, Nat.zero_le _, rfl, rfl⟩ ?_
    rintro mz vs - ⟨k, rfl, hk, hf, rfl⟩
    refine vc_stN ?_
    refine vc_seq fun K7 hK7 => ?_
    refine vc_seq fun K8 hK8 => ?_
    refine vc_region ?_
    refine vo_move_pv rfl rfl ?_
    refine vo_move_pv rfl rfl ?_
    refine vo_len_pv rfl rfl Try.underlying36 ?_
    refine vo_binI rfl rfl rfl rfl trivial ?_
    refine vo_nil ?_
    refine hK8 _ ?_
    refine vc_cond rfl (fun hc2 => ?_) (fun hc2 => ?_)
    · try simp only [decide_eq_true_eq, decide_eq_false_iff_not, beq_iff_eq, bne_iff_ne, beq_eq_false_iff_ne, bne_eq_false_iff_eq, Bool.not_eq_true, Bool.not_eq_false, Bool.not_eq_eq_eq_not, Bool.not_true, Bool.not_false, List.length_map, Int.not_lt, Int.not_le, ne_eq, Decidable.not_not] at hc2
      refine vc_skip ?_
      refine hK7 _ ?_
      refine vc_seq fun K9 hK9 => ?_
      refine vc_block ?_
      refine vc_seq fun K10 hK10 => ?_
      refine vc_draw (by kernel_rfl) ?_
      change VD _ _ _ 9 _ _ _
      refine vd_light 0 rfl rfl rfl (by kernel_rfl) (by kernel_rfl) (by kernel_rfl) (wnt_none rfl) (lt_move_pv rfl) ?_
      refine vd_light 1 rfl rfl rfl (by kernel_rfl) (by kernel_rfl) (by kernel_rfl) (wnt_none rfl) (lt_move_pv rfl) ?_
      refine vd_light 2 rfl rfl rfl (by kernel_rfl) (by kernel_rfl) (by kernel_rfl) (wnt_none rfl) (lt_index_pv (.int .i64 0) rfl rfl E36.und inf3 sz3 sd sd) ?_
      simp only [Int.toNat_natCast, Int.toNat_zero, getD_ints, getD_intss, getD_bools, getD_bytes, PV.cells]
      refine vd_light 3 rfl rfl rfl (by kernel_rfl) (by kernel_rfl) (by kernel_rfl) (wnt_none rfl) (lt_load_adr rfl Try.underlying3 rfl) ?_
      refine vd_light 4 rfl rfl rfl (by kernel_rfl) (by kernel_rfl) (by kernel_rfl) (wnt_none rfl) (lt_move_pv rfl) ?_
      refine vd_light 5 rfl rfl rfl (by kernel_rfl) (by kernel_rfl) (by kernel_rfl) (wnt_none rfl) (lt_move_pv rfl) ?_
      refine vd_light 6 rfl rfl rfl (by kernel_rfl) (by kernel_rfl) (by kernel_rfl) (wnt_none rfl) (lt_index_pv (.int .i64 0) rfl rfl E36.und inf3 sz3 sd sd) ?_
      simp only [Int.toNat_natCast, Int.toNat_zero, getD_ints, getD_intss, getD_bools, getD_bytes, PV.cells]
      refine vd_light 7 rfl rfl rfl (by kernel_rfl) (by kernel_rfl) (by kernel_rfl) (wnt_none rfl) (lt_load_adr rfl Try.underlying3 rfl) ?_
      refine vd_light 8 rfl rfl rfl (by kernel_rfl) (by kernel_rfl) (by kernel_rfl) (wnt_none rfl) (lt_binI rfl rfl rfl trivial) ?_
      refine vd_nil (by kernel_rfl) ?_
      refine hK10 _ ?_
      refine vc_cond rfl (fun hc3 => ?_) (fun hc3 => ?_)
      · try simp only [decide_eq_true_eq, decide_eq_false_iff_not, beq_iff_eq, bne_iff_ne, beq_eq_false_iff_ne, bne_eq_false_iff_eq, Bool.not_eq_true, Bool.not_eq_false, Bool.not_eq_eq_eq_not, Bool.not_true, Bool.not_false, List.length_map, Int.not_lt, Int.not_le, ne_eq, Decidable.not_not] at hc3
        refine vc_seq fun K11 hK11 => ?_
        refine vc_region ?_
        refine vo_assign_pv rfl rfl ?_
        refine vo_nil ?_
        refine hK11 _ ?_
        refine vc_ret ?_
        change retPv _ _ _ _ _
        refine retPv_mk rfl rfl rfl ⟨?_, rfl⟩
        refine (congrArg (fun b => [bo b]) (?_ : _ = _) : [bo _] = [bo _])
        exact bF fun h => hc3 ((take_eq_succ (by omega) (by omega) 0).1 (take_eq_of h (k+1))).2
      · try simp only [decide_eq_true_eq, decide_eq_false_iff_not, beq_iff_eq, bne_iff_ne, beq_eq_false_iff_ne, bne_eq_false_iff_eq, Bool.not_eq_true, Bool.not_eq_false, Bool.not_eq_eq_eq_not, Bool.not_true, Bool.not_false, List.length_map, Int.not_lt, Int.not_le, ne_eq, Decidable.not_not] at hc3
        refine vc_skip ?_
        refine hK9 _ ?_
        refine vc_region ?_
        refine vo_move_pv rfl rfl ?_
        refine vo_binI rfl rfl rfl rfl sd ?_
        refine vo_assign_pv rfl rfl ?_
        refine vo_nil ?_
        change againF _ _ _ _ _ _ _ _ _
        refine againF_mk rfl rfl rfl rfl rfl rfl ⟨_, ?_, k + 1, rfl, ?_, ?_, rfl⟩
        · omega
        · omega
        · exact (take_eq_succ (by omega) (by omega) 0).2 ⟨hf, hc3⟩
    · try simp only [decide_eq_true_eq, decide_eq_false_iff_not, beq_iff_eq, bne_iff_ne, beq_eq_false_iff_ne, bne_eq_false_iff_eq, Bool.not_eq_true, Bool.not_eq_false, Bool.not_eq_eq_eq_not, Bool.not_true, Bool.not_false, List.length_map, Int.not_lt, Int.not_le, ne_eq, Decidable.not_not] at hc2
      refine vc_exit ?_
      refine hK5 _ ?_
      refine vc_seq fun K12 hK12 => ?_
      refine vc_region ?_
      refine vo_assign_pv rfl rfl ?_
      refine vo_nil ?_
      refine hK12 _ ?_
      refine vc_ret ?_
      change retPv _ _ _ _ _
      refine retPv_mk rfl rfl rfl ⟨?_, rfl⟩
      refine (congrArg (fun b => [bo b]) (?_ : _ = _) : [bo _] = [bo _])
      rw [take_all (by omega), take_all (by omega)] at hf; exact bT hf

end Go.Vl

namespace Go.Vl
set_option linter.unusedVariables false
set_option linter.unusedSimpArgs false
open Go.Proofs

end Go.Vl

namespace Go.Vl
set_option linter.unusedVariables false
set_option linter.unusedSimpArgs false
open Go.Proofs

theorem ordM_head {b : List (List Int)} {c : Nat} (h : ordM b c ≠ []) : ∃ t, ordM b c = (c : Int) :: t := by
  unfold ordM ordS at h ⊢
  split at h
  · exact absurd rfl h
  · rename_i h1
    rw [if_neg h1]
    first
      | exact ⟨_, rfl⟩
      | (split at h
         · exact absurd rfl h
         · rename_i h2
           rw [if_neg h2]
           exact ⟨_, rfl⟩)
      | (split at h
         · rename_i h2
           rw [if_pos h2]
           exact ⟨_, rfl⟩
         · exact absurd rfl h)
theorem take1 {l : List Int} (h : l ≠ []) : l.take 1 = [l.getD 0 0] := by
  cases l with
  | nil => exact absurd rfl h
  | cons a l => rfl

end Go.Vl

namespace Go.Vl
set_option linter.unusedVariables false
set_option linter.unusedSimpArgs false
open Go.Proofs

end Go.Vl

/- A cell of a variable that holds a nil slice holds a row of the call's own that is empty. -/
namespace Go.Vl
set_option linter.unusedVariables false
set_option linter.unusedSimpArgs false
open Go.RowKit
section
variable {P : Program} {C : Ctx} {Q : Go.Exit → St → Prop} {s : St} {ops : Array Oper}

end
end Go.Vl

/- Every order, one by one: for statements where an operation that writes may come before a reading one. -/
namespace Go.Vl
set_option linter.unusedVariables false
set_option linter.unusedSimpArgs false
open Go.RowKit
section
variable {late : List Nat} {P : Program} {C : Ctx} {ops : Array Oper} {K : St → Prop} {s s1 : St} {n : Nat} {listed : Array Bool}
end
section
variable {P : Program} {C : Ctx} {s : St} {t : Nat} {ty : TypeId} {pos : String} {af : Array Edge}
end
end Go.Vl

/- Statements whose order of evaluation is open, with calls that write rows lent to the function: what reads others reads the same behind them. -/
namespace Go.Vl
set_option linter.unusedVariables false
set_option linter.unusedSimpArgs false
open Go.RowKit

/-- All that was there is there as it was, but for some blocks. -/
def ExtB (B : Nat → Prop) (w w' : World) : Prop := w.heap.size ≤ w'.heap.size ∧ ∀ k, k < w.heap.size → ¬ B k → w'.heap[k]? = w.heap[k]?
theorem ExtB.refl (B : Nat → Prop) (w : World) : ExtB B w w := ⟨Nat.le_refl _, fun _ _ _ => rfl⟩
theorem ExtB.trans {B : Nat → Prop} {a b c : World} (h : ExtB B a b) (k : ExtB B b c) : ExtB B a c := ⟨Nat.le_trans h.1 k.1, fun i hi hb => (k.2 i (Nat.lt_of_lt_of_le hi h.1) hb).trans (h.2 i hi hb)⟩
theorem ExtB.cell {B : Nat → Prop} {w w' : World} (h : ExtB B w w') {a : Addr} {v : Value} (hb : ¬ B a.block) (hc : w.cell? a = some v) : w'.cell? a = some v := by
  have hlt : a.block < w.heap.size := by
    rcases Nat.lt_or_ge a.block w.heap.size with h | h
    · exact h
    · unfold World.cell? at hc
      rw [Array.getElem?_eq_none h] at hc
      cases hc
  rw [← hc]
  simp [World.cell?, h.2 _ hlt hb]
/-- The blocks of what was lent to the function. -/
def lentB (C : Ctx) (b : Nat) : Prop := ∃ id, id < C.nb ∧ (C.bv id).S b

section
variable {B : Nat → Prop} {P : Program} {ops : Array Oper} {Q : Go.Exit → Act → World → Prop}
def yieldsB (B : Nat → Prop) (P : Program) (ops : Array Oper) (o : Oper) (v : Value) (a : Act) (w : World) : Prop :=
  (Region.wanted o (yielded ops a.tmps) = true ∧ ∀ w', ExtB B w w' → (execOp a.eval o).run P w' = .ok (.value v) w') ∨ (Region.wanted o (yielded ops a.tmps) = false ∧ v = undef)

theorem yieldsB.step {o : Oper} {v : Value} {a a' : Act} {w w' : World} (h : yieldsB B P ops o v a w) (hx : ExtB B w w') (he : execOp a'.eval o = execOp a.eval o)
    (hw : Region.wanted o (yielded ops a'.tmps) = Region.wanted o (yielded ops a.tmps)) : yieldsB B P ops o v a' w' := by
  unfold yieldsB at *
  rw [he, hw]
  exact h.imp (fun h => ⟨h.1, fun w2 h2 => h.2 w2 (hx.trans h2)⟩) id

theorem yieldsB.op {i : Nat} {o : Oper} {v : Value} {a : Act} {w : World} (hi : ops[i]? = some o) (hy : yieldsB B P ops o v a w) {K : Act → World → Prop} (h : K (a.put o.dst v) w) : wpOp P ops Q i K a w := by
  unfold wpOp
  simp only [hi]
  rcases hy with ⟨hw, hv⟩ | ⟨hw, rfl⟩
  · simp only [hw, if_true, Oper.wp, hv w (ExtB.refl B w), Oper.upon]; exact .inl h
  · simp only [hw, Bool.false_eq_true, if_false]; exact h

/-- Whatever order is picked; each step leaves all that was there as it was, or is one of those that come late. -/
def anyLB (B : Nat → Prop) (late : List Nat) (P : Program) (ops : Array Oper) (Q : Go.Exit → Act → World → Prop) : Nat → Array Bool → Act → World → Prop
  | 0, listed, a, w => Region.ready .any ops listed = [] ∧ Q .normal a w
  | n + 1, listed, a, w => (Region.ready .any ops listed = [] → Q .normal a w) ∧
      ∀ i ∈ Region.ready .any ops listed, wpOp P ops Q i (fun a' w' => (ExtB B w w' ∨ late.contains i = true) ∧ anyLB B late P ops Q n (listed.setIfInBounds i true) a' w') a w

end

def LtB (P : Program) (C : Ctx) (s : St) (o : Oper) (sv : SV) : Prop :=
  ∀ m a w, SimM C s m a w → ∃ v, (∀ w', ExtB (lentB C) w w' → (execOp a.eval o).run P w' = .ok (.value v) w') ∧ RS w (Gd C s.rows m w) m s.rows.length sv v
def VLB (late : List Nat) (P : Program) (C : Ctx) (ops : Array Oper) (n : Nat) (listed : Array Bool) (K : St → Prop) (s : St) : Prop := ∀ m a w, SimM C s m a w → anyLB (lentB C) late P ops (post0 C K) n listed a w

section
variable {late : List Nat} {P : Program} {C : Ctx} {ops : Array Oper} {K : St → Prop} {s : St} {n : Nat} {listed : Array Bool}

end
section
variable {late : List Nat} {P : Program} {C : Ctx} {ops : Array Oper} {K : St → Prop} {s s1 : St} {n : Nat} {listed : Array Bool}
def StepB (late : List Nat) (P : Program) (C : Ctx) (ops : Array Oper) (n : Nat) (listed : Array Bool) (K : St → Prop) (s : St) (i : Nat) : Prop :=
  ∀ m a w, SimM C s m a w → wpOp P ops (post0 C K) i (fun a' w' => (ExtB (lentB C) w w' ∨ late.contains i = true) ∧ anyLB (lentB C) late P ops (post0 C K) n (listed.setIfInBounds i true) a' w') a w
end
section
variable {P : Program} {C : Ctx} {s : St} {t : Nat} {ty : TypeId} {pos : String} {af : Array Edge}
end
section
variable {late : List Nat} {P : Program} {C : Ctx} {ops : Array Oper} {K : St → Prop} {s : St} {n : Nat} {listed : Array Bool}
end
end Go.Vl

namespace Go.Vl
set_option linter.unusedVariables false
set_option linter.unusedSimpArgs false
open Go.Proofs
def smallW (w : WorldM) : Prop := (1 ≤ w.bases.length ∧ w.bases.length ≤ 9 ∧ ∀ l ∈ w.bases, l.length ≤ 3) ∧ (w.attrs.length = w.bases.length ∧ ∀ l ∈ w.attrs, l.length ≤ 3) ∧ w.objs.length ≤ 3 ∧ ∀ o ∈ w.objs, o.pairs.length ≤ 3
end Go.Vl

/- Cells of rows whose slices are their own: a plain one is written; a slice in one is lent to a function, which may write it. -/
namespace Go.Vl
set_option linter.unusedVariables false
set_option linter.unusedSimpArgs false
open Go.RowKit

section
variable {P : Program} {C : Ctx} {Q : Go.Exit → St → Prop} {s : St} {ops : Array Oper} {rest : List Oper} {t : Nat} {ty : TypeId} {pos : String} {af : Array Edge}

end
end Go.Vl

/- More for such statements: what is taken out of a row; nil cells of rows. -/
namespace Go.Vl
set_option linter.unusedVariables false
set_option linter.unusedSimpArgs false
open Go.RowKit
section
variable {late : List Nat} {P : Program} {C : Ctx} {ops : Array Oper} {K : St → Prop} {s : St} {n : Nat} {listed : Array Bool}
/-- An operation that leaves all memory as it is, or makes new: what is told of it is not known at once. -/
def XtE (P : Program) (C : Ctx) (s : St) (o : Oper) (α : Type) (s1 : α → St) (sv : SV) : Prop :=
  ∀ m a w, SimM C s m a w → ∃ x v w' m', (execOp a.eval o).run P w = .ok (.value v) w' ∧ SimM C (s1 x) m' a w' ∧ RS w' (Gd C (s1 x).rows m' w') m' (s1 x).rows.length sv v ∧ ExtW w w'
end
section
variable {P : Program} {C : Ctx} {Q : Go.Exit → St → Prop} {s : St} {ops : Array Oper} {rest : List Oper} {t : Nat} {ty : TypeId} {pos : String} {af : Array Edge}
end
section
variable {late : List Nat} {P : Program} {C : Ctx} {ops : Array Oper} {K : St → Prop} {s : St} {n : Nat} {listed : Array Bool}
end
end Go.Vl

/- Numbers that are written into the cells of lists, one by one (pure). -/
namespace Go.Vl
set_option linter.unusedVariables false
set_option linter.unusedSimpArgs false

def mkS {α : Type} (f : Int → α → α) (g : Int → α → Int) : Int → List α → List α
  | _, [] => []
  | k, x :: r => f k x :: mkS f g (g k x) r
def mkN {α : Type} (g : Int → α → Int) : Int → List α → Int
  | k, [] => k
  | k, x :: r => mkN g (g k x) r
section
variable {α : Type} {f : Int → α → α} {g : Int → α → Int}
end
end Go.Vl
namespace Go.Vl
end Go.Vl

namespace Go.Vl
set_option linter.unusedVariables false
set_option linter.unusedSimpArgs false
open Go.Proofs

def medW (w : WorldM) : Prop := (1 ≤ w.bases.length ∧ w.bases.length ≤ 9 ∧ ∀ l ∈ w.bases, l.length ≤ 3) ∧ (w.attrs.length ≤ 10 ∧ ∀ l ∈ w.attrs, l.length ≤ 4) ∧ w.objs.length ≤ 4 ∧ ∀ o ∈ w.objs, o.pairs.length ≤ 3
end Go.Vl

/- Arguments of which less is said: what a contract says of those holds of them. -/
namespace Go.Vl
set_option linter.unusedVariables false
set_option linter.unusedSimpArgs false
open Go.RowKit

mutual
def PV.wk : PV → PV
  | .sl _ e xs => .sl none e (PV.wks xs)
  | .agg cs => .agg (PV.wks cs)
  | p => p
def PV.wks : List PV → List PV
  | [] => []
  | x :: xs => x.wk :: PV.wks xs
end
theorem PV.wks_map : ∀ l : List PV, PV.wks l = l.map PV.wk
  | [] => by simp [PV.wks]
  | x :: l => by simp [PV.wks, PV.wks_map l]
theorem PV.wk_sl (nl : Option Bool) (e : Nat) (xs : List PV) : (PV.sl nl e xs).wk = .sl none e (xs.map PV.wk) := by simp [PV.wk, PV.wks_map]
theorem PV.wk_agg (cs : List PV) : (PV.agg cs).wk = .agg (cs.map PV.wk) := by simp [PV.wk, PV.wks_map]
theorem PV.wk_int (k : IntKind) (n : Int) : (PV.int k n).wk = .int k n := by simp [PV.wk]
theorem PV.wk_bool (b : Bool) : (PV.bool b).wk = .bool b := by simp [PV.wk]
theorem PV.wk_isAgg (p : PV) : p.wk.isAgg = p.isAgg := by cases p <;> simp [PV.wk, PV.isAgg]
theorem PV.wk_cells (p : PV) : p.wk.cells = p.cells.map PV.wk := by
  cases p <;> simp [PV.wk, PV.cells, PV.wks_map]
theorem PV.wk_fits {p : PV} {e : Nat} (h : p.fits e) : p.wk.fits e := by
  refine ⟨by rw [PV.wk_cells, List.length_map]; exact h.1, fun j c hc => ?_⟩
  rw [PV.wk_cells] at hc
  simp only [List.getElem?_map, Option.map_eq_some_iff] at hc
  obtain ⟨c', hc', rfl⟩ := hc
  rw [PV.wk_isAgg]; exact h.2 j c' hc'
theorem RP.wk {w : World} {G : Nat → Prop} {p : PV} {v : Value} (h : RP w G p v) : RP w G p.wk v := by
  induction h with
  | int k n => rw [PV.wk_int]; exact .int k n
  | bool b => rw [PV.wk_bool]; exact .bool b
  | str s => simp only [PV.wk]; exact .str s
  | nilsl nl e h => rw [PV.wk_sl]; exact .nilsl none e (by simp)
  | sl nl e xs a len cap f h hs hl hcap hg hw hc hr ih =>
    rw [PV.wk_sl]
    refine .sl none e _ a len cap f (by simp) (fun h => hs (by simpa using h)) (by simpa using hl) hcap (fun h => hg (by simpa using h)) (fun i x hx => ?_) (fun i x j c hx hcj => ?_) (fun i x j c hx hcj => ?_)
    · simp only [List.getElem?_map, Option.map_eq_some_iff] at hx
      obtain ⟨x', hx', rfl⟩ := hx
      exact PV.wk_fits (hw i x' hx')
    · simp only [List.getElem?_map, Option.map_eq_some_iff] at hx
      obtain ⟨x', hx', rfl⟩ := hx
      rw [PV.wk_cells] at hcj
      simp only [List.getElem?_map, Option.map_eq_some_iff] at hcj
      obtain ⟨c', hc', rfl⟩ := hcj
      exact hc i x' j c' hx' hc'
    · simp only [List.getElem?_map, Option.map_eq_some_iff] at hx
      obtain ⟨x', hx', rfl⟩ := hx
      rw [PV.wk_cells] at hcj
      simp only [List.getElem?_map, Option.map_eq_some_iff] at hcj
      obtain ⟨c', hc', rfl⟩ := hcj
      exact ih i x' j c' hx' hc'
  | agg cs vs hl h1 h ih =>
    rw [PV.wk_agg]
    refine .agg _ vs (by simpa using hl) (fun j c hc => ?_) (fun j c v hc hv => ?_)
    · simp only [List.getElem?_map, Option.map_eq_some_iff] at hc
      obtain ⟨c', hc', rfl⟩ := hc
      rw [PV.wk_isAgg]; exact h1 j c' hc'
    · simp only [List.getElem?_map, Option.map_eq_some_iff] at hc
      obtain ⟨c', hc', rfl⟩ := hc
      exact ih j c' v hc' hv
  | gone v h => simp only [PV.wk]; exact .gone v h
  | ifc t p v h ih => simp only [PV.wk]; exact .ifc t p v h
  | nilifc => simp only [PV.wk]; exact .nilifc

def SV.wk : SV → SV
  | .pv f p => .pv f p.wk
  | s => s

theorem SatAt.wk {P : Program} {f : FuncId} {args args2 : List SV} {rows : List Row} {R : List SV → List Row → Prop} (e : args.map SV.wk = args2) (h : SatAt P f args2 rows R) : SatAt P f args rows R := by
  subst e
  intro C m vals hnb hA hv hs
  refine h C m vals hnb hA (by simpa using hv) { hs with env := fun t => ?_ }
  have := hs.env t
  show RS _ _ _ _ (look (enumE 0 (args.map SV.wk)) t) _
  change RS _ _ _ _ (look (enumE 0 args) t) _ at this
  rw [look_enumE] at this ⊢
  simp only [Nat.zero_le, if_true, Nat.sub_zero, List.getElem?_map] at this ⊢
  cases ht : args[t]? with
  | none => rw [ht] at this; simpa using this
  | some x =>
    rw [ht] at this
    simp only [Option.getD_some, Option.map_some] at this ⊢
    generalize vals.getD t undef = v at this ⊢
    cases this with
    | pv fr p v hp => exact .pv _ _ _ hp.wk
    | any v => exact .any v
    | val u => exact .val _
    | und => exact .und
    | ref id h => exact .ref id h
    | ptr id e i o b hid h => exact .ptr id e i o b hid h
    | adr fr cs a f hs hg h1 hc hr => exact .adr fr cs a f hs hg h1 hc hr
    | tup vs us hl h => exact .tup vs us hl h
    | ag vs us hl h h1 => exact .ag vs us hl h h1
    | sub id e l h c v hid hs => exact .sub id e l h c _ hid hs
end Go.Vl

/- '==' and '!=' on structs of three and four numbers. -/
namespace Go.Vl
set_option linter.unusedVariables false
set_option linter.unusedSimpArgs false
open Go.RowKit

/-- Structs of 3 numbers are compared number by number. -/
def EqI3 (P : Program) (T : TypeId) : Prop :=
  (∀ (x1 x2 x3 y1 y2 y3 : Int) (w : World), (Op.equalIn 10000 T (.agg #[.int .i64 x1, .int .i64 x2, .int .i64 x3]) (.agg #[.int .i64 y1, .int .i64 y2, .int .i64 y3])).run P w = .ok (x1 == y1 && x2 == y2 && x3 == y3) w) ∧ P.eqGuardType P.depth T = false

section
variable {P : Program} {C : Ctx} {Q : Go.Exit → St → Prop} {s : St} {ops : Array Oper} {rest : List Oper} {t : Nat} {ty : TypeId} {pos : String} {af : Array Edge}

end

/-- Structs of 4 numbers are compared number by number. -/
def EqI4 (P : Program) (T : TypeId) : Prop :=
  (∀ (x1 x2 x3 x4 y1 y2 y3 y4 : Int) (w : World), (Op.equalIn 10000 T (.agg #[.int .i64 x1, .int .i64 x2, .int .i64 x3, .int .i64 x4]) (.agg #[.int .i64 y1, .int .i64 y2, .int .i64 y3, .int .i64 y4])).run P w = .ok (x1 == y1 && x2 == y2 && x3 == y3 && x4 == y4) w) ∧ P.eqGuardType P.depth T = false

section
variable {P : Program} {C : Ctx} {Q : Go.Exit → St → Prop} {s : St} {ops : Array Oper} {rest : List Oper} {t : Nat} {ty : TypeId} {pos : String} {af : Array Edge}

end
end Go.Vl

/- An operation that makes memory, under a guard; 'make' in a statement whose order of evaluation is open. -/
namespace Go.Vl
set_option linter.unusedVariables false
set_option linter.unusedSimpArgs false
open Go.RowKit
section
variable {late : List Nat} {P : Program} {C : Ctx} {ops : Array Oper} {K : St → Prop} {s s1 : St} {n : Nat} {listed : Array Bool}
end
section
variable {P : Program} {C : Ctx} {s : St} {t : Nat} {ty : TypeId} {pos : String} {af : Array Edge}
end
end Go.Vl

namespace Go.Vl
set_option linter.unusedVariables false
set_option linter.unusedSimpArgs false
open Go.Proofs

end Go.Vl

namespace Go.Vl
set_option linter.unusedVariables false
set_option linter.unusedSimpArgs false
open Go.Proofs

end Go.Vl

namespace Go.Vl
set_option linter.unusedVariables false
set_option linter.unusedSimpArgs false
open Go.Proofs

theorem findM_at {o : List Int} (hn : o.Nodup) {j : Nat} (hj : j < o.length) : findM (o.getD j 0) o 0 = j := by
  obtain ⟨i, hi, e1, e2, e3⟩ := findM_pos_iff (n := o.getD j 0) (l := o) (k := 0) (by omega) ((findM_mem _ o 0 (by omega)).2 (getD_mem hj 0))
  rw [e1]
  have h0 : o.getD i 0 = o[i] := by simp [List.getD, List.getElem?_eq_getElem hi]
  have h1 : o.getD j 0 = o[j] := by simp [List.getD, List.getElem?_eq_getElem hj]
  have : i = j := by
    rw [h0, h1] at e2
    have hp := List.pairwise_iff_getElem.1 hn
    rcases Nat.lt_trichotomy i j with h | h | h
    · exact absurd e2 (hp i j hi hj h)
    · exact h
    · exact absurd e2.symm (hp j i hj hi h)
  omega
theorem nxtO_at {o : List Int} (hn : o.Nodup) {j : Nat} (hj : j < o.length) : nxtO o (o.getD j 0) = if j + 1 < o.length then o.getD (j + 1) 0 else -1 := by
  unfold nxtO
  rw [findM_at hn hj]
  by_cases h : j + 1 < o.length
  · rw [if_pos h, if_pos ⟨by omega, by omega⟩, show ((j : Int) + 1).toNat = j + 1 by omega]
  · rw [if_neg h, if_neg (by omega)]
theorem nxtO_pos {o : List Int} (hn : o.Nodup) (h0 : ∀ x ∈ o, 0 ≤ x) {x : Int} (hl : 0 < o.length) : 0 ≤ nxtO o x ↔ x ∈ o ∧ x ≠ o.getD (o.length - 1) 0 := by
  constructor
  · intro h
    unfold nxtO at h
    split at h
    · rename_i h1
      have hm := (findM_mem x o 0 (by omega)).1 h1.1
      refine ⟨hm, fun e => ?_⟩
      rw [e, findM_at hn (show o.length - 1 < o.length by omega)] at h1
      omega
    · omega
  · rintro ⟨h1, h2⟩
    obtain ⟨j, hj, e⟩ := List.getElem_of_mem h1
    have e2 : o.getD j 0 = x := by simp [List.getD, List.getElem?_eq_getElem hj, e]
    rw [← e2, nxtO_at hn hj]
    split
    · exact h0 _ (getD_mem (by omega) 0)
    · rename_i h3
      exact absurd (by rw [← e2, show o.length - 1 = j by omega]) h2
theorem orR_facts {b : List (List Int)} {c : Int} (h : orOK b c) : (orR b c).Nodup ∧ (∀ x ∈ orR b c, 0 ≤ x) ∧ 0 < (orR b c).length ∧ (orR b c).length ≤ b.length ∧ (orR b c).length ≤ 12 ∧ (orR b c).getD 0 0 = c := by
  have hc : c.toNat < b.length := by have := h.1; omega
  have h0 := ordM_ok h.1.1 c.toNat hc
  have h1 := nodup_len h0
  rw [orR_yes h]
  obtain ⟨t, ht⟩ := ordM_head h.2
  refine ⟨h0.1, fun x hx => (h0.2 x hx).1, by rw [ht]; simp, by omega, ordM_len h.1.1 hc, by rw [ht]; show ((c.toNat : Int)) = c; have := h.1; omega⟩
theorem take_push {o : List Int} {k : Nat} (h : k < o.length) : o.take k ++ [o.getD k 0] = o.take (k + 1) := by
  rw [List.take_add_one, List.getElem?_eq_getElem h, List.getD_eq_getElem?_getD, List.getElem?_eq_getElem h]; rfl

theorem DrawNextAfter_sat {nl : Option Bool} {c : List (Fin 256)} (hl : c.length < 1000000000) : SatAt Try.prog 23 [.pv false (.sl nl 1 (c.map byteP))] [] (fun res rows => ∃ (B : List (List Int)) (z y : Int) (f : Bool), (1 ≤ B.length ∧ B.length ≤ 10 ∧ (∀ l ∈ B, l.length ≤ 3) ∧ -1 ≤ z ∧ z ≤ 12) ∧ res = [.ref 0, i64 z, i64 y] ∧ rows = [Row.own 36 1 (some false) f (B.map ints)]) := by
  refine sat_entry_G (rs := [(2, none), (3, none), (4, none)]) Try.func23 rfl rfl (Nat.le_of_ble_eq_true rfl) (Nat.le_of_ble_eq_true rfl) (resTs3 trivial trivial trivial) fun C hC => ?_
  rw [Try.ntmps23]
  replace hC : C.nb = 0 := hC
  refine vc_seq fun K1 hK1 => ?_
  refine vc_region ?_
  refine vo_assign_pv rfl rfl ?_
  refine vo_assign_pv rfl rfl ?_
  refine vo_assign_pv rfl rfl ?_
  refine vo_nil ?_
  refine hK1 _ ?_
  refine vc_seq fun K2 hK2 => ?_
  refine vc_region ?_
  refine vo_move_pv rfl rfl ?_
  refine vo_call [] Try.func66 rfl rfl rfl rfl rfl rfl rfl (newReader_sat (by omega)) ?_
  rintro _ _ ⟨nl2, c2, hc, rfl, rfl⟩
  refine ⟨Nat.le_of_ble_eq_true rfl, ⟨rfl, rfl, rfl, rfl⟩, .inl rfl, ?_⟩
  refine vo_stM ?_
  refine vo_assign_ptr rfl rfl ?_
  refine vo_nil ?_
  refine hK2 _ ?_
  refine vc_seq fun K3 hK3 => ?_
  refine vc_region ?_
  refine vo_move_ptr rfl rfl ?_
  refine vo_call [0] Try.func67 rfl rfl rfl rfl rfl rfl rfl (classOf_sat hc (by omega)) ?_
  rintro _ _ ⟨B, q, z, f, ⟨⟨h1, h2, h3, h5, h6⟩, h4⟩, rfl, rfl⟩
  refine ⟨Nat.le_of_ble_eq_true rfl, ⟨rfl, rfl, rfl, rfl⟩, .inl rfl, ?_⟩
  refine vo_stM ?_
  refine vo_move rfl ?_
  refine vo_stM ?_
  refine vo_extract rfl rfl rfl ?_
  refine vo_extract rfl rfl rfl ?_
  refine vo_assign_ref rfl rfl ?_
  refine vo_assign_pv rfl rfl ?_
  refine vo_nil ?_
  refine hK3 _ ?_
  refine vc_seq fun K4 hK4 => ?_
  refine vc_region ?_
  refine vo_move_ref rfl rfl ?_
  refine vo_move_pv rfl rfl ?_
  refine vo_move_ptr rfl rfl ?_
  refine vo_move_ptr rfl rfl ?_
  refine vo_move_ref rfl rfl ?_
  refine vo_len_ref rfl rfl rfl Try.underlying22 ?_
  refine vo_call [0] Try.func69 rfl rfl rfl rfl rfl rfl rfl (pick_sat hc (by omega)) ?_
  rintro _ _ ⟨x21, ⟨hx210, hx211⟩, rfl, rfl⟩
  refine ⟨Nat.le_of_ble_eq_true rfl, ⟨rfl, rfl, rfl, rfl⟩, .inl rfl, ?_⟩
  refine vo_stM ?_
  refine vo_move_pv rfl rfl ?_
  refine vo_buildSlice E36 rfl rfl rfl rfl rfl ?_
  refine vo_stM ?_
  refine vo_expose 2 (by omega) rfl ?_
  refine vo_stM ?_
  refine vo_weaken 23 rfl ?_
  refine vo_stM ?_
  refine vo_call [0] Try.func68 rfl rfl rfl rfl rfl rfl rfl (one_sat (list := [_,_,_,_]) hc (by omega) (by simp) (by simp)) ?_
  rintro _ _ ⟨y24, hy24, rfl, rfl⟩
  refine ⟨Nat.le_of_ble_eq_true rfl, ⟨rfl, rfl, rfl, rfl⟩, .inl rfl, ?_⟩
  refine vo_stM ?_
  refine vo_assign_ref rfl rfl ?_
  refine vo_assign_pv rfl rfl ?_
  refine vo_assign_pv rfl rfl ?_
  refine vo_nil ?_
  refine hK4 _ ?_
  refine vc_ret ?_
  change retQ _ _ _ _ _
  refine retQ_sel [1] (srows := [_]) (.inr rfl) hC rfl rfl rfl rfl rfl rfl rfl ?_
  exact ⟨B, z, _, _, ⟨h1, h2, h3, h5, h6⟩, rfl, rfl⟩


theorem FnNextAfter_sat {nl : Option Bool} {code : List (Fin 256)} : SatAt Try.prog 4 [.pv false (.sl nl 1 (code.map byteP))] [] (fun res rows => res = [bo true] ∧ rows = []) := by
  refine sat_entry_G (rs := [(2, none)]) Try.func4 rfl rfl (Nat.le_of_ble_eq_true rfl) (Nat.le_of_ble_eq_true rfl) (resTs1 trivial) fun C hC => ?_
  rw [Try.ntmps4]
  replace hC : C.nb = 0 := hC
  refine vc_seq fun K1 hK1 => ?_
  refine vc_region ?_
  refine vo_assign_pv rfl rfl ?_
  refine vo_nil ?_
  refine hK1 _ ?_
  refine vc_seq fun K2 hK2 => ?_
  refine vc_seq fun K3 hK3 => ?_
  refine vc_region ?_
  refine vo_move_pv rfl rfl ?_
  refine vo_len_pv rfl rfl Try.underlying31 ?_
  refine vo_binI rfl rfl rfl rfl trivial ?_
  refine vo_nil ?_
  refine hK3 _ ?_
  refine vc_cond rfl (fun hc1 => ?_) (fun hc1 => ?_)
  · try simp only [decide_eq_true_eq, decide_eq_false_iff_not, beq_iff_eq, bne_iff_ne, beq_eq_false_iff_ne, bne_eq_false_iff_eq, Bool.not_eq_true, Bool.not_eq_false, Bool.not_eq_eq_eq_not, Bool.not_true, Bool.not_false, List.length_map, Int.not_lt, Int.not_le, ne_eq, Decidable.not_not] at hc1
    refine vc_seq fun K4 hK4 => ?_
    refine vc_region ?_
    refine vo_assign_pv rfl rfl ?_
    refine vo_nil ?_
    refine hK4 _ ?_
    refine vc_ret ?_
    change retQ _ _ _ _ _
    refine retQ_sel [] (srows := []) (.inr rfl) hC rfl rfl rfl rfl rfl rfl rfl ?_
    first | exact ⟨rfl, rfl⟩ | (exfalso; simp_all; done) | (refine ⟨(congrArg (fun b => [bo b]) (?_ : _ = true) : [bo _] = [bo true]), rfl⟩; first | (by_cases hy9 : y = (orR B z).getD ((orR B z).length - 1) 0 <;> simp_all <;> done) | simp_all | (simp; omega))
  · try simp only [decide_eq_true_eq, decide_eq_false_iff_not, beq_iff_eq, bne_iff_ne, beq_eq_false_iff_ne, bne_eq_false_iff_eq, Bool.not_eq_true, Bool.not_eq_false, Bool.not_eq_eq_eq_not, Bool.not_true, Bool.not_false, List.length_map, Int.not_lt, Int.not_le, ne_eq, Decidable.not_not] at hc1
    refine vc_skip ?_
    refine hK2 _ ?_
    refine vc_seq fun K5 hK5 => ?_
    refine vc_region ?_
    refine vo_move_pv rfl rfl ?_
    refine vo_call [] Try.func23 rfl rfl rfl rfl rfl rfl rfl (DrawNextAfter_sat (by omega)) ?_
    rintro _ _ ⟨B, z, y, f, ⟨h1, h2, h3, h5, h6⟩, rfl, rfl⟩
    refine ⟨Nat.le_of_ble_eq_true rfl, ⟨rfl, rfl, rfl, rfl⟩, .inl rfl, ?_⟩
    refine vo_stM ?_
    refine vo_move rfl ?_
    refine vo_stM ?_
    refine vo_extract rfl rfl rfl ?_
    refine vo_extract rfl rfl rfl ?_
    refine vo_extract rfl rfl rfl ?_
    refine vo_assign_ref rfl rfl ?_
    refine vo_assign_pv rfl rfl ?_
    refine vo_assign_pv rfl rfl ?_
    refine vo_nil ?_
    refine hK5 _ ?_
    refine vc_seq fun K6 hK6 => ?_
    refine vc_region ?_
    refine vo_move_ref rfl rfl ?_
    refine vo_move_pv rfl rfl ?_
    refine vo_move_pv rfl rfl ?_
    refine vo_call0 Try.func24 rfl rfl rfl rfl (implNextAfter_sat (bases := B) (c := z) (aft := y) (by omega) (lt3 h3)) ?_
    rintro _ _ ⟨rfl, rfl⟩
    refine ⟨rfl, rfl, .inr rfl, ?_⟩
    refine vo_stM ?_
    refine vo_assign_pv rfl rfl ?_
    refine vo_nil ?_
    refine hK6 _ ?_
    refine vc_seq fun K7 hK7 => ?_
    refine vc_seq fun K8 hK8 => ?_
    refine vc_region ?_
    refine vo_move_pv rfl rfl ?_
    refine vo_move_ref rfl rfl ?_
    refine vo_move_pv rfl rfl ?_
    refine vo_move_pv rfl rfl ?_
    refine vo_call0 Try.func25 rfl rfl rfl rfl (specNextAfter_sat (bases := B) (c := z) (aft := y) (by omega) (lt3 h3)) ?_
    rintro _ _ ⟨rfl, rfl⟩
    refine ⟨rfl, rfl, .inr rfl, ?_⟩
    refine vo_stM ?_
    refine vo_binI rfl rfl rfl rfl trivial ?_
    refine vo_move_pv rfl rfl ?_
    refine vo_split 30 rfl (fun hg2 => ?_) (fun hg2 => ?_)
    · try simp only [decide_eq_true_eq, decide_eq_false_iff_not, beq_iff_eq, bne_iff_ne, beq_eq_false_iff_ne, bne_eq_false_iff_eq, Bool.not_eq_true, Bool.not_eq_false, Bool.not_eq_eq_eq_not, Bool.not_true, Bool.not_false, List.length_map, Int.not_lt, Int.not_le, ne_eq, Decidable.not_not] at hg2
      refine vo_guard_off rfl rfl rfl rfl rfl ?_
      refine vo_guard_off rfl rfl rfl rfl rfl ?_
      refine vo_guard_off rfl rfl rfl rfl rfl ?_
      refine vo_pick_t rfl rfl ?_
      refine vo_move_pv rfl rfl ?_
      refine vo_guard_off rfl rfl rfl rfl rfl ?_
      refine vo_guard_off rfl rfl rfl rfl rfl ?_
      refine vo_pick_t rfl rfl ?_
      refine vo_move_pv rfl rfl ?_
      refine vo_guard_off rfl rfl rfl rfl rfl ?_
      refine vo_guard_off rfl rfl rfl rfl rfl ?_
      refine vo_guard_off rfl rfl rfl rfl rfl ?_
      refine vo_guard_off rfl rfl rfl rfl rfl ?_
      refine vo_pick_t rfl rfl ?_
      refine vo_nil ?_
      refine hK8 _ ?_
      refine vc_cond_t rfl ?_
      refine vc_seq fun K9 hK9 => ?_
      refine vc_region ?_
      refine vo_move_pv rfl rfl ?_
      refine vo_move_ref rfl rfl ?_
      refine vo_move_pv rfl rfl ?_
      refine vo_move_pv rfl rfl ?_
      refine vo_call0 Try.func25 rfl rfl rfl rfl (specNextAfter_sat (bases := B) (c := z) (aft := y) (by omega) (lt3 h3)) ?_
      rintro _ _ ⟨rfl, rfl⟩
      refine ⟨rfl, rfl, .inr rfl, ?_⟩
      refine vo_stM ?_
      refine vo_binI rfl rfl rfl rfl trivial ?_
      refine vo_assign_pv rfl rfl ?_
      refine vo_nil ?_
      refine hK9 _ ?_
      refine vc_ret ?_
      change retQ _ _ _ _ _
      refine retQ_sel [] (srows := []) (.inr rfl) hC rfl rfl rfl rfl rfl rfl rfl ?_
      first | exact ⟨rfl, rfl⟩ | (exfalso; simp_all; done) | (refine ⟨(congrArg (fun b => [bo b]) (?_ : _ = true) : [bo _] = [bo true]), rfl⟩; first | (by_cases hy9 : y = (orR B z).getD ((orR B z).length - 1) 0 <;> simp_all <;> done) | simp_all | (simp; omega))
    · try simp only [decide_eq_true_eq, decide_eq_false_iff_not, beq_iff_eq, bne_iff_ne, beq_eq_false_iff_ne, bne_eq_false_iff_eq, Bool.not_eq_true, Bool.not_eq_false, Bool.not_eq_eq_eq_not, Bool.not_true, Bool.not_false, List.length_map, Int.not_lt, Int.not_le, ne_eq, Decidable.not_not] at hg2
      refine vo_guard_on rfl rfl rfl ?_
      refine vo_move_ref rfl rfl ?_
      refine vo_guard_on rfl rfl rfl ?_
      refine vo_call0 Try.func26 rfl rfl rfl rfl (implValidBases_sat (bases := B) (by omega) (lt3 h3)) ?_
      rintro _ _ ⟨rfl, rfl⟩
      refine ⟨rfl, rfl, .inr rfl, ?_⟩
      refine vo_stM ?_
      refine vo_guard_on rfl rfl rfl ?_
      refine vo_not rfl rfl ?_
      refine vo_pick_f rfl rfl ?_
      refine vo_move_pv rfl rfl ?_
      refine vo_split 35 rfl (fun hg3 => ?_) (fun hg3 => ?_)
      · try simp only [decide_eq_true_eq, decide_eq_false_iff_not, beq_iff_eq, bne_iff_ne, beq_eq_false_iff_ne, bne_eq_false_iff_eq, Bool.not_eq_true, Bool.not_eq_false, Bool.not_eq_eq_eq_not, Bool.not_true, Bool.not_false, List.length_map, Int.not_lt, Int.not_le, ne_eq, Decidable.not_not] at hg3
        refine vo_guard_off rfl rfl rfl rfl rfl ?_
        refine vo_guard_off rfl rfl rfl rfl rfl ?_
        refine vo_pick_t rfl rfl ?_
        refine vo_move_pv rfl rfl ?_
        refine vo_guard_off rfl rfl rfl rfl rfl ?_
        refine vo_guard_off rfl rfl rfl rfl rfl ?_
        refine vo_guard_off rfl rfl rfl rfl rfl ?_
        refine vo_guard_off rfl rfl rfl rfl rfl ?_
        refine vo_pick_t rfl rfl ?_
        refine vo_nil ?_
        refine hK8 _ ?_
        refine vc_cond_t rfl ?_
        refine vc_seq fun K10 hK10 => ?_
        refine vc_region ?_
        refine vo_move_pv rfl rfl ?_
        refine vo_move_ref rfl rfl ?_
        refine vo_move_pv rfl rfl ?_
        refine vo_move_pv rfl rfl ?_
        refine vo_call0 Try.func25 rfl rfl rfl rfl (specNextAfter_sat (bases := B) (c := z) (aft := y) (by omega) (lt3 h3)) ?_
        rintro _ _ ⟨rfl, rfl⟩
        refine ⟨rfl, rfl, .inr rfl, ?_⟩
        refine vo_stM ?_
        refine vo_binI rfl rfl rfl rfl trivial ?_
        refine vo_assign_pv rfl rfl ?_
        refine vo_nil ?_
        refine hK10 _ ?_
        refine vc_ret ?_
        change retQ _ _ _ _ _
        refine retQ_sel [] (srows := []) (.inr rfl) hC rfl rfl rfl rfl rfl rfl rfl ?_
        first | exact ⟨rfl, rfl⟩ | (exfalso; simp_all; done) | (refine ⟨(congrArg (fun b => [bo b]) (?_ : _ = true) : [bo _] = [bo true]), rfl⟩; first | (by_cases hy9 : y = (orR B z).getD ((orR B z).length - 1) 0 <;> simp_all <;> done) | simp_all | (simp; omega))
      · try simp only [decide_eq_true_eq, decide_eq_false_iff_not, beq_iff_eq, bne_iff_ne, beq_eq_false_iff_ne, bne_eq_false_iff_eq, Bool.not_eq_true, Bool.not_eq_false, Bool.not_eq_eq_eq_not, Bool.not_true, Bool.not_false, List.length_map, Int.not_lt, Int.not_le, ne_eq, Decidable.not_not] at hg3
        refine vo_guard_on rfl rfl rfl ?_
        refine vo_move_pv rfl rfl ?_
        refine vo_guard_on rfl rfl rfl ?_
        refine vo_binI rfl rfl rfl rfl trivial ?_
        refine vo_pick_f rfl rfl ?_
        refine vo_move_pv rfl rfl ?_
        refine vo_split 39 rfl (fun hg4 => ?_) (fun hg4 => ?_)
        · try simp only [decide_eq_true_eq, decide_eq_false_iff_not, beq_iff_eq, bne_iff_ne, beq_eq_false_iff_ne, bne_eq_false_iff_eq, Bool.not_eq_true, Bool.not_eq_false, Bool.not_eq_eq_eq_not, Bool.not_true, Bool.not_false, List.length_map, Int.not_lt, Int.not_le, ne_eq, Decidable.not_not] at hg4
          refine vo_guard_off rfl rfl rfl rfl rfl ?_
          refine vo_guard_off rfl rfl rfl rfl rfl ?_
          refine vo_guard_off rfl rfl rfl rfl rfl ?_
          refine vo_guard_off rfl rfl rfl rfl rfl ?_
          refine vo_pick_t rfl rfl ?_
          refine vo_nil ?_
          refine hK8 _ ?_
          refine vc_cond_t rfl ?_
          refine vc_seq fun K11 hK11 => ?_
          refine vc_region ?_
          refine vo_move_pv rfl rfl ?_
          refine vo_move_ref rfl rfl ?_
          refine vo_move_pv rfl rfl ?_
          refine vo_move_pv rfl rfl ?_
          refine vo_call0 Try.func25 rfl rfl rfl rfl (specNextAfter_sat (bases := B) (c := z) (aft := y) (by omega) (lt3 h3)) ?_
          rintro _ _ ⟨rfl, rfl⟩
          refine ⟨rfl, rfl, .inr rfl, ?_⟩
          refine vo_stM ?_
          refine vo_binI rfl rfl rfl rfl trivial ?_
          refine vo_assign_pv rfl rfl ?_
          refine vo_nil ?_
          refine hK11 _ ?_
          refine vc_ret ?_
          change retQ _ _ _ _ _
          refine retQ_sel [] (srows := []) (.inr rfl) hC rfl rfl rfl rfl rfl rfl rfl ?_
          first | exact ⟨rfl, rfl⟩ | (exfalso; simp_all; done) | (refine ⟨(congrArg (fun b => [bo b]) (?_ : _ = true) : [bo _] = [bo true]), rfl⟩; first | (by_cases hy9 : y = (orR B z).getD ((orR B z).length - 1) 0 <;> simp_all <;> done) | simp_all | (simp; omega))
        · try simp only [decide_eq_true_eq, decide_eq_false_iff_not, beq_iff_eq, bne_iff_ne, beq_eq_false_iff_ne, bne_eq_false_iff_eq, Bool.not_eq_true, Bool.not_eq_false, Bool.not_eq_eq_eq_not, Bool.not_true, Bool.not_false, List.length_map, Int.not_lt, Int.not_le, ne_eq, Decidable.not_not] at hg4
          refine vo_guard_on rfl rfl rfl ?_
          refine vo_move_pv rfl rfl ?_
          refine vo_guard_on rfl rfl rfl ?_
          refine vo_move_ref rfl rfl ?_
          refine vo_guard_on rfl rfl rfl ?_
          refine vo_len_ref rfl rfl rfl Try.underlying22 ?_
          refine vo_guard_on rfl rfl rfl ?_
          refine vo_binI rfl rfl rfl rfl trivial ?_
          refine vo_pick_f rfl rfl ?_
          refine vo_nil ?_
          refine hK8 _ ?_
          refine vc_cond rfl (fun hc5 => ?_) (fun hc5 => ?_)
          · try simp only [decide_eq_true_eq, decide_eq_false_iff_not, beq_iff_eq, bne_iff_ne, beq_eq_false_iff_ne, bne_eq_false_iff_eq, Bool.not_eq_true, Bool.not_eq_false, Bool.not_eq_eq_eq_not, Bool.not_true, Bool.not_false, List.length_map, Int.not_lt, Int.not_le, ne_eq, Decidable.not_not] at hc5
            refine vc_seq fun K12 hK12 => ?_
            refine vc_region ?_
            refine vo_move_pv rfl rfl ?_
            refine vo_move_ref rfl rfl ?_
            refine vo_move_pv rfl rfl ?_
            refine vo_move_pv rfl rfl ?_
            refine vo_call0 Try.func25 rfl rfl rfl rfl (specNextAfter_sat (bases := B) (c := z) (aft := y) (by omega) (lt3 h3)) ?_
            rintro _ _ ⟨rfl, rfl⟩
            refine ⟨rfl, rfl, .inr rfl, ?_⟩
            refine vo_stM ?_
            refine vo_binI rfl rfl rfl rfl trivial ?_
            refine vo_assign_pv rfl rfl ?_
            refine vo_nil ?_
            refine hK12 _ ?_
            refine vc_ret ?_
            change retQ _ _ _ _ _
            refine retQ_sel [] (srows := []) (.inr rfl) hC rfl rfl rfl rfl rfl rfl rfl ?_
            first | exact ⟨rfl, rfl⟩ | (exfalso; simp_all; done) | (refine ⟨(congrArg (fun b => [bo b]) (?_ : _ = true) : [bo _] = [bo true]), rfl⟩; first | (by_cases hy9 : y = (orR B z).getD ((orR B z).length - 1) 0 <;> simp_all <;> done) | simp_all | (simp; omega))
          · try simp only [decide_eq_true_eq, decide_eq_false_iff_not, beq_iff_eq, bne_iff_ne, beq_eq_false_iff_ne, bne_eq_false_iff_eq, Bool.not_eq_true, Bool.not_eq_false, Bool.not_eq_eq_eq_not, Bool.not_true, Bool.not_false, List.length_map, Int.not_lt, Int.not_le, ne_eq, Decidable.not_not] at hc5
            refine vc_skip ?_
            refine hK7 _ ?_
            refine vc_seq fun K13 hK13 => ?_
            refine vc_region ?_
            refine vo_move_ref rfl rfl ?_
            refine vo_move_pv rfl rfl ?_
            refine vo_call [] Try.func27 rfl rfl rfl rfl rfl rfl rfl (implOrderOf_sat (bases := B) (c := z) (by omega) (lt3 h3)) ?_
            rintro _ _ ⟨R1, nlo, rfl, rfl⟩
            refine ⟨Nat.le_of_ble_eq_true rfl, ⟨rfl, rfl, rfl, rfl⟩, .inr ⟨rfl, rfl⟩, ?_⟩
            refine vo_stM ?_
            refine vo_move rfl ?_
            refine vo_stM ?_
            refine vo_extract rfl rfl rfl ?_
            refine vo_extract rfl rfl rfl ?_
            refine vo_assign_ref rfl rfl ?_
            refine vo_assign_pv rfl rfl ?_
            refine vo_nil ?_
            refine hK13 _ ?_
            refine vc_seq fun K14 hK14 => ?_
            refine vc_seq fun K15 hK15 => ?_
            refine vc_region ?_
            refine vo_move_pv rfl rfl ?_
            refine vo_not rfl rfl ?_
            refine vo_nil ?_
            refine hK15 _ ?_
            refine vc_cond rfl (fun hc6 => ?_) (fun hc6 => ?_)
            · try simp only [decide_eq_true_eq, decide_eq_false_iff_not, beq_iff_eq, bne_iff_ne, beq_eq_false_iff_ne, bne_eq_false_iff_eq, Bool.not_eq_true, Bool.not_eq_false, Bool.not_eq_eq_eq_not, Bool.not_true, Bool.not_false, List.length_map, Int.not_lt, Int.not_le, ne_eq, Decidable.not_not] at hc6
              have hno : nxtO (orR B z) y = -1 := by rw [orR_no hc6]; rfl
              refine vc_seq fun K16 hK16 => ?_
              refine vc_region ?_
              refine vo_move_pv rfl rfl ?_
              refine vo_binI rfl rfl rfl rfl trivial ?_
              refine vo_assign_pv rfl rfl ?_
              refine vo_nil ?_
              refine hK16 _ ?_
              refine vc_ret ?_
              change retQ _ _ _ _ _
              refine retQ_sel [] (srows := []) (.inr rfl) hC rfl rfl rfl rfl rfl rfl rfl ?_
              first | exact ⟨rfl, rfl⟩ | (exfalso; simp_all; done) | (refine ⟨(congrArg (fun b => [bo b]) (?_ : _ = true) : [bo _] = [bo true]), rfl⟩; first | (by_cases hy9 : y = (orR B z).getD ((orR B z).length - 1) 0 <;> simp_all <;> done) | simp_all | (simp; omega))
            · try simp only [decide_eq_true_eq, decide_eq_false_iff_not, beq_iff_eq, bne_iff_ne, beq_eq_false_iff_ne, bne_eq_false_iff_eq, Bool.not_eq_true, Bool.not_eq_false, Bool.not_eq_eq_eq_not, Bool.not_true, Bool.not_false, List.length_map, Int.not_lt, Int.not_le, ne_eq, Decidable.not_not] at hc6
              obtain ⟨hf1, hf2, hf3, hf4, hf5, hf6⟩ := orR_facts hc6
              refine vc_skip ?_
              refine hK14 _ ?_
              refine vc_seq fun K17 hK17 => ?_
              refine vc_region ?_
              refine vo_move_pv rfl rfl ?_
              refine vo_buildSlice E36 rfl rfl rfl rfl rfl ?_
              refine vo_stM ?_
              refine vo_assign_ref rfl rfl ?_
              refine vo_nil ?_
              refine hK17 _ ?_
              refine vc_seq fun K18 hK18 => ?_
              refine vc_seq fun K19 hK19 => ?_
              refine vc_region ?_
              refine vo_move_ref rfl rfl ?_
              refine vo_move_pv rfl rfl ?_
              refine vo_move_pv rfl rfl ?_
              refine vo_call0 Try.func24 rfl rfl rfl rfl (implNextAfter_sat (bases := B) (c := z) (aft := z) (by omega) (lt3 h3)) ?_
              rintro _ _ ⟨rfl, rfl⟩
              refine ⟨rfl, rfl, .inr rfl, ?_⟩
              refine vo_stM ?_
              refine vo_assign_pv rfl rfl ?_
              refine vo_nil ?_
              refine hK19 _ ?_
              refine vc_block ?_
              refine vc_stM ?_
              refine vc_loopE [3, 4, 5, 6, 7] [9, 10] [2] _ _ (fun mz vs rs => ∃ (k : Nat) (n : Int), mz = (orR B z).length - k ∧ (1 ≤ k ∧ k ≤ (orR B z).length) ∧ (n = if k < (orR B z).length then (orR B z).getD k 0 else -1) ∧ vs = [.ref 2, i64 n] ∧ rs = [Row.own 3 1 (some false) true (((orR B z).take k).map intP)]) ((orR B z).length - 1) rfl rfl (le_len hC rfl) ⟨rfl, rfl, rfl⟩ rfl ⟨1, _, rfl, (by omega), (by have := nxtO_at hf1 hf3; rw [hf6] at this; exact this), rfl, (congrArg (fun l => [Row.own 3 1 (some false) true (List.map intP l)]) (show [z] = (orR B z).take 1 by rw [take1 (by intro e; rw [e] at hf3; cases hf3), hf6]))⟩ ?_
              rintro mz vs rs - - ⟨k, n, rfl, hk, hn, rfl, rfl⟩
              refine vc_stM ?_
              have hl9 : ((orR B z).take k).length = k := by rw [List.length_take]; omega
              have hl8 : (((orR B z).take k).map intP).length = k := by rw [List.length_map]; exact hl9
              refine vc_seq fun K20 hK20 => ?_
              refine vc_seq fun K21 hK21 => ?_
              refine vc_region ?_
              refine vo_move_pv rfl rfl ?_
              refine vo_binI rfl rfl rfl rfl trivial ?_
              refine vo_move_pv rfl rfl ?_
              refine vo_split 69 rfl (fun hg7 => ?_) (fun hg7 => ?_)
              · try simp only [decide_eq_true_eq, decide_eq_false_iff_not, beq_iff_eq, bne_iff_ne, beq_eq_false_iff_ne, bne_eq_false_iff_eq, Bool.not_eq_true, Bool.not_eq_false, Bool.not_eq_eq_eq_not, Bool.not_true, Bool.not_false, List.length_map, Int.not_lt, Int.not_le, ne_eq, Decidable.not_not] at hg7
                refine vo_guard_on rfl rfl rfl ?_
                refine vo_move_ref rfl rfl ?_
                refine vo_guard_on rfl rfl rfl ?_
                refine vo_len_ref rfl rfl rfl Try.underlying36 ?_
                refine vo_guard_on rfl rfl rfl ?_
                refine vo_move_ref rfl rfl ?_
                refine vo_guard_on rfl rfl rfl ?_
                refine vo_len_ref rfl rfl rfl Try.underlying22 ?_
                refine vo_guard_on rfl rfl rfl ?_
                refine vo_binI rfl rfl rfl rfl trivial ?_
                refine vo_pick_t rfl rfl ?_
                refine vo_nil ?_
                refine hK21 _ ?_
                refine vc_cond rfl (fun hc8 => ?_) (fun hc8 => ?_)
                · try simp only [decide_eq_true_eq, decide_eq_false_iff_not, beq_iff_eq, bne_iff_ne, beq_eq_false_iff_ne, bne_eq_false_iff_eq, Bool.not_eq_true, Bool.not_eq_false, Bool.not_eq_eq_eq_not, Bool.not_true, Bool.not_false, List.length_map, Int.not_lt, Int.not_le, ne_eq, Decidable.not_not] at hc8
                  have hkl : k < (orR B z).length := by
                    rcases Nat.lt_or_ge k (orR B z).length with h | h
                    · exact h
                    · rw [if_neg (by omega)] at hn; omega
                  have hne : n = (orR B z).getD k 0 := by rw [hn, if_pos hkl]
                  have hnn : nxtO (orR B z) n = if k + 1 < (orR B z).length then (orR B z).getD (k + 1) 0 else -1 := by rw [hne]; exact nxtO_at hf1 hkl
                  refine vc_skip ?_
                  refine hK20 _ ?_
                  refine vc_seq fun K22 hK22 => ?_
                  refine vc_block ?_
                  refine vc_region ?_
                  refine vo_move_ref rfl rfl ?_
                  refine vo_move_pv rfl rfl ?_
                  refine vo_buildSlice E36 rfl rfl rfl rfl rfl ?_
                  refine vo_stM ?_
                  refine vo_append E36 rfl (by omega) rfl rfl rfl sd sd ?_
                  refine vo_stM ?_
                  try simp only [app_ints, app_intss, app_bools]
                  refine vo_assign_ref rfl rfl ?_
                  refine vo_nil ?_
                  refine hK22 _ ?_
                  refine vc_region ?_
                  refine vo_move_ref rfl rfl ?_
                  refine vo_move_pv rfl rfl ?_
                  refine vo_move_pv rfl rfl ?_
                  refine vo_call0 Try.func24 rfl rfl rfl rfl (implNextAfter_sat (bases := B) (c := z) (aft := n) (by omega) (lt3 h3)) ?_
                  rintro _ _ ⟨rfl, rfl⟩
                  refine ⟨rfl, rfl, .inr rfl, ?_⟩
                  refine vo_stM ?_
                  refine vo_assign_pv rfl rfl ?_
                  refine vo_nil ?_
                  change againE _ _ _ _ _ _ _ _ _ _
                  refine againE_mk rfl rfl rfl rfl rfl rfl ⟨_, ?_, k + 1, _, rfl, ?_, ?_, rfl, (congrArg (fun l => [Row.own 3 1 (some false) true (List.map intP l)]) (show (orR B z).take k ++ [n] = (orR B z).take (k+1) by rw [hne, take_push hkl]))⟩
                  · omega
                  · omega
                  · exact hnn
                · try simp only [decide_eq_true_eq, decide_eq_false_iff_not, beq_iff_eq, bne_iff_ne, beq_eq_false_iff_ne, bne_eq_false_iff_eq, Bool.not_eq_true, Bool.not_eq_false, Bool.not_eq_eq_eq_not, Bool.not_true, Bool.not_false, List.length_map, Int.not_lt, Int.not_le, ne_eq, Decidable.not_not] at hc8
                  exfalso; omega
              · try simp only [decide_eq_true_eq, decide_eq_false_iff_not, beq_iff_eq, bne_iff_ne, beq_eq_false_iff_ne, bne_eq_false_iff_eq, Bool.not_eq_true, Bool.not_eq_false, Bool.not_eq_eq_eq_not, Bool.not_true, Bool.not_false, List.length_map, Int.not_lt, Int.not_le, ne_eq, Decidable.not_not] at hg7
                have hkk : k = (orR B z).length := by
                  rcases Nat.lt_or_ge k (orR B z).length with h | h
                  · rw [if_pos h] at hn
                    have := hf2 _ (getD_mem h 0)
                    omega
                  · omega
                have htk : (orR B z).take k = (orR B z) := take_all (by omega)
                have hp := nxtO_pos hf1 hf2 (x := y) hf3
                refine vo_guard_off rfl rfl rfl rfl rfl ?_
                refine vo_guard_off rfl rfl rfl rfl rfl ?_
                refine vo_guard_off rfl rfl rfl rfl rfl ?_
                refine vo_guard_off rfl rfl rfl rfl rfl ?_
                refine vo_guard_off rfl rfl rfl rfl rfl ?_
                refine vo_pick_f rfl rfl ?_
                refine vo_nil ?_
                refine hK21 _ ?_
                refine vc_cond_f rfl ?_
                refine vc_exit ?_
                refine hK18 _ ?_
                refine vc_seq fun K23 hK23 => ?_
                refine vc_region ?_
                refine vo_move_ref rfl rfl ?_
                refine vo_move_ref rfl rfl ?_
                refine vo_call0 Try.func28 rfl rfl rfl rfl (equalInts_sat (a := (orR B z).take k) (b := (orR B z)) (by rw [List.length_take]; omega) orR_len) ?_
                rintro _ _ ⟨rfl, rfl⟩
                refine ⟨rfl, rfl, .inr rfl, ?_⟩
                refine vo_stM ?_
                refine vo_move_pv rfl rfl ?_
                refine vo_split 87 rfl (fun hg9 => ?_) (fun hg9 => ?_)
                · try simp only [decide_eq_true_eq, decide_eq_false_iff_not, beq_iff_eq, bne_iff_ne, beq_eq_false_iff_ne, bne_eq_false_iff_eq, Bool.not_eq_true, Bool.not_eq_false, Bool.not_eq_eq_eq_not, Bool.not_true, Bool.not_false, List.length_map, Int.not_lt, Int.not_le, ne_eq, Decidable.not_not] at hg9
                  refine vo_guard_on rfl rfl rfl ?_
                  refine vo_move_pv rfl rfl ?_
                  refine vo_guard_on rfl rfl rfl ?_
                  refine vo_binI rfl rfl rfl rfl trivial ?_
                  refine vo_guard_on rfl rfl rfl ?_
                  refine vo_move_ref rfl rfl ?_
                  refine vo_guard_on rfl rfl rfl ?_
                  refine vo_move_pv rfl rfl ?_
                  refine vo_guard_on rfl rfl rfl ?_
                  refine vo_call0 Try.func29 rfl rfl rfl rfl (isIn_sat (list := (orR B z)) orR_len) ?_
                  rintro _ _ ⟨rfl, rfl⟩
                  refine ⟨rfl, rfl, .inr rfl, ?_⟩
                  refine vo_stM ?_
                  refine vo_guard_on rfl rfl rfl ?_
                  refine vo_move_pv rfl rfl ?_
                  refine vo_split 93 rfl (fun hg10 => ?_) (fun hg10 => ?_)
                  · try simp only [decide_eq_true_eq, decide_eq_false_iff_not, beq_iff_eq, bne_iff_ne, beq_eq_false_iff_ne, bne_eq_false_iff_eq, Bool.not_eq_true, Bool.not_eq_false, Bool.not_eq_eq_eq_not, Bool.not_true, Bool.not_false, List.length_map, Int.not_lt, Int.not_le, ne_eq, Decidable.not_not] at hg10
                    refine vo_guard_on rfl rfl rfl ?_
                    refine vo_move_pv rfl rfl ?_
                    refine vo_guard_on rfl rfl rfl ?_
                    refine vo_move_ref rfl rfl ?_
                    refine vo_guard_on rfl rfl rfl ?_
                    refine vo_move_ref rfl rfl ?_
                    refine vo_guard_on rfl rfl rfl ?_
                    refine vo_len_ref rfl rfl rfl Try.underlying36 ?_
                    refine vo_guard_on rfl rfl rfl ?_
                    refine vo_binI rfl rfl rfl rfl sd ?_
                    refine vo_guard_on rfl rfl rfl ?_
                    refine vo_index_ref rfl rfl rfl rfl E36.und inf3 sz3 sd sd ?_
                    try simp only [Int.toNat_natCast]
                    refine vo_guard_on rfl rfl rfl ?_
                    refine vo_load_own rfl rfl rfl Try.underlying3 rfl sd (getD_ints _ _) rfl ?_
                    try simp only [Int.toNat_natCast]
                    refine vo_guard_on rfl rfl rfl ?_
                    refine vo_binI rfl rfl rfl rfl trivial ?_
                    refine vo_guard_on rfl rfl rfl ?_
                    refine vo_pick_t rfl rfl ?_
                    refine vo_guard_on rfl rfl rfl ?_
                    refine vo_binB rfl rfl rfl rfl Try.underlying4 ?_
                    refine vo_pick_t rfl rfl ?_
                    refine vo_assign_pv rfl rfl ?_
                    refine vo_nil ?_
                    refine hK23 _ ?_
                    refine vc_ret ?_
                    change retQ _ _ _ _ _
                    refine retQ_sel [] (srows := []) (.inr rfl) hC rfl rfl rfl rfl rfl rfl rfl ?_
                    first | exact ⟨rfl, rfl⟩ | (exfalso; simp_all; done) | (refine ⟨(congrArg (fun b => [bo b]) (?_ : _ = true) : [bo _] = [bo true]), rfl⟩; first | (by_cases hy9 : y = (orR B z).getD ((orR B z).length - 1) 0 <;> simp_all <;> done) | simp_all | (simp; omega))
                  · try simp only [decide_eq_true_eq, decide_eq_false_iff_not, beq_iff_eq, bne_iff_ne, beq_eq_false_iff_ne, bne_eq_false_iff_eq, Bool.not_eq_true, Bool.not_eq_false, Bool.not_eq_eq_eq_not, Bool.not_true, Bool.not_false, List.length_map, Int.not_lt, Int.not_le, ne_eq, Decidable.not_not] at hg10
                    refine vo_guard_off rfl rfl rfl rfl rfl ?_
                    refine vo_guard_off rfl rfl rfl rfl rfl ?_
                    refine vo_guard_off rfl rfl rfl rfl rfl ?_
                    refine vo_guard_off rfl rfl rfl rfl rfl ?_
                    refine vo_guard_off rfl rfl rfl rfl rfl ?_
                    refine vo_guard_off rfl rfl rfl rfl rfl ?_
                    refine vo_guard_off rfl rfl rfl rfl rfl ?_
                    refine vo_guard_off rfl rfl rfl rfl rfl ?_
                    refine vo_guard_on rfl rfl rfl ?_
                    refine vo_pick_f rfl rfl ?_
                    refine vo_guard_on rfl rfl rfl ?_
                    refine vo_binB rfl rfl rfl rfl Try.underlying4 ?_
                    refine vo_pick_t rfl rfl ?_
                    refine vo_assign_pv rfl rfl ?_
                    refine vo_nil ?_
                    refine hK23 _ ?_
                    refine vc_ret ?_
                    change retQ _ _ _ _ _
                    refine retQ_sel [] (srows := []) (.inr rfl) hC rfl rfl rfl rfl rfl rfl rfl ?_
                    first | exact ⟨rfl, rfl⟩ | (exfalso; simp_all; done) | (refine ⟨(congrArg (fun b => [bo b]) (?_ : _ = true) : [bo _] = [bo true]), rfl⟩; first | (by_cases hy9 : y = (orR B z).getD ((orR B z).length - 1) 0 <;> simp_all <;> done) | simp_all | (simp; omega))
                · try simp only [decide_eq_true_eq, decide_eq_false_iff_not, beq_iff_eq, bne_iff_ne, beq_eq_false_iff_ne, bne_eq_false_iff_eq, Bool.not_eq_true, Bool.not_eq_false, Bool.not_eq_eq_eq_not, Bool.not_true, Bool.not_false, List.length_map, Int.not_lt, Int.not_le, ne_eq, Decidable.not_not] at hg9
                  refine vo_guard_off rfl rfl rfl rfl rfl ?_
                  refine vo_guard_off rfl rfl rfl rfl rfl ?_
                  refine vo_guard_off rfl rfl rfl rfl rfl ?_
                  refine vo_guard_off rfl rfl rfl rfl rfl ?_
                  refine vo_guard_off rfl rfl rfl rfl rfl ?_
                  refine vo_guard_off rfl rfl rfl rfl rfl ?_
                  refine vo_guard_und rfl rfl rfl rfl ?_
                  refine vo_guard_und rfl rfl rfl rfl ?_
                  refine vo_guard_und rfl rfl rfl rfl ?_
                  refine vo_guard_und rfl rfl rfl rfl ?_
                  refine vo_guard_und rfl rfl rfl rfl ?_
                  refine vo_guard_und rfl rfl rfl rfl ?_
                  refine vo_guard_und rfl rfl rfl rfl ?_
                  refine vo_guard_und rfl rfl rfl rfl ?_
                  refine vo_guard_off rfl rfl rfl rfl rfl ?_
                  refine vo_guard_off rfl rfl rfl rfl rfl ?_
                  refine vo_pick_f rfl rfl ?_
                  refine vo_assign_pv rfl rfl ?_
                  refine vo_nil ?_
                  refine hK23 _ ?_
                  refine vc_ret ?_
                  change retQ _ _ _ _ _
                  refine retQ_sel [] (srows := []) (.inr rfl) hC rfl rfl rfl rfl rfl rfl rfl ?_
                  first | exact ⟨rfl, rfl⟩ | (exfalso; simp_all; done) | (refine ⟨(congrArg (fun b => [bo b]) (?_ : _ = true) : [bo _] = [bo true]), rfl⟩; first | (by_cases hy9 : y = (orR B z).getD ((orR B z).length - 1) 0 <;> simp_all <;> done) | simp_all | (simp; omega))

end Go.Vl
