import Derived.Test.YtmjbklmjehjpoacVlccT8
namespace Go.Vl
set_option linter.unusedVariables false
set_option linter.unusedSimpArgs false
open Go.Proofs

theorem VS_set {b s : List (List Int)} (h : VS b s) (i : Nat) : VS b (s.set i []) := by
  obtain ⟨a1, a2, a3, a4⟩ := h
  refine ⟨a1, by rw [List.length_set]; exact a2, ?_, fun l hl => ?_⟩
  · simp only [List.getD, List.getElem?_set] at a3 ⊢
    split
    · split <;> rfl
    · exact a3
  · rcases List.mem_or_eq_of_mem_set hl with h | rfl
    · exact a4 l h
    · exact ⟨⟨by simp, List.nodup_nil⟩, by simp⟩
theorem VS_take1 {b s : List (List Int)} (h : VS b s) : VS (b.take 1) (s.take 1) := by
  obtain ⟨a1, a2, a3, a4⟩ := h
  have h1 := a1.1
  refine ⟨a1.take (Nat.le_refl 1) h1, by simp; omega, ?_, fun l hl => a4 l (List.mem_of_mem_take hl)⟩
  simp only [List.getD, List.getElem?_take] at a3 ⊢
  simpa using a3
theorem pw_lt {l : List Int} (h : l.Pairwise (· < ·)) {i j : Nat} (hij : i < j) (hj : j < l.length) : l.getD i 0 < l.getD j 0 := by
  have h1 : l.getD i 0 = l[i] := by simp [List.getD, List.getElem?_eq_getElem (show i < l.length by omega)]
  have h2 : l.getD j 0 = l[j] := by simp [List.getD, List.getElem?_eq_getElem hj]
  rw [h1, h2]; exact List.pairwise_iff_getElem.1 h i j (by omega) hj hij
theorem abvR_ne {b : List (List Int)} {c : Int} (h : abvR b c ≠ []) : VB b ∧ 0 ≤ c ∧ c < b.length := by
  by_cases h1 : VB b ∧ 0 ≤ c ∧ c < b.length
  · exact h1
  · exact absurd (abvR_no h1) h
theorem abvR_mem {b : List (List Int)} {c x : Int} (h : x ∈ abvR b c) : (VB b ∧ 0 ≤ c ∧ c < b.length) ∧ 0 ≤ x ∧ x ≤ c ∧ Abv b c.toNat x.toNat := by
  have h1 := abvR_ne (List.ne_nil_of_mem h)
  obtain ⟨n, rfl⟩ := Int.eq_ofNat_of_zero_le h1.2.1
  rw [abvR_of h1.1 (by omega)] at h
  have h2 := abvL_le h1.1 (by omega) h
  obtain ⟨i, rfl, h3⟩ := (mem_abvL h1.1.bd' (by omega) x).1 h
  exact ⟨h1, h2.1, h2.2, h3⟩
theorem abvR_of_Abv {b : List (List Int)} (hv : VB b) {c x : Nat} (hc : c < b.length) (h : Abv b c x) : (x : Int) ∈ abvR b c := by
  rw [abvR_of hv hc]; exact (mem_abvL hv.bd' hc _).2 ⟨x, rfl, h⟩
theorem abvR_trans {b : List (List Int)} {c x y : Int} (h : x ∈ abvR b c) (h2 : y ∈ abvR b x) : y ∈ abvR b c := by
  obtain ⟨a1, a2, a3, a4⟩ := abvR_mem h
  obtain ⟨b1, b2, b3, b4⟩ := abvR_mem h2
  have := abvR_of_Abv a1.1 (c := c.toNat) (x := y.toNat) (by omega) (a4.trans b4)
  rwa [show ((c.toNat : Nat) : Int) = c by omega, show ((y.toNat : Nat) : Int) = y by omega] at this
theorem abvR_self {b : List (List Int)} {c : Int} (hv : VB b) (h0 : 0 ≤ c) (h1 : c < b.length) : c ∈ abvR b c := by
  have := abvR_of_Abv hv (c := c.toNat) (by omega) (.refl _)
  rwa [show ((c.toNat : Nat) : Int) = c by omega] at this
theorem abvR_base {b : List (List Int)} {c : Int} (hv : VB b) (h0 : 0 ≤ c) (h1 : c < b.length) : ∀ x ∈ b.getD c.toNat [], x ∈ abvR b c := by
  intro x hx
  have hb := hv.bd hx
  have := abvR_of_Abv hv (c := c.toNat) (x := x.toNat) (by omega) (.step (d := x.toNat) (by rw [show ((x.toNat : Nat) : Int) = x by omega]; exact hx) (.refl _))
  rwa [show ((c.toNat : Nat) : Int) = c by omega, show ((x.toNat : Nat) : Int) = x by omega] at this
theorem abvR_asc (b : List (List Int)) (c : Int) : (abvR b c).Pairwise (· < ·) := by
  unfold abvR; split
  · exact abvL_asc _ _
  · exact List.Pairwise.nil
theorem Abv_root {b : List (List Int)} (hv : VB b) : ∀ c : Nat, c < b.length → Abv b c 0 := by
  intro c
  induction c using Nat.strongRecOn with
  | ind c ih =>
    intro hc
    rcases Nat.eq_zero_or_pos c with rfl | h0
    · exact .refl 0
    · have h1 := (hv.2.2.2 c hc h0).1
      obtain ⟨x, hx⟩ := List.exists_mem_of_ne_nil _ h1
      have hb := hv.bd hx
      exact .step (d := x.toNat) (by rw [show ((x.toNat : Nat) : Int) = x by omega]; exact hx) (ih x.toNat (by omega) (by omega))
theorem abvR_zero {b : List (List Int)} {c : Int} (hv : VB b) (h0 : 0 ≤ c) (h1 : c < b.length) : (abvR b c).getD 0 0 = 0 := by
  have hm := abvR_of_Abv hv (c := c.toNat) (by omega) (Abv_root hv c.toNat (by omega))
  rw [show ((c.toNat : Nat) : Int) = c by omega] at hm
  obtain ⟨i, hi, he⟩ := List.getElem_of_mem hm
  have hd : (abvR b c).getD i 0 = 0 := by simp [List.getD, List.getElem?_eq_getElem hi, he]
  rcases Nat.eq_zero_or_pos i with rfl | h2
  · exact hd
  · have h3 := pw_lt (abvR_asc b c) h2 hi
    have h4 := (abvR_mem (getD_mem (show 0 < (abvR b c).length by omega) 0)).2.1
    omega
theorem belR_mem {b : List (List Int)} {c : Int} (h : belR b c ≠ []) {k : Nat} (hk : k < b.length) : ((k : Int) ∈ belR b c ↔ c ∈ abvR b k) := by
  by_cases h1 : VB b ∧ 0 ≤ c ∧ c < b.length
  · obtain ⟨n, rfl⟩ := Int.eq_ofNat_of_zero_le h1.2.1
    rw [belR_of h1.1 (by omega), abvR_of h1.1 hk, belL, idxB, mem_idxT]
    constructor
    · rintro ⟨i, h2, h3, h4⟩
      have : i = k := by omega
      subst this
      exact (belB_get.1 h4).2
    · intro h2
      exact ⟨k, rfl, by rw [belB_len]; exact hk, belB_get.2 ⟨hk, h2⟩⟩
  · exact absurd (belR_no h1) h
theorem belR_asc (b : List (List Int)) (c : Int) : (belR b c).Pairwise (· < ·) := by
  unfold belR; split
  · exact idxT_asc _ _
  · exact List.Pairwise.nil
theorem belR_len {b : List (List Int)} {c : Int} {N : Nat} (h : b.length < N) : (belR b c).length < N := by
  unfold belR; split
  · have := idxT_len (belB b c.toNat) (belB b c.toNat).length
    rw [belB_len] at this
    unfold belL idxB; rw [belB_len]; omega
  · simp; omega

theorem lt3 {B : List (List Int)} (h : ∀ l ∈ B, l.length ≤ 3) : ∀ l ∈ B, l.length < 1000000000 := fun l hl => by have := h l hl; omega

theorem isIn_sat {nl0 : Option Bool} {list : List Int} {n : Int} (hlist : list.length < 1000000000)  : SatAt Try.prog 43 [.pv false (.sl nl0 1 (list.map intP)), i64 n] [] (fun res rows => res = [bo (decide (n ∈ list))] ∧ rows = []) := by
  refine sat_entry (ts := [4]) Try.func43 rfl rfl (by decide) (Nat.le_of_ble_eq_true rfl) fun C hC => ?_
  rw [Try.ntmps43]
  replace hC : C.nb = 0 := hC
  refine vc_seq fun K1 hK1 => ?_
  refine vc_region ?_
  refine vo_assign_pv rfl rfl ?_
  refine vo_nil ?_
  refine hK1 _ ?_
  refine vc_seq fun K2 hK2 => ?_
  refine vc_seq fun K3 hK3 => ?_
  refine vc_region ?_
  refine vo_assign_pv rfl rfl ?_
  refine vo_nil ?_
  refine hK3 _ ?_
  refine vc_block ?_
  refine vc_st (by (try simp only [St.put, exposeE, killE, SV.expose, SV.kill, Row.expose, Row.kill, rowsAfter_nil, rowsAfter_one, packS, SV.shift, placeOf, enumE, List.zip_cons_cons, List.zip_nil_right, List.map_cons, List.map_nil, List.set_cons_zero, List.set_cons_succ, List.length_cons, List.length_nil, List.cons_append, List.nil_append, List.drop_succ_cons, List.drop_zero, List.drop_nil, List.take_succ_cons, List.take_zero, List.take_nil, List.getElem?_cons_zero, List.getElem?_cons_succ, List.getElem?_nil, Option.getD_some, Option.getD_none, Option.map_some, Option.map_none, Nat.reduceAdd, Nat.reduceSub, Nat.reduceEqDiff, Nat.zero_add, Bool.true_or, PV.scal, Bool.or_false, Bool.or_true, Bool.false_or, Bool.and_true, Bool.and_false, Bool.true_and, reduceIte, reduceCtorEq]); exact eq_refl _) ?_
  refine vc_loopF [0, 1] [5] [.pv false (.sl nl0 1 (list.map intP)), i64 n] _ (fun mz vs => ∃ (k : Nat), mz = list.length - k ∧ (k ≤ list.length) ∧ (n ∉ list.take k) ∧ vs = [i64 k]) (list.length) rfl rfl (le_len hC rfl) ⟨rfl, rfl, rfl⟩ ⟨0, rfl, Nat.zero_le _, (by simp), rfl⟩ ?_
  rintro mz vs - ⟨k, rfl, hk, hf, rfl⟩
  refine vc_st (by (try simp only [St.put, exposeE, killE, SV.expose, SV.kill, Row.expose, Row.kill, rowsAfter_nil, rowsAfter_one, packS, SV.shift, placeOf, enumE, List.zip_cons_cons, List.zip_nil_right, List.map_cons, List.map_nil, List.set_cons_zero, List.set_cons_succ, List.length_cons, List.length_nil, List.cons_append, List.nil_append, List.drop_succ_cons, List.drop_zero, List.drop_nil, List.take_succ_cons, List.take_zero, List.take_nil, List.getElem?_cons_zero, List.getElem?_cons_succ, List.getElem?_nil, Option.getD_some, Option.getD_none, Option.map_some, Option.map_none, Nat.reduceAdd, Nat.reduceSub, Nat.reduceEqDiff, Nat.zero_add, Bool.true_or, PV.scal, Bool.or_false, Bool.or_true, Bool.false_or, Bool.and_true, Bool.and_false, Bool.true_and, reduceIte, reduceCtorEq]); exact eq_refl _) ?_
  refine vc_seq fun K4 hK4 => ?_
  refine vc_seq fun K5 hK5 => ?_
  refine vc_region ?_
  refine vo_move_pv rfl rfl ?_
  refine vo_move_pv rfl rfl ?_
  refine vo_len_pv rfl rfl Try.underlying37 ?_
  refine vo_binI rfl rfl rfl rfl trivial ?_
  refine vo_nil ?_
  refine hK5 _ ?_
  refine vc_cond rfl (fun hc1 => ?_) (fun hc1 => ?_)
  · try simp only [decide_eq_true_eq, decide_eq_false_iff_not, beq_iff_eq, bne_iff_ne, beq_eq_false_iff_ne, bne_eq_false_iff_eq, Bool.not_eq_true, Bool.not_eq_false, Bool.not_eq_eq_eq_not, Bool.not_true, Bool.not_false, List.length_map, Int.not_lt, Int.not_le, ne_eq, Decidable.not_not] at hc1
    refine vc_skip ?_
    refine hK4 _ ?_
    refine vc_seq fun K6 hK6 => ?_
    refine vc_block ?_
    refine vc_seq fun K7 hK7 => ?_
    refine vc_region ?_
    refine vo_move_pv rfl rfl ?_
    refine vo_move_pv rfl rfl ?_
    refine vo_index_pv (.int .i64 0) rfl rfl rfl E37.und inf3 sz3 (by first | omega | (simp only [List.length_map] <;> omega) | (simp only [List.length_map, List.length_set, List.length_append, List.length_cons, List.length_nil, List.length_replicate, List.length_take, List.length_drop] <;> omega) | (simp <;> omega) | (constructor <;> (first | omega | (simp <;> omega))) | (refine ⟨?_, ?_, ?_, ?_⟩ <;> omega) | exact ⟨xorI_nonneg _ _, by omega⟩ | decide) (by first | omega | (simp only [List.length_map] <;> omega) | (simp only [List.length_map, List.length_set, List.length_append, List.length_cons, List.length_nil, List.length_replicate, List.length_take, List.length_drop] <;> omega) | (simp <;> omega) | (constructor <;> (first | omega | (simp <;> omega))) | (refine ⟨?_, ?_, ?_, ?_⟩ <;> omega) | exact ⟨xorI_nonneg _ _, by omega⟩ | decide) ?_
    simp only [Int.toNat_natCast, Int.toNat_zero, getD_ints, getD_intss, getD_bools, getD_bytes, PV.cells]
    refine vo_load_adr rfl rfl Try.underlying3 rfl ?_
    refine vo_move_pv rfl rfl ?_
    refine vo_binI rfl rfl rfl rfl trivial ?_
    refine vo_nil ?_
    refine hK7 _ ?_
    refine vc_cond rfl (fun hc2 => ?_) (fun hc2 => ?_)
    · try simp only [decide_eq_true_eq, decide_eq_false_iff_not, beq_iff_eq, bne_iff_ne, beq_eq_false_iff_ne, bne_eq_false_iff_eq, Bool.not_eq_true, Bool.not_eq_false, Bool.not_eq_eq_eq_not, Bool.not_true, Bool.not_false, List.length_map, Int.not_lt, Int.not_le, ne_eq, Decidable.not_not] at hc2
      refine vc_seq fun K8 hK8 => ?_
      refine vc_region ?_
      refine vo_assign_pv rfl rfl ?_
      refine vo_nil ?_
      refine hK8 _ ?_
      refine vc_ret ?_
      change retPv _ _ _ _ _
      refine retPv_mk rfl rfl rfl ⟨?_, rfl⟩
      refine (congrArg (fun b => [bo b]) (?_ : _ = _) : [bo _] = [bo _])
      exact bT (by have := getD_mem (show k < list.length by omega) 0; simp_all)
    · try simp only [decide_eq_true_eq, decide_eq_false_iff_not, beq_iff_eq, bne_iff_ne, beq_eq_false_iff_ne, bne_eq_false_iff_eq, Bool.not_eq_true, Bool.not_eq_false, Bool.not_eq_eq_eq_not, Bool.not_true, Bool.not_false, List.length_map, Int.not_lt, Int.not_le, ne_eq, Decidable.not_not] at hc2
      refine vc_skip ?_
      refine hK6 _ ?_
      refine vc_region ?_
      refine vo_move_pv rfl rfl ?_
      refine vo_binI rfl rfl rfl rfl (by first | omega | (simp only [List.length_map] <;> omega) | (simp only [List.length_map, List.length_set, List.length_append, List.length_cons, List.length_nil, List.length_replicate, List.length_take, List.length_drop] <;> omega) | (simp <;> omega) | (constructor <;> (first | omega | (simp <;> omega))) | (refine ⟨?_, ?_, ?_, ?_⟩ <;> omega) | exact ⟨xorI_nonneg _ _, by omega⟩ | decide) ?_
      refine vo_assign_pv rfl rfl ?_
      refine vo_nil ?_
      change againF _ _ _ _ _ _ _ _ _
      refine againF_mk rfl rfl rfl rfl rfl rfl ⟨_, ?_, k + 1, rfl, ?_, ?_, rfl⟩
      · omega
      · omega
      · rw [List.take_succ_eq_append_getElem (by omega), List.mem_append]; rintro (h | h)
        · exact hf h
        · rw [List.mem_singleton, ← getD_at (by omega) 0] at h; omega
  · try simp only [decide_eq_true_eq, decide_eq_false_iff_not, beq_iff_eq, bne_iff_ne, beq_eq_false_iff_ne, bne_eq_false_iff_eq, Bool.not_eq_true, Bool.not_eq_false, Bool.not_eq_eq_eq_not, Bool.not_true, Bool.not_false, List.length_map, Int.not_lt, Int.not_le, ne_eq, Decidable.not_not] at hc1
    refine vc_exit ?_
    refine hK2 _ ?_
    refine vc_seq fun K9 hK9 => ?_
    refine vc_region ?_
    refine vo_assign_pv rfl rfl ?_
    refine vo_nil ?_
    refine hK9 _ ?_
    refine vc_ret ?_
    change retPv _ _ _ _ _
    refine retPv_mk rfl rfl rfl ⟨?_, rfl⟩
    refine (congrArg (fun b => [bo b]) (?_ : _ = _) : [bo _] = [bo _])
    rw [take_all (by omega)] at hf; exact bF hf

end Go.Vl
