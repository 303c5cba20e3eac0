import Derived.Test.YtmjbklmjehjpoacVlccT3
namespace Go.Vl
set_option linter.unusedVariables false
set_option linter.unusedSimpArgs false
open Go.Proofs

theorem abvR_len {b : List (List Int)} {c : Int} {N : Nat} (h : b.length < N) : (abvR b c).length < N := by
  unfold abvR; split
  · exact Nat.lt_of_le_of_lt (abvL_len b _) h
  · simp; omega
theorem abvL_len' {b : List (List Int)} {c : Nat} {N : Nat} (h : b.length < N) : (abvL b c).length < N := Nat.lt_of_le_of_lt (abvL_len b _) h
theorem abvL_le {b : List (List Int)} (hv : VB b) {c : Nat} (hc : c < b.length) {x : Int} (h : x ∈ abvL b c) : 0 ≤ x ∧ x ≤ c := by
  obtain ⟨i, rfl, h2⟩ := (mem_abvL hv.bd' hc x).1 h
  have := h2.le hv.bd'; omega
theorem abvL_refl {b : List (List Int)} (hv : VB b) {c : Nat} (hc : c < b.length) : (c : Int) ∈ abvL b c := (mem_abvL hv.bd' hc _).2 ⟨c, rfl, .refl c⟩
theorem abvL_step {b : List (List Int)} (hv : VB b) {k n : Nat} (hk : k < b.length) (hne : n ≠ k) : (n : Int) ∈ abvL b k ↔ ∃ d ∈ b.getD k [], (n : Int) ∈ abvL b d.toNat := by
  rw [mem_abvL hv.bd' hk]
  constructor
  · rintro ⟨i, h, h2⟩
    have : n = i := by omega
    subst this
    cases h2 with
    | refl => exact absurd rfl hne
    | @step _ d _ hd h3 =>
      have := hv.bd hd
      refine ⟨(d : Int), hd, ?_⟩
      rw [Int.toNat_natCast, mem_abvL hv.bd' (by omega)]
      exact ⟨n, rfl, h3⟩
  · rintro ⟨d, hd, h2⟩
    have hb := hv.bd hd
    obtain ⟨i, h3, h4⟩ := (mem_abvL hv.bd' (by omega) _).1 h2
    refine ⟨n, rfl, ?_⟩
    have : n = i := by omega
    subst this
    refine .step (d := d.toNat) ?_ h4
    rw [show ((d.toNat : Nat) : Int) = d by omega]; exact hd
theorem belB_get {b : List (List Int)} {c x : Nat} : (belB b c).getD x false = true ↔ x < b.length ∧ (c : Int) ∈ abvL b x := by
  unfold belB
  simp only [List.getD, List.getElem?_map, List.getElem?_range']
  by_cases h : x < b.length
  · simp [List.getElem?_range h, h]
  · simp [List.getElem?_eq_none (show (List.range b.length).length ≤ x by simp; omega), h]
theorem belB_len (b : List (List Int)) (c : Nat) : (belB b c).length = b.length := by simp [belB]
theorem eq_of_get {a b : List Bool} (h : a.length = b.length) (h2 : ∀ x : Nat, a.getD x false = true ↔ b.getD x false = true) : a = b := by
  apply List.ext_getElem h
  intro i h3 h4
  have := h2 i
  simp only [List.getD, List.getElem?_eq_getElem h3, List.getElem?_eq_getElem h4, Option.getD_some] at this
  exact Bool.eq_iff_iff.2 this
theorem bel_lo {b : List (List Int)} (hv : VB b) {n : Nat} (hn : n < b.length) : ∀ k, k ≤ n → idxT (belB b n) k = []
  | 0, _ => rfl
  | k+1, h => by
    rw [idxT_succ, if_neg, bel_lo hv hn k (by omega)]
    intro h2
    have := abvL_le hv (by omega) (belB_get.1 h2).2
    omega
theorem rep_get (N x : Nat) : (List.replicate N false).getD x false = false := by
  simp only [List.getD, List.getElem?_replicate]; split <;> rfl
def belR (b : List (List Int)) (c : Int) : List Int := if VB b ∧ 0 ≤ c ∧ c < b.length then belL b c.toNat else []
theorem belR_of {b : List (List Int)} {n : Nat} (h : VB b) (hn : n < b.length) : belR b n = belL b n := by
  unfold belR; rw [if_pos ⟨h, by omega, by omega⟩]; rfl
theorem belR_no {b : List (List Int)} {c : Int} (h : ¬ (VB b ∧ 0 ≤ c ∧ c < b.length)) : belR b c = [] := if_neg h
def OKLs (ls : List (List Int)) : Prop := (∀ l ∈ ls, OKL l 12) ∧ ls.length ≤ 6
instance {ls : List (List Int)} : Decidable (OKLs ls) := by unfold OKLs; infer_instance
def KeepP (long short : List Int) : Prop := OKL long 12 ∧ OKL short 12 ∧ kpN short long 0 = short.length
instance {a b : List Int} : Decidable (KeepP a b) := by unfold KeepP; infer_instance
def OC (b s : List (List Int)) : Prop := VS b s ∧ ∀ j, j < s.length → ∀ i, i < j → (s.getD i []).length > 0 → (s.getD j []).length > 0 → (i : Int) ∈ abvL b j
noncomputable instance {a b : List (List Int)} : Decidable (OC a b) := Classical.propDecidable _
theorem apart_iff {b : List (List Int)} (hv : VB b) {j k : Nat} (h : j < k) (hk : k < b.length) : (¬ (k : Int) ∈ abvR b j ∧ ¬ (j : Int) ∈ abvR b k) ↔ ¬ (j : Int) ∈ abvL b k := by
  rw [abvR_of hv hk, abvR_of hv (by omega)]
  exact ⟨fun h => h.2, fun h2 => ⟨fun h3 => by have := abvL_le hv (by omega) h3; omega, h2⟩⟩

theorem getD_at {α : Type} {l : List α} {j : Nat} (h : j < l.length) (d : α) : l.getD j d = l[j] := by simp [List.getD, List.getElem?_eq_getElem h]
theorem mark0 {b : List (List Int)} (hv : VB b) {n : Nat} (hn : n < b.length) (x : Nat) : ((List.replicate b.length false).set n true).getD x false = true ↔ x < n + 1 ∧ (n : Int) ∈ abvL b x := by
  rw [getD_set_b, rep_get]
  by_cases h : n = x
  · subst h; simp [hn, abvL_refl hv hn]
  · rw [if_neg (fun e => h e.1)]
    constructor
    · intro h2; cases h2
    · rintro ⟨h2, h3⟩
      have := abvL_le hv (by omega) h3
      omega
theorem mark_in1 {b : List (List Int)} {m m2 : List Bool} {k j : Nat} (hj : j < (b.getD k []).length) (hk : k < m2.length) (h : m2.getD k false = true)
    (hm : ∀ x, m2.getD x false = true ↔ (m.getD x false = true ∨ (x = k ∧ ∃ d ∈ (b.getD k []).take j, m.getD d.toNat false = true))) :
    ∀ x, (m2.set k true).getD x false = true ↔ (m.getD x false = true ∨ (x = k ∧ ∃ d ∈ (b.getD k []).take (j+1), m.getD d.toNat false = true)) := by
  intro x
  rw [getD_set_b]
  by_cases e : k = x
  · subst e
    rw [if_pos ⟨rfl, hk⟩]
    refine ⟨fun _ => ?_, fun _ => rfl⟩
    rcases (hm k).1 h with h1 | ⟨_, d, h1, h2⟩
    · exact .inl h1
    · refine .inr ⟨rfl, d, ?_, h2⟩
      rw [List.take_succ_eq_append_getElem hj]; exact List.mem_append_left _ h1
  · rw [if_neg (fun h => e h.1), hm x]
    simp [Ne.symm e]
theorem mark_in2 {b : List (List Int)} {m m2 : List Bool} {k j : Nat} (hj : j < (b.getD k []).length) (hk : k < m2.length) (h : m2.getD k false = false) (hb : ((b.getD k []).getD j 0).toNat ≠ k)
    (hm : ∀ x, m2.getD x false = true ↔ (m.getD x false = true ∨ (x = k ∧ ∃ d ∈ (b.getD k []).take j, m.getD d.toNat false = true))) :
    ∀ x, (m2.set k (m2.getD ((b.getD k []).getD j 0).toNat false)).getD x false = true ↔ (m.getD x false = true ∨ (x = k ∧ ∃ d ∈ (b.getD k []).take (j+1), m.getD d.toNat false = true)) := by
  intro x
  rw [getD_set_b]
  have e0 := getD_at hj 0
  by_cases e : k = x
  · subst e
    rw [if_pos ⟨rfl, hk⟩, hm]
    have hn : ¬ (m.getD k false = true ∨ (k = k ∧ ∃ d ∈ (b.getD k []).take j, m.getD d.toNat false = true)) := fun h1 => by rw [(hm k).2 h1] at h; cases h
    rw [List.take_succ_eq_append_getElem hj]
    constructor
    · rintro (h1 | ⟨h1, _⟩)
      · exact .inr ⟨rfl, _, List.mem_append_right _ (List.mem_singleton.2 rfl), by rw [← e0]; exact h1⟩
      · exact absurd h1 hb
    · rintro (h1 | ⟨_, d, h1, h2⟩)
      · exact absurd (.inl h1) hn
      · rcases List.mem_append.1 h1 with h1 | h1
        · exact absurd (.inr ⟨rfl, d, h1, h2⟩) hn
        · rw [List.mem_singleton.1 h1, ← e0] at h2; exact .inl h2
  · rw [if_neg (fun h => e h.1), hm x]
    simp [Ne.symm e]
theorem mark_step {b : List (List Int)} (hv : VB b) {n k : Nat} (hnk : n < k) (hk : k < b.length) {m m2 : List Bool} (hm : ∀ x, m.getD x false = true ↔ x < k ∧ (n : Int) ∈ abvL b x)
    (hm2 : ∀ x, m2.getD x false = true ↔ (m.getD x false = true ∨ (x = k ∧ ∃ d ∈ (b.getD k []), m.getD d.toNat false = true))) : ∀ x, m2.getD x false = true ↔ x < k + 1 ∧ (n : Int) ∈ abvL b x := by
  intro x
  rw [hm2, hm]
  constructor
  · rintro (⟨h1, h2⟩ | ⟨rfl, d, h1, h2⟩)
    · exact ⟨by omega, h2⟩
    · exact ⟨by omega, (abvL_step hv hk (by omega)).2 ⟨d, h1, ((hm _).1 h2).2⟩⟩
  · rintro ⟨h1, h2⟩
    rcases Nat.lt_or_ge x k with h | h
    · exact .inl ⟨h, h2⟩
    · have e : x = k := by omega
      subst e
      obtain ⟨d, h3, h4⟩ := (abvL_step hv hk (by omega)).1 h2
      have := hv.bd h3
      exact .inr ⟨rfl, d, h3, (hm _).2 ⟨by omega, h4⟩⟩

theorem implValidSlots_sat {nl0 : Option Bool} {bases : List (List Int)} {nl1 : Option Bool} {slots : List (List Int)} (hbases : bases.length < 1000000000) (hlbases : ∀ l ∈ bases, l.length < 1000000000) (hslots : slots.length < 1000000000) (hlslots : ∀ l ∈ slots, l.length < 1000000000)  : SatAt Try.prog 44 [.pv false (.sl nl0 1 (bases.map ints)), .pv false (.sl nl1 1 (slots.map ints))] [] (fun res rows => res = [bo (decide (VS bases slots))] ∧ rows = []) := by
  refine sat_entry (ts := [4]) Try.func44 rfl rfl (by decide) (Nat.le_of_ble_eq_true rfl) fun C hC => ?_
  rw [Try.ntmps44]
  replace hC : C.nb = 0 := hC
  refine vc_seq fun K1 hK1 => ?_
  refine vc_region ?_
  refine vo_assign_pv rfl rfl ?_
  refine vo_nil ?_
  refine hK1 _ ?_
  refine vc_seq fun K2 hK2 => ?_
  refine vc_seq fun K3 hK3 => ?_
  refine vc_region ?_
  refine vo_move_pv rfl rfl ?_
  refine vo_call0 Try.func68 rfl rfl rfl rfl (implValidBases_sat hbases hlbases) ?_
  rintro _ _ ⟨rfl, rfl⟩
  refine ⟨rfl, rfl, .inl rfl, ?_⟩
  refine vo_not rfl rfl ?_
  refine vo_move_pv rfl rfl ?_
  refine vo_split 10 rfl (fun hg1 => ?_) (fun hg1 => ?_)
  · try simp only [decide_eq_true_eq, decide_eq_false_iff_not, beq_iff_eq, bne_iff_ne, beq_eq_false_iff_ne, bne_eq_false_iff_eq, Bool.not_eq_true, Bool.not_eq_false, Bool.not_eq_eq_eq_not, Bool.not_true, Bool.not_false, List.length_map, Int.not_lt, Int.not_le, ne_eq, Decidable.not_not] at hg1
    refine vo_guard_off rfl rfl rfl rfl rfl ?_
    refine vo_guard_off rfl rfl rfl rfl rfl ?_
    refine vo_guard_off rfl rfl rfl rfl rfl ?_
    refine vo_guard_off rfl rfl rfl rfl rfl ?_
    refine vo_guard_off rfl rfl rfl rfl rfl ?_
    refine vo_pick_t rfl rfl ?_
    refine vo_move_pv rfl rfl ?_
    refine vo_guard_off rfl rfl rfl rfl rfl ?_
    refine vo_guard_off rfl rfl rfl rfl rfl ?_
    refine vo_guard_off rfl rfl rfl rfl rfl ?_
    refine vo_guard_off rfl rfl rfl rfl rfl ?_
    refine vo_guard_off rfl rfl rfl rfl rfl ?_
    refine vo_pick_t rfl rfl ?_
    refine vo_nil ?_
    refine hK3 _ ?_
    refine vc_cond_t rfl ?_
    refine vc_seq fun K4 hK4 => ?_
    refine vc_region ?_
    refine vo_assign_pv rfl rfl ?_
    refine vo_nil ?_
    refine hK4 _ ?_
    refine vc_ret ?_
    change retPv _ _ _ _ _
    refine retPv_mk rfl rfl rfl ⟨?_, rfl⟩
    refine (congrArg (fun b => [bo b]) (?_ : _ = _) : [bo _] = [bo _])
    exact bF fun h => hg1 h.1
  · try simp only [decide_eq_true_eq, decide_eq_false_iff_not, beq_iff_eq, bne_iff_ne, beq_eq_false_iff_ne, bne_eq_false_iff_eq, Bool.not_eq_true, Bool.not_eq_false, Bool.not_eq_eq_eq_not, Bool.not_true, Bool.not_false, List.length_map, Int.not_lt, Int.not_le, ne_eq, Decidable.not_not] at hg1
    have h11 := hg1.1
    refine vo_guard_on rfl rfl rfl ?_
    refine vo_move_pv rfl rfl ?_
    refine vo_guard_on rfl rfl rfl ?_
    refine vo_len_pv rfl rfl Try.underlying22 ?_
    refine vo_guard_on rfl rfl rfl ?_
    refine vo_move_pv rfl rfl ?_
    refine vo_guard_on rfl rfl rfl ?_
    refine vo_len_pv rfl rfl Try.underlying22 ?_
    refine vo_guard_on rfl rfl rfl ?_
    refine vo_binI rfl rfl rfl rfl trivial ?_
    refine vo_pick_f rfl rfl ?_
    refine vo_move_pv rfl rfl ?_
    refine vo_split 17 rfl (fun hg2 => ?_) (fun hg2 => ?_)
    · try simp only [decide_eq_true_eq, decide_eq_false_iff_not, beq_iff_eq, bne_iff_ne, beq_eq_false_iff_ne, bne_eq_false_iff_eq, Bool.not_eq_true, Bool.not_eq_false, Bool.not_eq_eq_eq_not, Bool.not_true, Bool.not_false, List.length_map, Int.not_lt, Int.not_le, ne_eq, Decidable.not_not] at hg2
      refine vo_guard_off rfl rfl rfl rfl rfl ?_
      refine vo_guard_off rfl rfl rfl rfl rfl ?_
      refine vo_guard_off rfl rfl rfl rfl rfl ?_
      refine vo_guard_off rfl rfl rfl rfl rfl ?_
      refine vo_guard_off rfl rfl rfl rfl rfl ?_
      refine vo_pick_t rfl rfl ?_
      refine vo_nil ?_
      refine hK3 _ ?_
      refine vc_cond_t rfl ?_
      refine vc_seq fun K5 hK5 => ?_
      refine vc_region ?_
      refine vo_assign_pv rfl rfl ?_
      refine vo_nil ?_
      refine hK5 _ ?_
      refine vc_ret ?_
      change retPv _ _ _ _ _
      refine retPv_mk rfl rfl rfl ⟨?_, rfl⟩
      refine (congrArg (fun b => [bo b]) (?_ : _ = _) : [bo _] = [bo _])
      exact bF fun h => by have := h.2.1; omega
    · try simp only [decide_eq_true_eq, decide_eq_false_iff_not, beq_iff_eq, bne_iff_ne, beq_eq_false_iff_ne, bne_eq_false_iff_eq, Bool.not_eq_true, Bool.not_eq_false, Bool.not_eq_eq_eq_not, Bool.not_true, Bool.not_false, List.length_map, Int.not_lt, Int.not_le, ne_eq, Decidable.not_not] at hg2
      refine vo_guard_on rfl rfl rfl ?_
      refine vo_move_pv rfl rfl ?_
      refine vo_guard_on rfl rfl rfl ?_
      refine vo_index_pv (.sl none 1 []) rfl rfl rfl E22.und inf37 sz37 (by first | omega | (simp only [List.length_map] <;> omega) | (simp only [List.length_map, List.length_set, List.length_append, List.length_cons, List.length_nil, List.length_replicate, List.length_take, List.length_drop] <;> omega) | (simp <;> omega) | (constructor <;> (first | omega | (simp <;> omega))) | (refine ⟨?_, ?_, ?_, ?_⟩ <;> omega) | exact ⟨xorI_nonneg _ _, by omega⟩ | decide) (by first | omega | (simp only [List.length_map] <;> omega) | (simp only [List.length_map, List.length_set, List.length_append, List.length_cons, List.length_nil, List.length_replicate, List.length_take, List.length_drop] <;> omega) | (simp <;> omega) | (constructor <;> (first | omega | (simp <;> omega))) | (refine ⟨?_, ?_, ?_, ?_⟩ <;> omega) | exact ⟨xorI_nonneg _ _, by omega⟩ | decide) ?_
      simp only [Int.toNat_natCast, Int.toNat_zero, getD_ints, getD_intss, getD_bools, getD_bytes, PV.cells]
      refine vo_guard_on rfl rfl rfl ?_
      refine vo_load_adr rfl rfl Try.underlying37 rfl ?_
      refine vo_guard_on rfl rfl rfl ?_
      refine vo_len_pv rfl rfl Try.underlying37 ?_
      refine vo_guard_on rfl rfl rfl ?_
      refine vo_binI rfl rfl rfl rfl trivial ?_
      refine vo_pick_f rfl rfl ?_
      refine vo_nil ?_
      refine hK3 _ ?_
      refine vc_cond rfl (fun hc3 => ?_) (fun hc3 => ?_)
      · try simp only [decide_eq_true_eq, decide_eq_false_iff_not, beq_iff_eq, bne_iff_ne, beq_eq_false_iff_ne, bne_eq_false_iff_eq, Bool.not_eq_true, Bool.not_eq_false, Bool.not_eq_eq_eq_not, Bool.not_true, Bool.not_false, List.length_map, Int.not_lt, Int.not_le, ne_eq, Decidable.not_not] at hc3
        refine vc_seq fun K6 hK6 => ?_
        refine vc_region ?_
        refine vo_assign_pv rfl rfl ?_
        refine vo_nil ?_
        refine hK6 _ ?_
        refine vc_ret ?_
        change retPv _ _ _ _ _
        refine retPv_mk rfl rfl rfl ⟨?_, rfl⟩
        refine (congrArg (fun b => [bo b]) (?_ : _ = _) : [bo _] = [bo _])
        exact bF fun h => by have := h.2.2.1; rw [this] at hc3; simp at hc3
      · try simp only [decide_eq_true_eq, decide_eq_false_iff_not, beq_iff_eq, bne_iff_ne, beq_eq_false_iff_ne, bne_eq_false_iff_eq, Bool.not_eq_true, Bool.not_eq_false, Bool.not_eq_eq_eq_not, Bool.not_true, Bool.not_false, List.length_map, Int.not_lt, Int.not_le, ne_eq, Decidable.not_not] at hc3
        refine vc_skip ?_
        refine hK2 _ ?_
        refine vc_seq fun K7 hK7 => ?_
        refine vc_seq fun K8 hK8 => ?_
        refine vc_region ?_
        refine vo_move_pv rfl rfl ?_
        refine vo_len_pv rfl rfl Try.underlying22 ?_
        refine vo_move_pv rfl rfl ?_
        refine vo_nil ?_
        refine hK8 _ ?_
        refine vc_block ?_
        refine vc_st (by (try simp only [St.put, exposeE, killE, SV.expose, SV.kill, Row.expose, Row.kill, rowsAfter_nil, rowsAfter_one, packS, SV.shift, placeOf, enumE, List.zip_cons_cons, List.zip_nil_right, List.map_cons, List.map_nil, List.set_cons_zero, List.set_cons_succ, List.length_cons, List.length_nil, List.cons_append, List.nil_append, List.drop_succ_cons, List.drop_zero, List.drop_nil, List.take_succ_cons, List.take_zero, List.take_nil, List.getElem?_cons_zero, List.getElem?_cons_succ, List.getElem?_nil, Option.getD_some, Option.getD_none, Option.map_some, Option.map_none, Nat.reduceAdd, Nat.reduceSub, Nat.reduceEqDiff, Nat.zero_add, Bool.true_or, PV.scal, Bool.or_false, Bool.or_true, Bool.false_or, Bool.and_true, Bool.and_false, Bool.true_and, reduceIte, reduceCtorEq]); exact eq_refl _) ?_
        refine vc_loopF [24, 25] [26] [.pv false (.sl nl1 1 (slots.map ints)), i64 (slots.map ints).length] _ (fun mz vs => ∃ (k : Nat), mz = slots.length - k ∧ (k ≤ slots.length) ∧ (∀ l ∈ slots.take k, OKL l 4 ∧ ∀ x ∈ l, 0 ≤ x ∧ x ≤ 9) ∧ vs = [i64 k]) (slots.length) rfl rfl (le_len hC rfl) ⟨rfl, rfl, rfl⟩ ⟨0, rfl, Nat.zero_le _, (by simp), rfl⟩ ?_
        rintro mz vs - ⟨k, rfl, hk, hf, rfl⟩
        refine vc_st (by (try simp only [St.put, exposeE, killE, SV.expose, SV.kill, Row.expose, Row.kill, rowsAfter_nil, rowsAfter_one, packS, SV.shift, placeOf, enumE, List.zip_cons_cons, List.zip_nil_right, List.map_cons, List.map_nil, List.set_cons_zero, List.set_cons_succ, List.length_cons, List.length_nil, List.cons_append, List.nil_append, List.drop_succ_cons, List.drop_zero, List.drop_nil, List.take_succ_cons, List.take_zero, List.take_nil, List.getElem?_cons_zero, List.getElem?_cons_succ, List.getElem?_nil, Option.getD_some, Option.getD_none, Option.map_some, Option.map_none, Nat.reduceAdd, Nat.reduceSub, Nat.reduceEqDiff, Nat.zero_add, Bool.true_or, PV.scal, Bool.or_false, Bool.or_true, Bool.false_or, Bool.and_true, Bool.and_false, Bool.true_and, reduceIte, reduceCtorEq]); exact eq_refl _) ?_
        refine vc_seq fun K9 hK9 => ?_
        refine vc_region ?_
        refine vo_binI rfl rfl rfl rfl trivial ?_
        refine vo_nil ?_
        refine hK9 _ ?_
        refine vc_seq fun K10 hK10 => ?_
        refine vc_cond rfl (fun hc4 => ?_) (fun hc4 => ?_)
        · try simp only [decide_eq_true_eq, decide_eq_false_iff_not, beq_iff_eq, bne_iff_ne, beq_eq_false_iff_ne, bne_eq_false_iff_eq, Bool.not_eq_true, Bool.not_eq_false, Bool.not_eq_eq_eq_not, Bool.not_true, Bool.not_false, List.length_map, Int.not_lt, Int.not_le, ne_eq, Decidable.not_not] at hc4
          refine vc_skip ?_
          refine hK10 _ ?_
          refine vc_seq fun K11 hK11 => ?_
          refine vc_block ?_
          refine vc_seq fun K12 hK12 => ?_
          refine vc_region ?_
          refine vo_index_pv (.sl none 1 []) rfl rfl rfl E22.und inf37 sz37 (by first | omega | (simp only [List.length_map] <;> omega) | (simp only [List.length_map, List.length_set, List.length_append, List.length_cons, List.length_nil, List.length_replicate, List.length_take, List.length_drop] <;> omega) | (simp <;> omega) | (constructor <;> (first | omega | (simp <;> omega))) | (refine ⟨?_, ?_, ?_, ?_⟩ <;> omega) | exact ⟨xorI_nonneg _ _, by omega⟩ | decide) (by first | omega | (simp only [List.length_map] <;> omega) | (simp only [List.length_map, List.length_set, List.length_append, List.length_cons, List.length_nil, List.length_replicate, List.length_take, List.length_drop] <;> omega) | (simp <;> omega) | (constructor <;> (first | omega | (simp <;> omega))) | (refine ⟨?_, ?_, ?_, ?_⟩ <;> omega) | exact ⟨xorI_nonneg _ _, by omega⟩ | decide) ?_
          simp only [Int.toNat_natCast, Int.toNat_zero, getD_ints, getD_intss, getD_bools, getD_bytes, PV.cells]
          refine vo_load_adr rfl rfl Try.underlying37 rfl ?_
          refine vo_assign_pv rfl rfl ?_
          refine vo_nil ?_
          refine hK12 _ ?_
          refine vc_seq fun K13 hK13 => ?_
          refine vc_region ?_
          refine vo_move_pv rfl rfl ?_
          refine vo_call0 Try.func69 rfl rfl rfl rfl (isList_sat (lens hlslots _ (by omega))) ?_
          rintro _ _ ⟨rfl, rfl⟩
          refine ⟨rfl, rfl, .inl rfl, ?_⟩
          refine vo_not rfl rfl ?_
          refine vo_move_pv rfl rfl ?_
          refine vo_split 33 rfl (fun hg5 => ?_) (fun hg5 => ?_)
          · try simp only [decide_eq_true_eq, decide_eq_false_iff_not, beq_iff_eq, bne_iff_ne, beq_eq_false_iff_ne, bne_eq_false_iff_eq, Bool.not_eq_true, Bool.not_eq_false, Bool.not_eq_eq_eq_not, Bool.not_true, Bool.not_false, List.length_map, Int.not_lt, Int.not_le, ne_eq, Decidable.not_not] at hg5
            refine vo_guard_off rfl rfl rfl rfl rfl ?_
            refine vo_guard_off rfl rfl rfl rfl rfl ?_
            refine vo_guard_off rfl rfl rfl rfl rfl ?_
            refine vo_pick_t rfl rfl ?_
            refine vo_nil ?_
            refine hK13 _ ?_
            refine vc_cond_t rfl ?_
            refine vc_seq fun K14 hK14 => ?_
            refine vc_region ?_
            refine vo_assign_pv rfl rfl ?_
            refine vo_nil ?_
            refine hK14 _ ?_
            refine vc_ret ?_
            change retPv _ _ _ _ _
            refine retPv_mk rfl rfl rfl ⟨?_, rfl⟩
            refine (congrArg (fun b => [bo b]) (?_ : _ = _) : [bo _] = [bo _])
            exact bF fun h => by have := h.2.2.2 _ (getD_mem (show k < slots.length by omega) []); exact absurd this.1 (by assumption)
          · try simp only [decide_eq_true_eq, decide_eq_false_iff_not, beq_iff_eq, bne_iff_ne, beq_eq_false_iff_ne, bne_eq_false_iff_eq, Bool.not_eq_true, Bool.not_eq_false, Bool.not_eq_eq_eq_not, Bool.not_true, Bool.not_false, List.length_map, Int.not_lt, Int.not_le, ne_eq, Decidable.not_not] at hg5
            refine vo_guard_on rfl rfl rfl ?_
            refine vo_move_pv rfl rfl ?_
            refine vo_guard_on rfl rfl rfl ?_
            refine vo_call0 Try.func70 rfl rfl rfl rfl (areUpTo_sat (lens hlslots _ (by omega))) ?_
            rintro _ _ ⟨rfl, rfl⟩
            refine ⟨rfl, rfl, .inl rfl, ?_⟩
            refine vo_guard_on rfl rfl rfl ?_
            refine vo_not rfl rfl ?_
            refine vo_pick_f rfl rfl ?_
            refine vo_nil ?_
            refine hK13 _ ?_
            refine vc_cond rfl (fun hc6 => ?_) (fun hc6 => ?_)
            · try simp only [decide_eq_true_eq, decide_eq_false_iff_not, beq_iff_eq, bne_iff_ne, beq_eq_false_iff_ne, bne_eq_false_iff_eq, Bool.not_eq_true, Bool.not_eq_false, Bool.not_eq_eq_eq_not, Bool.not_true, Bool.not_false, List.length_map, Int.not_lt, Int.not_le, ne_eq, Decidable.not_not] at hc6
              refine vc_seq fun K15 hK15 => ?_
              refine vc_region ?_
              refine vo_assign_pv rfl rfl ?_
              refine vo_nil ?_
              refine hK15 _ ?_
              refine vc_ret ?_
              change retPv _ _ _ _ _
              refine retPv_mk rfl rfl rfl ⟨?_, rfl⟩
              refine (congrArg (fun b => [bo b]) (?_ : _ = _) : [bo _] = [bo _])
              exact bF fun h => by have := h.2.2.2 _ (getD_mem (show k < slots.length by omega) []); exact absurd this.2 (by assumption)
            · try simp only [decide_eq_true_eq, decide_eq_false_iff_not, beq_iff_eq, bne_iff_ne, beq_eq_false_iff_ne, bne_eq_false_iff_eq, Bool.not_eq_true, Bool.not_eq_false, Bool.not_eq_eq_eq_not, Bool.not_true, Bool.not_false, List.length_map, Int.not_lt, Int.not_le, ne_eq, Decidable.not_not] at hc6
              refine vc_skip ?_
              refine hK11 _ ?_
              refine vc_region ?_
              refine vo_binI rfl rfl rfl rfl (by first | omega | (simp only [List.length_map] <;> omega) | (simp only [List.length_map, List.length_set, List.length_append, List.length_cons, List.length_nil, List.length_replicate, List.length_take, List.length_drop] <;> omega) | (simp <;> omega) | (constructor <;> (first | omega | (simp <;> omega))) | (refine ⟨?_, ?_, ?_, ?_⟩ <;> omega) | exact ⟨xorI_nonneg _ _, by omega⟩ | decide) ?_
              refine vo_move_pv rfl rfl ?_
              refine vo_nil ?_
              change againF _ _ _ _ _ _ _ _ _
              refine againF_mk rfl rfl rfl rfl rfl rfl ⟨_, ?_, k + 1, rfl, ?_, ?_, rfl⟩
              · omega
              · omega
              · exact (all_take_succ (by omega) []).2 ⟨hf, by assumption, by assumption⟩
        · try simp only [decide_eq_true_eq, decide_eq_false_iff_not, beq_iff_eq, bne_iff_ne, beq_eq_false_iff_ne, bne_eq_false_iff_eq, Bool.not_eq_true, Bool.not_eq_false, Bool.not_eq_eq_eq_not, Bool.not_true, Bool.not_false, List.length_map, Int.not_lt, Int.not_le, ne_eq, Decidable.not_not] at hc4
          refine vc_exit ?_
          refine hK7 _ ?_
          refine vc_seq fun K16 hK16 => ?_
          refine vc_region ?_
          refine vo_assign_pv rfl rfl ?_
          refine vo_nil ?_
          refine hK16 _ ?_
          refine vc_ret ?_
          change retPv _ _ _ _ _
          refine retPv_mk rfl rfl rfl ⟨?_, rfl⟩
          refine (congrArg (fun b => [bo b]) (?_ : _ = _) : [bo _] = [bo _])
          rw [take_all (by omega)] at hf; exact bT ⟨hg1, by omega, List.length_eq_zero_iff.1 (by omega), hf⟩


theorem validSlots_sat {nl0 : Option Bool} {bases : List (List Int)} {nl1 : Option Bool} {slots : List (List Int)} (hbases : bases.length < 1000000000) (hlbases : ∀ l ∈ bases, l.length < 1000000000) (hslots : slots.length < 1000000000) (hlslots : ∀ l ∈ slots, l.length < 1000000000)  : SatAt Try.prog 73 [.pv false (.sl nl0 1 (bases.map ints)), .pv false (.sl nl1 1 (slots.map ints))] [] (fun res rows => res = [bo (decide (VS bases slots))] ∧ rows = []) := by
  refine sat_entry (ts := [4]) Try.func73 rfl rfl (by decide) (Nat.le_of_ble_eq_true rfl) fun C hC => ?_
  rw [Try.ntmps73]
  replace hC : C.nb = 0 := hC
  refine vc_seq fun K1 hK1 => ?_
  refine vc_region ?_
  refine vo_assign_pv rfl rfl ?_
  refine vo_nil ?_
  refine hK1 _ ?_
  refine vc_seq fun K2 hK2 => ?_
  refine vc_seq fun K3 hK3 => ?_
  refine vc_region ?_
  refine vo_assign_pv rfl rfl ?_
  refine vo_nil ?_
  refine hK3 _ ?_
  refine vc_block ?_
  refine vc_st (by (try simp only [St.put, exposeE, killE, SV.expose, SV.kill, Row.expose, Row.kill, rowsAfter_nil, rowsAfter_one, packS, SV.shift, placeOf, enumE, List.zip_cons_cons, List.zip_nil_right, List.map_cons, List.map_nil, List.set_cons_zero, List.set_cons_succ, List.length_cons, List.length_nil, List.cons_append, List.nil_append, List.drop_succ_cons, List.drop_zero, List.drop_nil, List.take_succ_cons, List.take_zero, List.take_nil, List.getElem?_cons_zero, List.getElem?_cons_succ, List.getElem?_nil, Option.getD_some, Option.getD_none, Option.map_some, Option.map_none, Nat.reduceAdd, Nat.reduceSub, Nat.reduceEqDiff, Nat.zero_add, Bool.true_or, PV.scal, Bool.or_false, Bool.or_true, Bool.false_or, Bool.and_true, Bool.and_false, Bool.true_and, reduceIte, reduceCtorEq]); exact eq_refl _) ?_
  refine vc_loopF [0, 1] [5] [.pv false (.sl nl0 1 (bases.map ints)), .pv false (.sl nl1 1 (slots.map ints))] _ (fun mz vs => ∃ (k : Nat), mz = slots.length - k ∧ (k ≤ slots.length) ∧ (∀ l ∈ slots.take k, OKL l 4 ∧ ∀ x ∈ l, 0 ≤ x ∧ x ≤ 9) ∧ vs = [i64 k]) (slots.length) rfl rfl (le_len hC rfl) ⟨rfl, rfl, rfl⟩ ⟨0, rfl, Nat.zero_le _, (by simp), rfl⟩ ?_
  rintro mz vs - ⟨k, rfl, hk, hf, rfl⟩
  refine vc_st (by (try simp only [St.put, exposeE, killE, SV.expose, SV.kill, Row.expose, Row.kill, rowsAfter_nil, rowsAfter_one, packS, SV.shift, placeOf, enumE, List.zip_cons_cons, List.zip_nil_right, List.map_cons, List.map_nil, List.set_cons_zero, List.set_cons_succ, List.length_cons, List.length_nil, List.cons_append, List.nil_append, List.drop_succ_cons, List.drop_zero, List.drop_nil, List.take_succ_cons, List.take_zero, List.take_nil, List.getElem?_cons_zero, List.getElem?_cons_succ, List.getElem?_nil, Option.getD_some, Option.getD_none, Option.map_some, Option.map_none, Nat.reduceAdd, Nat.reduceSub, Nat.reduceEqDiff, Nat.zero_add, Bool.true_or, PV.scal, Bool.or_false, Bool.or_true, Bool.false_or, Bool.and_true, Bool.and_false, Bool.true_and, reduceIte, reduceCtorEq]); exact eq_refl _) ?_
  refine vc_seq fun K4 hK4 => ?_
  refine vc_seq fun K5 hK5 => ?_
  refine vc_region ?_
  refine vo_move_pv rfl rfl ?_
  refine vo_move_pv rfl rfl ?_
  refine vo_len_pv rfl rfl Try.underlying22 ?_
  refine vo_binI rfl rfl rfl rfl trivial ?_
  refine vo_nil ?_
  refine hK5 _ ?_
  refine vc_cond rfl (fun hc1 => ?_) (fun hc1 => ?_)
  · try simp only [decide_eq_true_eq, decide_eq_false_iff_not, beq_iff_eq, bne_iff_ne, beq_eq_false_iff_ne, bne_eq_false_iff_eq, Bool.not_eq_true, Bool.not_eq_false, Bool.not_eq_eq_eq_not, Bool.not_true, Bool.not_false, List.length_map, Int.not_lt, Int.not_le, ne_eq, Decidable.not_not] at hc1
    refine vc_skip ?_
    refine hK4 _ ?_
    refine vc_seq fun K6 hK6 => ?_
    refine vc_block ?_
    refine vc_seq fun K7 hK7 => ?_
    refine vc_region ?_
    refine vo_move_pv rfl rfl ?_
    refine vo_move_pv rfl rfl ?_
    refine vo_index_pv (.sl none 1 []) rfl rfl rfl E22.und inf37 sz37 (by first | omega | (simp only [List.length_map] <;> omega) | (simp only [List.length_map, List.length_set, List.length_append, List.length_cons, List.length_nil, List.length_replicate, List.length_take, List.length_drop] <;> omega) | (simp <;> omega) | (constructor <;> (first | omega | (simp <;> omega))) | (refine ⟨?_, ?_, ?_, ?_⟩ <;> omega) | exact ⟨xorI_nonneg _ _, by omega⟩ | decide) (by first | omega | (simp only [List.length_map] <;> omega) | (simp only [List.length_map, List.length_set, List.length_append, List.length_cons, List.length_nil, List.length_replicate, List.length_take, List.length_drop] <;> omega) | (simp <;> omega) | (constructor <;> (first | omega | (simp <;> omega))) | (refine ⟨?_, ?_, ?_, ?_⟩ <;> omega) | exact ⟨xorI_nonneg _ _, by omega⟩ | decide) ?_
    simp only [Int.toNat_natCast, Int.toNat_zero, getD_ints, getD_intss, getD_bools, getD_bytes, PV.cells]
    refine vo_load_adr rfl rfl Try.underlying37 rfl ?_
    refine vo_len_pv rfl rfl Try.underlying37 ?_
    refine vo_binI rfl rfl rfl rfl trivial ?_
    refine vo_move_pv rfl rfl ?_
    refine vo_split 18 rfl (fun hg2 => ?_) (fun hg2 => ?_)
    · try simp only [decide_eq_true_eq, decide_eq_false_iff_not, beq_iff_eq, bne_iff_ne, beq_eq_false_iff_ne, bne_eq_false_iff_eq, Bool.not_eq_true, Bool.not_eq_false, Bool.not_eq_eq_eq_not, Bool.not_true, Bool.not_false, List.length_map, Int.not_lt, Int.not_le, ne_eq, Decidable.not_not] at hg2
      refine vo_guard_off rfl rfl rfl rfl rfl ?_
      refine vo_guard_off rfl rfl rfl rfl rfl ?_
      refine vo_guard_off rfl rfl rfl rfl rfl ?_
      refine vo_guard_off rfl rfl rfl rfl rfl ?_
      refine vo_guard_off rfl rfl rfl rfl rfl ?_
      refine vo_guard_off rfl rfl rfl rfl rfl ?_
      refine vo_pick_t rfl rfl ?_
      refine vo_move_pv rfl rfl ?_
      refine vo_guard_off rfl rfl rfl rfl rfl ?_
      refine vo_guard_off rfl rfl rfl rfl rfl ?_
      refine vo_guard_off rfl rfl rfl rfl rfl ?_
      refine vo_guard_off rfl rfl rfl rfl rfl ?_
      refine vo_guard_off rfl rfl rfl rfl rfl ?_
      refine vo_guard_off rfl rfl rfl rfl rfl ?_
      refine vo_pick_t rfl rfl ?_
      refine vo_nil ?_
      refine hK7 _ ?_
      refine vc_cond_t rfl ?_
      refine vc_seq fun K8 hK8 => ?_
      refine vc_region ?_
      refine vo_assign_pv rfl rfl ?_
      refine vo_nil ?_
      refine hK8 _ ?_
      refine vc_ret ?_
      change retPv _ _ _ _ _
      refine retPv_mk rfl rfl rfl ⟨?_, rfl⟩
      refine (congrArg (fun b => [bo b]) (?_ : _ = _) : [bo _] = [bo _])
      exact bF fun h => by have := h.2.2.2 _ (getD_mem (show k < slots.length by omega) []); have := this.1.1; omega
    · try simp only [decide_eq_true_eq, decide_eq_false_iff_not, beq_iff_eq, bne_iff_ne, beq_eq_false_iff_ne, bne_eq_false_iff_eq, Bool.not_eq_true, Bool.not_eq_false, Bool.not_eq_eq_eq_not, Bool.not_true, Bool.not_false, List.length_map, Int.not_lt, Int.not_le, ne_eq, Decidable.not_not] at hg2
      refine vo_guard_on rfl rfl rfl ?_
      refine vo_move_pv rfl rfl ?_
      refine vo_guard_on rfl rfl rfl ?_
      refine vo_move_pv rfl rfl ?_
      refine vo_guard_on rfl rfl rfl ?_
      refine vo_index_pv (.sl none 1 []) rfl rfl rfl E22.und inf37 sz37 (by first | omega | (simp only [List.length_map] <;> omega) | (simp only [List.length_map, List.length_set, List.length_append, List.length_cons, List.length_nil, List.length_replicate, List.length_take, List.length_drop] <;> omega) | (simp <;> omega) | (constructor <;> (first | omega | (simp <;> omega))) | (refine ⟨?_, ?_, ?_, ?_⟩ <;> omega) | exact ⟨xorI_nonneg _ _, by omega⟩ | decide) (by first | omega | (simp only [List.length_map] <;> omega) | (simp only [List.length_map, List.length_set, List.length_append, List.length_cons, List.length_nil, List.length_replicate, List.length_take, List.length_drop] <;> omega) | (simp <;> omega) | (constructor <;> (first | omega | (simp <;> omega))) | (refine ⟨?_, ?_, ?_, ?_⟩ <;> omega) | exact ⟨xorI_nonneg _ _, by omega⟩ | decide) ?_
      simp only [Int.toNat_natCast, Int.toNat_zero, getD_ints, getD_intss, getD_bools, getD_bytes, PV.cells]
      refine vo_guard_on rfl rfl rfl ?_
      refine vo_load_adr rfl rfl Try.underlying37 rfl ?_
      refine vo_guard_on rfl rfl rfl ?_
      refine vo_call0 Try.func84 rfl rfl rfl rfl (different_sat (lens hlslots _ (by omega))) ?_
      rintro _ _ ⟨rfl, rfl⟩
      refine ⟨rfl, rfl, .inl rfl, ?_⟩
      refine vo_guard_on rfl rfl rfl ?_
      refine vo_not rfl rfl ?_
      refine vo_pick_f rfl rfl ?_
      refine vo_move_pv rfl rfl ?_
      refine vo_split 26 rfl (fun hg3 => ?_) (fun hg3 => ?_)
      · try simp only [decide_eq_true_eq, decide_eq_false_iff_not, beq_iff_eq, bne_iff_ne, beq_eq_false_iff_ne, bne_eq_false_iff_eq, Bool.not_eq_true, Bool.not_eq_false, Bool.not_eq_eq_eq_not, Bool.not_true, Bool.not_false, List.length_map, Int.not_lt, Int.not_le, ne_eq, Decidable.not_not] at hg3
        refine vo_guard_off rfl rfl rfl rfl rfl ?_
        refine vo_guard_off rfl rfl rfl rfl rfl ?_
        refine vo_guard_off rfl rfl rfl rfl rfl ?_
        refine vo_guard_off rfl rfl rfl rfl rfl ?_
        refine vo_guard_off rfl rfl rfl rfl rfl ?_
        refine vo_guard_off rfl rfl rfl rfl rfl ?_
        refine vo_pick_t rfl rfl ?_
        refine vo_nil ?_
        refine hK7 _ ?_
        refine vc_cond_t rfl ?_
        refine vc_seq fun K9 hK9 => ?_
        refine vc_region ?_
        refine vo_assign_pv rfl rfl ?_
        refine vo_nil ?_
        refine hK9 _ ?_
        refine vc_ret ?_
        change retPv _ _ _ _ _
        refine retPv_mk rfl rfl rfl ⟨?_, rfl⟩
        refine (congrArg (fun b => [bo b]) (?_ : _ = _) : [bo _] = [bo _])
        exact bF fun h => by have := h.2.2.2 _ (getD_mem (show k < slots.length by omega) []); exact absurd this.1.2 (by assumption)
      · try simp only [decide_eq_true_eq, decide_eq_false_iff_not, beq_iff_eq, bne_iff_ne, beq_eq_false_iff_ne, bne_eq_false_iff_eq, Bool.not_eq_true, Bool.not_eq_false, Bool.not_eq_eq_eq_not, Bool.not_true, Bool.not_false, List.length_map, Int.not_lt, Int.not_le, ne_eq, Decidable.not_not] at hg3
        refine vo_guard_on rfl rfl rfl ?_
        refine vo_move_pv rfl rfl ?_
        refine vo_guard_on rfl rfl rfl ?_
        refine vo_move_pv rfl rfl ?_
        refine vo_guard_on rfl rfl rfl ?_
        refine vo_index_pv (.sl none 1 []) rfl rfl rfl E22.und inf37 sz37 (by first | omega | (simp only [List.length_map] <;> omega) | (simp only [List.length_map, List.length_set, List.length_append, List.length_cons, List.length_nil, List.length_replicate, List.length_take, List.length_drop] <;> omega) | (simp <;> omega) | (constructor <;> (first | omega | (simp <;> omega))) | (refine ⟨?_, ?_, ?_, ?_⟩ <;> omega) | exact ⟨xorI_nonneg _ _, by omega⟩ | decide) (by first | omega | (simp only [List.length_map] <;> omega) | (simp only [List.length_map, List.length_set, List.length_append, List.length_cons, List.length_nil, List.length_replicate, List.length_take, List.length_drop] <;> omega) | (simp <;> omega) | (constructor <;> (first | omega | (simp <;> omega))) | (refine ⟨?_, ?_, ?_, ?_⟩ <;> omega) | exact ⟨xorI_nonneg _ _, by omega⟩ | decide) ?_
        simp only [Int.toNat_natCast, Int.toNat_zero, getD_ints, getD_intss, getD_bools, getD_bytes, PV.cells]
        refine vo_guard_on rfl rfl rfl ?_
        refine vo_load_adr rfl rfl Try.underlying37 rfl ?_
        refine vo_guard_on rfl rfl rfl ?_
        refine vo_call0 Try.func85 rfl rfl rfl rfl (allIn_sat (lens hlslots _ (by omega))) ?_
        rintro _ _ ⟨rfl, rfl⟩
        refine ⟨rfl, rfl, .inl rfl, ?_⟩
        refine vo_guard_on rfl rfl rfl ?_
        refine vo_not rfl rfl ?_
        refine vo_pick_f rfl rfl ?_
        refine vo_nil ?_
        refine hK7 _ ?_
        refine vc_cond rfl (fun hc4 => ?_) (fun hc4 => ?_)
        · try simp only [decide_eq_true_eq, decide_eq_false_iff_not, beq_iff_eq, bne_iff_ne, beq_eq_false_iff_ne, bne_eq_false_iff_eq, Bool.not_eq_true, Bool.not_eq_false, Bool.not_eq_eq_eq_not, Bool.not_true, Bool.not_false, List.length_map, Int.not_lt, Int.not_le, ne_eq, Decidable.not_not] at hc4
          refine vc_seq fun K10 hK10 => ?_
          refine vc_region ?_
          refine vo_assign_pv rfl rfl ?_
          refine vo_nil ?_
          refine hK10 _ ?_
          refine vc_ret ?_
          change retPv _ _ _ _ _
          refine retPv_mk rfl rfl rfl ⟨?_, rfl⟩
          refine (congrArg (fun b => [bo b]) (?_ : _ = _) : [bo _] = [bo _])
          exact bF fun h => by have := h.2.2.2 _ (getD_mem (show k < slots.length by omega) []); exact absurd this.2 (by assumption)
        · try simp only [decide_eq_true_eq, decide_eq_false_iff_not, beq_iff_eq, bne_iff_ne, beq_eq_false_iff_ne, bne_eq_false_iff_eq, Bool.not_eq_true, Bool.not_eq_false, Bool.not_eq_eq_eq_not, Bool.not_true, Bool.not_false, List.length_map, Int.not_lt, Int.not_le, ne_eq, Decidable.not_not] at hc4
          refine vc_skip ?_
          refine hK6 _ ?_
          refine vc_region ?_
          refine vo_move_pv rfl rfl ?_
          refine vo_binI rfl rfl rfl rfl (by first | omega | (simp only [List.length_map] <;> omega) | (simp only [List.length_map, List.length_set, List.length_append, List.length_cons, List.length_nil, List.length_replicate, List.length_take, List.length_drop] <;> omega) | (simp <;> omega) | (constructor <;> (first | omega | (simp <;> omega))) | (refine ⟨?_, ?_, ?_, ?_⟩ <;> omega) | exact ⟨xorI_nonneg _ _, by omega⟩ | decide) ?_
          refine vo_assign_pv rfl rfl ?_
          refine vo_nil ?_
          change againF _ _ _ _ _ _ _ _ _
          refine againF_mk rfl rfl rfl rfl rfl rfl ⟨_, ?_, k + 1, rfl, ?_, ?_, rfl⟩
          · omega
          · omega
          · exact (all_take_succ (by omega) []).2 ⟨hf, ⟨by omega, by assumption⟩, by assumption⟩
  · try simp only [decide_eq_true_eq, decide_eq_false_iff_not, beq_iff_eq, bne_iff_ne, beq_eq_false_iff_ne, bne_eq_false_iff_eq, Bool.not_eq_true, Bool.not_eq_false, Bool.not_eq_eq_eq_not, Bool.not_true, Bool.not_false, List.length_map, Int.not_lt, Int.not_le, ne_eq, Decidable.not_not] at hc1
    refine vc_exit ?_
    refine hK2 _ ?_
    refine vc_seq fun K11 hK11 => ?_
    refine vc_region ?_
    refine vo_move_pv rfl rfl ?_
    refine vo_call0 Try.func86 rfl rfl rfl rfl (specValidBases0_sat hbases hlbases) ?_
    rintro _ _ ⟨rfl, rfl⟩
    refine ⟨rfl, rfl, .inl rfl, ?_⟩
    refine vo_move_pv rfl rfl ?_
    refine vo_split 36 rfl (fun hg5 => ?_) (fun hg5 => ?_)
    · try simp only [decide_eq_true_eq, decide_eq_false_iff_not, beq_iff_eq, bne_iff_ne, beq_eq_false_iff_ne, bne_eq_false_iff_eq, Bool.not_eq_true, Bool.not_eq_false, Bool.not_eq_eq_eq_not, Bool.not_true, Bool.not_false, List.length_map, Int.not_lt, Int.not_le, ne_eq, Decidable.not_not] at hg5
      have h11 := hg5.1
      refine vo_guard_on rfl rfl rfl ?_
      refine vo_move_pv rfl rfl ?_
      refine vo_guard_on rfl rfl rfl ?_
      refine vo_len_pv rfl rfl Try.underlying22 ?_
      refine vo_guard_on rfl rfl rfl ?_
      refine vo_move_pv rfl rfl ?_
      refine vo_guard_on rfl rfl rfl ?_
      refine vo_len_pv rfl rfl Try.underlying22 ?_
      refine vo_guard_on rfl rfl rfl ?_
      refine vo_binI rfl rfl rfl rfl trivial ?_
      refine vo_pick_t rfl rfl ?_
      refine vo_move_pv rfl rfl ?_
      refine vo_split 43 rfl (fun hg6 => ?_) (fun hg6 => ?_)
      · try simp only [decide_eq_true_eq, decide_eq_false_iff_not, beq_iff_eq, bne_iff_ne, beq_eq_false_iff_ne, bne_eq_false_iff_eq, Bool.not_eq_true, Bool.not_eq_false, Bool.not_eq_eq_eq_not, Bool.not_true, Bool.not_false, List.length_map, Int.not_lt, Int.not_le, ne_eq, Decidable.not_not] at hg6
        refine vo_guard_on rfl rfl rfl ?_
        refine vo_move_pv rfl rfl ?_
        refine vo_guard_on rfl rfl rfl ?_
        refine vo_index_pv (.sl none 1 []) rfl rfl rfl E22.und inf37 sz37 (by first | omega | (simp only [List.length_map] <;> omega) | (simp only [List.length_map, List.length_set, List.length_append, List.length_cons, List.length_nil, List.length_replicate, List.length_take, List.length_drop] <;> omega) | (simp <;> omega) | (constructor <;> (first | omega | (simp <;> omega))) | (refine ⟨?_, ?_, ?_, ?_⟩ <;> omega) | exact ⟨xorI_nonneg _ _, by omega⟩ | decide) (by first | omega | (simp only [List.length_map] <;> omega) | (simp only [List.length_map, List.length_set, List.length_append, List.length_cons, List.length_nil, List.length_replicate, List.length_take, List.length_drop] <;> omega) | (simp <;> omega) | (constructor <;> (first | omega | (simp <;> omega))) | (refine ⟨?_, ?_, ?_, ?_⟩ <;> omega) | exact ⟨xorI_nonneg _ _, by omega⟩ | decide) ?_
        simp only [Int.toNat_natCast, Int.toNat_zero, getD_ints, getD_intss, getD_bools, getD_bytes, PV.cells]
        refine vo_guard_on rfl rfl rfl ?_
        refine vo_load_adr rfl rfl Try.underlying37 rfl ?_
        refine vo_guard_on rfl rfl rfl ?_
        refine vo_len_pv rfl rfl Try.underlying37 ?_
        refine vo_guard_on rfl rfl rfl ?_
        refine vo_binI rfl rfl rfl rfl trivial ?_
        refine vo_pick_t rfl rfl ?_
        refine vo_assign_pv rfl rfl ?_
        refine vo_nil ?_
        refine hK11 _ ?_
        refine vc_ret ?_
        change retPv _ _ _ _ _
        refine retPv_mk rfl rfl rfl ⟨?_, rfl⟩
        refine (congrArg (fun b => [bo b]) (?_ : _ = _) : [bo _] = [bo _])
        rw [take_all (by omega)] at hf; exact decide_eq_decide.2 ⟨fun h => ⟨by assumption, by omega, List.length_eq_zero_iff.1 (by simp at h; simp [h]), hf⟩, fun h => by rw [h.2.2.1]; simp⟩
      · try simp only [decide_eq_true_eq, decide_eq_false_iff_not, beq_iff_eq, bne_iff_ne, beq_eq_false_iff_ne, bne_eq_false_iff_eq, Bool.not_eq_true, Bool.not_eq_false, Bool.not_eq_eq_eq_not, Bool.not_true, Bool.not_false, List.length_map, Int.not_lt, Int.not_le, ne_eq, Decidable.not_not] at hg6
        refine vo_guard_off rfl rfl rfl rfl rfl ?_
        refine vo_guard_off rfl rfl rfl rfl rfl ?_
        refine vo_guard_off rfl rfl rfl rfl rfl ?_
        refine vo_guard_off rfl rfl rfl rfl rfl ?_
        refine vo_guard_off rfl rfl rfl rfl rfl ?_
        refine vo_pick_f rfl rfl ?_
        refine vo_assign_pv rfl rfl ?_
        refine vo_nil ?_
        refine hK11 _ ?_
        refine vc_ret ?_
        change retPv _ _ _ _ _
        refine retPv_mk rfl rfl rfl ⟨?_, rfl⟩
        refine (congrArg (fun b => [bo b]) (?_ : _ = _) : [bo _] = [bo _])
        exact bF fun h => by have := h.2.1; omega
    · try simp only [decide_eq_true_eq, decide_eq_false_iff_not, beq_iff_eq, bne_iff_ne, beq_eq_false_iff_ne, bne_eq_false_iff_eq, Bool.not_eq_true, Bool.not_eq_false, Bool.not_eq_eq_eq_not, Bool.not_true, Bool.not_false, List.length_map, Int.not_lt, Int.not_le, ne_eq, Decidable.not_not] at hg5
      refine vo_guard_off rfl rfl rfl rfl rfl ?_
      refine vo_guard_off rfl rfl rfl rfl rfl ?_
      refine vo_guard_off rfl rfl rfl rfl rfl ?_
      refine vo_guard_off rfl rfl rfl rfl rfl ?_
      refine vo_guard_off rfl rfl rfl rfl rfl ?_
      refine vo_pick_f rfl rfl ?_
      refine vo_move_pv rfl rfl ?_
      refine vo_guard_off rfl rfl rfl rfl rfl ?_
      refine vo_guard_off rfl rfl rfl rfl rfl ?_
      refine vo_guard_off rfl rfl rfl rfl rfl ?_
      refine vo_guard_off rfl rfl rfl rfl rfl ?_
      refine vo_guard_off rfl rfl rfl rfl rfl ?_
      refine vo_pick_f rfl rfl ?_
      refine vo_assign_pv rfl rfl ?_
      refine vo_nil ?_
      refine hK11 _ ?_
      refine vc_ret ?_
      change retPv _ _ _ _ _
      refine retPv_mk rfl rfl rfl ⟨?_, rfl⟩
      refine (congrArg (fun b => [bo b]) (?_ : _ = _) : [bo _] = [bo _])
      exact bF fun h => absurd h.1 (by assumption)


theorem isBelow_sat {nl0 : Option Bool} {bases : List (List Int)} {a : Int} {b : Int} (hbases : bases.length < 1000000000) (hlbases : ∀ l ∈ bases, l.length < 1000000000)  : SatAt Try.prog 78 [.pv false (.sl nl0 1 (bases.map ints)), i64 a, i64 b] [] (fun res rows => res = [bo (decide (b ∈ abvR bases a))] ∧ rows = []) := by
  refine sat_entry (ts := [6]) Try.func78 rfl rfl (by decide) (Nat.le_of_ble_eq_true rfl) fun C hC => ?_
  rw [Try.ntmps78]
  replace hC : C.nb = 0 := hC
  refine vc_seq fun K1 hK1 => ?_
  refine vc_region ?_
  refine vo_assign_pv rfl rfl ?_
  refine vo_nil ?_
  refine hK1 _ ?_
  refine vc_seq fun K2 hK2 => ?_
  refine vc_region ?_
  refine vo_move_pv rfl rfl ?_
  refine vo_move_pv rfl rfl ?_
  refine vo_call [] Try.func42 rfl rfl rfl rfl rfl rfl rfl (implAboveOf_sat hbases hlbases) ?_
  rintro _ _ ⟨nl9, rfl, rfl⟩
  refine ⟨Nat.le_of_ble_eq_true rfl, ⟨rfl, rfl, rfl⟩, .inl rfl, ?_⟩
  refine vo_st (by (try simp only [St.put, exposeE, killE, SV.expose, SV.kill, Row.expose, Row.kill, rowsAfter_nil, rowsAfter_one, packS, SV.shift, placeOf, enumE, List.zip_cons_cons, List.zip_nil_right, List.map_cons, List.map_nil, List.set_cons_zero, List.set_cons_succ, List.length_cons, List.length_nil, List.cons_append, List.nil_append, List.drop_succ_cons, List.drop_zero, List.drop_nil, List.take_succ_cons, List.take_zero, List.take_nil, List.getElem?_cons_zero, List.getElem?_cons_succ, List.getElem?_nil, Option.getD_some, Option.getD_none, Option.map_some, Option.map_none, Nat.reduceAdd, Nat.reduceSub, Nat.reduceEqDiff, Nat.zero_add, Bool.true_or, PV.scal, Bool.or_false, Bool.or_true, Bool.false_or, Bool.and_true, Bool.and_false, Bool.true_and, reduceIte, reduceCtorEq]); exact eq_refl _) ?_
  refine vo_move_pv rfl rfl ?_
  refine vo_call0 Try.func82 rfl rfl rfl rfl (Contains_sat (s := abvR bases a) (abvR_len hbases)) ?_
  rintro _ _ ⟨rfl, rfl⟩
  refine ⟨rfl, rfl, .inr rfl, ?_⟩
  refine vo_assign_pv rfl rfl ?_
  refine vo_nil ?_
  refine hK2 _ ?_
  refine vc_ret ?_
  change retPv _ _ _ _ _
  refine retPv_mk rfl rfl rfl ⟨?_, rfl⟩
  refine (congrArg (fun b => [bo b]) (?_ : _ = _) : [bo _] = [bo _])
  rfl


theorem areApart_sat {nl0 : Option Bool} {bases : List (List Int)} {a : Int} {b : Int} (hbases : bases.length < 1000000000) (hlbases : ∀ l ∈ bases, l.length < 1000000000)  : SatAt Try.prog 63 [.pv false (.sl nl0 1 (bases.map ints)), i64 a, i64 b] [] (fun res rows => res = [bo (decide (¬ b ∈ abvR bases a ∧ ¬ a ∈ abvR bases b))] ∧ rows = []) := by
  refine sat_entry (ts := [6]) Try.func63 rfl rfl (by decide) (Nat.le_of_ble_eq_true rfl) fun C hC => ?_
  rw [Try.ntmps63]
  replace hC : C.nb = 0 := hC
  refine vc_seq fun K1 hK1 => ?_
  refine vc_region ?_
  refine vo_assign_pv rfl rfl ?_
  refine vo_nil ?_
  refine hK1 _ ?_
  refine vc_seq fun K2 hK2 => ?_
  refine vc_region ?_
  refine vo_move_pv rfl rfl ?_
  refine vo_move_pv rfl rfl ?_
  refine vo_move_pv rfl rfl ?_
  refine vo_call0 Try.func78 rfl rfl rfl rfl (isBelow_sat hbases hlbases) ?_
  rintro _ _ ⟨rfl, rfl⟩
  refine ⟨rfl, rfl, .inl rfl, ?_⟩
  refine vo_not rfl rfl ?_
  refine vo_move_pv rfl rfl ?_
  refine vo_split 12 rfl (fun hg1 => ?_) (fun hg1 => ?_)
  · try simp only [decide_eq_true_eq, decide_eq_false_iff_not, beq_iff_eq, bne_iff_ne, beq_eq_false_iff_ne, bne_eq_false_iff_eq, Bool.not_eq_true, Bool.not_eq_false, Bool.not_eq_eq_eq_not, Bool.not_true, Bool.not_false, List.length_map, Int.not_lt, Int.not_le, ne_eq, Decidable.not_not] at hg1
    refine vo_guard_on rfl rfl rfl ?_
    refine vo_move_pv rfl rfl ?_
    refine vo_guard_on rfl rfl rfl ?_
    refine vo_move_pv rfl rfl ?_
    refine vo_guard_on rfl rfl rfl ?_
    refine vo_move_pv rfl rfl ?_
    refine vo_guard_on rfl rfl rfl ?_
    refine vo_call0 Try.func78 rfl rfl rfl rfl (isBelow_sat hbases hlbases) ?_
    rintro _ _ ⟨rfl, rfl⟩
    refine ⟨rfl, rfl, .inl rfl, ?_⟩
    refine vo_guard_on rfl rfl rfl ?_
    refine vo_not rfl rfl ?_
    refine vo_pick_t rfl rfl ?_
    refine vo_assign_pv rfl rfl ?_
    refine vo_nil ?_
    refine hK2 _ ?_
    refine vc_ret ?_
    change retPv _ _ _ _ _
    refine retPv_mk rfl rfl rfl ⟨?_, rfl⟩
    refine (congrArg (fun b => [bo b]) (?_ : _ = _) : [bo _] = [bo _])
    simp_all
  · try simp only [decide_eq_true_eq, decide_eq_false_iff_not, beq_iff_eq, bne_iff_ne, beq_eq_false_iff_ne, bne_eq_false_iff_eq, Bool.not_eq_true, Bool.not_eq_false, Bool.not_eq_eq_eq_not, Bool.not_true, Bool.not_false, List.length_map, Int.not_lt, Int.not_le, ne_eq, Decidable.not_not] at hg1
    refine vo_guard_off rfl rfl rfl rfl rfl ?_
    refine vo_guard_off rfl rfl rfl rfl rfl ?_
    refine vo_guard_off rfl rfl rfl rfl rfl ?_
    refine vo_guard_off rfl rfl rfl rfl rfl ?_
    refine vo_guard_off rfl rfl rfl rfl rfl ?_
    refine vo_pick_f rfl rfl ?_
    refine vo_assign_pv rfl rfl ?_
    refine vo_nil ?_
    refine hK2 _ ?_
    refine vc_ret ?_
    change retPv _ _ _ _ _
    refine retPv_mk rfl rfl rfl ⟨?_, rfl⟩
    refine (congrArg (fun b => [bo b]) (?_ : _ = _) : [bo _] = [bo _])
    simp_all


theorem implOneChain_sat {nl0 : Option Bool} {bases : List (List Int)} {nl1 : Option Bool} {slots : List (List Int)} (hbases : bases.length < 1000000000) (hlbases : ∀ l ∈ bases, l.length < 1000000000) (hslots : slots.length < 1000000000) (hlslots : ∀ l ∈ slots, l.length < 1000000000)  : SatAt Try.prog 48 [.pv false (.sl nl0 1 (bases.map ints)), .pv false (.sl nl1 1 (slots.map ints))] [] (fun res rows => res = [bo (decide (OC bases slots))] ∧ rows = []) := by
  refine sat_entry (ts := [4]) Try.func48 rfl rfl (by decide) (Nat.le_of_ble_eq_true rfl) fun C hC => ?_
  rw [Try.ntmps48]
  replace hC : C.nb = 0 := hC
  refine vc_seq fun K1 hK1 => ?_
  refine vc_region ?_
  refine vo_assign_pv rfl rfl ?_
  refine vo_nil ?_
  refine hK1 _ ?_
  refine vc_seq fun K2 hK2 => ?_
  refine vc_seq fun K3 hK3 => ?_
  refine vc_region ?_
  refine vo_move_pv rfl rfl ?_
  refine vo_move_pv rfl rfl ?_
  refine vo_call0 Try.func44 rfl rfl rfl rfl (implValidSlots_sat hbases hlbases hslots hlslots) ?_
  rintro _ _ ⟨rfl, rfl⟩
  refine ⟨rfl, rfl, .inl rfl, ?_⟩
  refine vo_not rfl rfl ?_
  refine vo_nil ?_
  refine hK3 _ ?_
  refine vc_cond rfl (fun hc1 => ?_) (fun hc1 => ?_)
  · try simp only [decide_eq_true_eq, decide_eq_false_iff_not, beq_iff_eq, bne_iff_ne, beq_eq_false_iff_ne, bne_eq_false_iff_eq, Bool.not_eq_true, Bool.not_eq_false, Bool.not_eq_eq_eq_not, Bool.not_true, Bool.not_false, List.length_map, Int.not_lt, Int.not_le, ne_eq, Decidable.not_not] at hc1
    refine vc_seq fun K4 hK4 => ?_
    refine vc_region ?_
    refine vo_assign_pv rfl rfl ?_
    refine vo_nil ?_
    refine hK4 _ ?_
    refine vc_ret ?_
    change retPv _ _ _ _ _
    refine retPv_mk rfl rfl rfl ⟨?_, rfl⟩
    refine (congrArg (fun b => [bo b]) (?_ : _ = _) : [bo _] = [bo _])
    exact bF fun h => hc1 h.1
  · try simp only [decide_eq_true_eq, decide_eq_false_iff_not, beq_iff_eq, bne_iff_ne, beq_eq_false_iff_ne, bne_eq_false_iff_eq, Bool.not_eq_true, Bool.not_eq_false, Bool.not_eq_eq_eq_not, Bool.not_true, Bool.not_false, List.length_map, Int.not_lt, Int.not_le, ne_eq, Decidable.not_not] at hc1
    have hsl := hc1.2.1
    refine vc_skip ?_
    refine hK2 _ ?_
    refine vc_seq fun K5 hK5 => ?_
    refine vc_seq fun K6 hK6 => ?_
    refine vc_region ?_
    refine vo_move_pv rfl rfl ?_
    refine vo_len_pv rfl rfl Try.underlying22 ?_
    refine vo_move_pv rfl rfl ?_
    refine vo_nil ?_
    refine hK6 _ ?_
    refine vc_block ?_
    refine vc_st (by (try simp only [St.put, exposeE, killE, SV.expose, SV.kill, Row.expose, Row.kill, rowsAfter_nil, rowsAfter_one, packS, SV.shift, placeOf, enumE, List.zip_cons_cons, List.zip_nil_right, List.map_cons, List.map_nil, List.set_cons_zero, List.set_cons_succ, List.length_cons, List.length_nil, List.cons_append, List.nil_append, List.drop_succ_cons, List.drop_zero, List.drop_nil, List.take_succ_cons, List.take_zero, List.take_nil, List.getElem?_cons_zero, List.getElem?_cons_succ, List.getElem?_nil, Option.getD_some, Option.getD_none, Option.map_some, Option.map_none, Nat.reduceAdd, Nat.reduceSub, Nat.reduceEqDiff, Nat.zero_add, Bool.true_or, PV.scal, Bool.or_false, Bool.or_true, Bool.false_or, Bool.and_true, Bool.and_false, Bool.true_and, reduceIte, reduceCtorEq]); exact eq_refl _) ?_
    refine vc_loopF [0, 1, 12] [13] [.pv false (.sl nl0 1 (bases.map ints)), .pv false (.sl nl1 1 (slots.map ints)), i64 (slots.map ints).length] _ (fun mz vs => ∃ (k : Nat), mz = slots.length - k ∧ (k ≤ slots.length) ∧ (∀ j, j < k → ∀ i, i < j → (slots.getD i []).length > 0 → (slots.getD j []).length > 0 → (i : Int) ∈ abvL bases j) ∧ vs = [i64 k]) (slots.length) rfl rfl (le_len hC rfl) ⟨rfl, rfl, rfl⟩ ⟨0, rfl, Nat.zero_le _, (fun j h => by omega), rfl⟩ ?_
    rintro mz vs - ⟨k, rfl, hk, hf, rfl⟩
    refine vc_st (by (try simp only [St.put, exposeE, killE, SV.expose, SV.kill, Row.expose, Row.kill, rowsAfter_nil, rowsAfter_one, packS, SV.shift, placeOf, enumE, List.zip_cons_cons, List.zip_nil_right, List.map_cons, List.map_nil, List.set_cons_zero, List.set_cons_succ, List.length_cons, List.length_nil, List.cons_append, List.nil_append, List.drop_succ_cons, List.drop_zero, List.drop_nil, List.take_succ_cons, List.take_zero, List.take_nil, List.getElem?_cons_zero, List.getElem?_cons_succ, List.getElem?_nil, Option.getD_some, Option.getD_none, Option.map_some, Option.map_none, Nat.reduceAdd, Nat.reduceSub, Nat.reduceEqDiff, Nat.zero_add, Bool.true_or, PV.scal, Bool.or_false, Bool.or_true, Bool.false_or, Bool.and_true, Bool.and_false, Bool.true_and, reduceIte, reduceCtorEq]); exact eq_refl _) ?_
    refine vc_seq fun K7 hK7 => ?_
    refine vc_region ?_
    refine vo_binI rfl rfl rfl rfl trivial ?_
    refine vo_nil ?_
    refine hK7 _ ?_
    refine vc_seq fun K8 hK8 => ?_
    refine vc_cond rfl (fun hc2 => ?_) (fun hc2 => ?_)
    · try simp only [decide_eq_true_eq, decide_eq_false_iff_not, beq_iff_eq, bne_iff_ne, beq_eq_false_iff_ne, bne_eq_false_iff_eq, Bool.not_eq_true, Bool.not_eq_false, Bool.not_eq_eq_eq_not, Bool.not_true, Bool.not_false, List.length_map, Int.not_lt, Int.not_le, ne_eq, Decidable.not_not] at hc2
      refine vc_skip ?_
      refine hK8 _ ?_
      refine vc_seq fun K9 hK9 => ?_
      refine vc_block ?_
      refine vc_seq fun K10 hK10 => ?_
      refine vc_region ?_
      refine vo_move_pv rfl rfl ?_
      refine vo_assign_pv rfl rfl ?_
      refine vo_nil ?_
      refine hK10 _ ?_
      refine vc_seq fun K11 hK11 => ?_
      refine vc_region ?_
      refine vo_move_pv rfl rfl ?_
      refine vo_move_pv rfl rfl ?_
      refine vo_nil ?_
      refine hK11 _ ?_
      refine vc_block ?_
      refine vc_st (by (try simp only [St.put, exposeE, killE, SV.expose, SV.kill, Row.expose, Row.kill, rowsAfter_nil, rowsAfter_one, packS, SV.shift, placeOf, enumE, List.zip_cons_cons, List.zip_nil_right, List.map_cons, List.map_nil, List.set_cons_zero, List.set_cons_succ, List.length_cons, List.length_nil, List.cons_append, List.nil_append, List.drop_succ_cons, List.drop_zero, List.drop_nil, List.take_succ_cons, List.take_zero, List.take_nil, List.getElem?_cons_zero, List.getElem?_cons_succ, List.getElem?_nil, Option.getD_some, Option.getD_none, Option.map_some, Option.map_none, Nat.reduceAdd, Nat.reduceSub, Nat.reduceEqDiff, Nat.zero_add, Bool.true_or, PV.scal, Bool.or_false, Bool.or_true, Bool.false_or, Bool.and_true, Bool.and_false, Bool.true_and, reduceIte, reduceCtorEq]); exact eq_refl _) ?_
      refine vc_loopF [0, 1, 5, 12, 13, 16] [17] [.pv false (.sl nl0 1 (bases.map ints)), .pv false (.sl nl1 1 (slots.map ints)), i64 k, i64 (slots.map ints).length, i64 k, i64 k] _ (fun mz vs => ∃ (j : Nat), mz = k - j ∧ (j ≤ k) ∧ (∀ i, i < j → (slots.getD i []).length > 0 → (slots.getD k []).length > 0 → (i : Int) ∈ abvL bases k) ∧ vs = [i64 j]) (k) rfl rfl (le_len hC rfl) ⟨rfl, rfl, rfl⟩ ⟨0, rfl, Nat.zero_le _, (fun i h => by omega), rfl⟩ ?_
      rintro mz vs - ⟨j, rfl, hk, hf2, rfl⟩
      refine vc_st (by (try simp only [St.put, exposeE, killE, SV.expose, SV.kill, Row.expose, Row.kill, rowsAfter_nil, rowsAfter_one, packS, SV.shift, placeOf, enumE, List.zip_cons_cons, List.zip_nil_right, List.map_cons, List.map_nil, List.set_cons_zero, List.set_cons_succ, List.length_cons, List.length_nil, List.cons_append, List.nil_append, List.drop_succ_cons, List.drop_zero, List.drop_nil, List.take_succ_cons, List.take_zero, List.take_nil, List.getElem?_cons_zero, List.getElem?_cons_succ, List.getElem?_nil, Option.getD_some, Option.getD_none, Option.map_some, Option.map_none, Nat.reduceAdd, Nat.reduceSub, Nat.reduceEqDiff, Nat.zero_add, Bool.true_or, PV.scal, Bool.or_false, Bool.or_true, Bool.false_or, Bool.and_true, Bool.and_false, Bool.true_and, reduceIte, reduceCtorEq]); exact eq_refl _) ?_
      refine vc_seq fun K12 hK12 => ?_
      refine vc_region ?_
      refine vo_binI rfl rfl rfl rfl trivial ?_
      refine vo_nil ?_
      refine hK12 _ ?_
      refine vc_seq fun K13 hK13 => ?_
      refine vc_cond rfl (fun hc3 => ?_) (fun hc3 => ?_)
      · try simp only [decide_eq_true_eq, decide_eq_false_iff_not, beq_iff_eq, bne_iff_ne, beq_eq_false_iff_ne, bne_eq_false_iff_eq, Bool.not_eq_true, Bool.not_eq_false, Bool.not_eq_eq_eq_not, Bool.not_true, Bool.not_false, List.length_map, Int.not_lt, Int.not_le, ne_eq, Decidable.not_not] at hc3
        refine vc_skip ?_
        refine hK13 _ ?_
        refine vc_seq fun K14 hK14 => ?_
        refine vc_block ?_
        refine vc_seq fun K15 hK15 => ?_
        refine vc_region ?_
        refine vo_move_pv rfl rfl ?_
        refine vo_assign_pv rfl rfl ?_
        refine vo_nil ?_
        refine hK15 _ ?_
        refine vc_seq fun K16 hK16 => ?_
        refine vc_region ?_
        refine vo_move_pv rfl rfl ?_
        refine vo_move_pv rfl rfl ?_
        refine vo_index_pv (.sl none 1 []) rfl rfl rfl E22.und inf37 sz37 (by first | omega | (simp only [List.length_map] <;> omega) | (simp only [List.length_map, List.length_set, List.length_append, List.length_cons, List.length_nil, List.length_replicate, List.length_take, List.length_drop] <;> omega) | (simp <;> omega) | (constructor <;> (first | omega | (simp <;> omega))) | (refine ⟨?_, ?_, ?_, ?_⟩ <;> omega) | exact ⟨xorI_nonneg _ _, by omega⟩ | decide) (by first | omega | (simp only [List.length_map] <;> omega) | (simp only [List.length_map, List.length_set, List.length_append, List.length_cons, List.length_nil, List.length_replicate, List.length_take, List.length_drop] <;> omega) | (simp <;> omega) | (constructor <;> (first | omega | (simp <;> omega))) | (refine ⟨?_, ?_, ?_, ?_⟩ <;> omega) | exact ⟨xorI_nonneg _ _, by omega⟩ | decide) ?_
        simp only [Int.toNat_natCast, Int.toNat_zero, getD_ints, getD_intss, getD_bools, getD_bytes, PV.cells]
        refine vo_load_adr rfl rfl Try.underlying37 rfl ?_
        refine vo_len_pv rfl rfl Try.underlying37 ?_
        refine vo_binI rfl rfl rfl rfl trivial ?_
        refine vo_move_pv rfl rfl ?_
        refine vo_split 26 rfl (fun hg4 => ?_) (fun hg4 => ?_)
        · try simp only [decide_eq_true_eq, decide_eq_false_iff_not, beq_iff_eq, bne_iff_ne, beq_eq_false_iff_ne, bne_eq_false_iff_eq, Bool.not_eq_true, Bool.not_eq_false, Bool.not_eq_eq_eq_not, Bool.not_true, Bool.not_false, List.length_map, Int.not_lt, Int.not_le, ne_eq, Decidable.not_not] at hg4
          refine vo_guard_on rfl rfl rfl ?_
          refine vo_move_pv rfl rfl ?_
          refine vo_guard_on rfl rfl rfl ?_
          refine vo_move_pv rfl rfl ?_
          refine vo_guard_on rfl rfl rfl ?_
          refine vo_index_pv (.sl none 1 []) rfl rfl rfl E22.und inf37 sz37 (by first | omega | (simp only [List.length_map] <;> omega) | (simp only [List.length_map, List.length_set, List.length_append, List.length_cons, List.length_nil, List.length_replicate, List.length_take, List.length_drop] <;> omega) | (simp <;> omega) | (constructor <;> (first | omega | (simp <;> omega))) | (refine ⟨?_, ?_, ?_, ?_⟩ <;> omega) | exact ⟨xorI_nonneg _ _, by omega⟩ | decide) (by first | omega | (simp only [List.length_map] <;> omega) | (simp only [List.length_map, List.length_set, List.length_append, List.length_cons, List.length_nil, List.length_replicate, List.length_take, List.length_drop] <;> omega) | (simp <;> omega) | (constructor <;> (first | omega | (simp <;> omega))) | (refine ⟨?_, ?_, ?_, ?_⟩ <;> omega) | exact ⟨xorI_nonneg _ _, by omega⟩ | decide) ?_
          simp only [Int.toNat_natCast, Int.toNat_zero, getD_ints, getD_intss, getD_bools, getD_bytes, PV.cells]
          refine vo_guard_on rfl rfl rfl ?_
          refine vo_load_adr rfl rfl Try.underlying37 rfl ?_
          refine vo_guard_on rfl rfl rfl ?_
          refine vo_len_pv rfl rfl Try.underlying37 ?_
          refine vo_guard_on rfl rfl rfl ?_
          refine vo_binI rfl rfl rfl rfl trivial ?_
          refine vo_pick_t rfl rfl ?_
          refine vo_move_pv rfl rfl ?_
          refine vo_split 34 rfl (fun hg5 => ?_) (fun hg5 => ?_)
          · try simp only [decide_eq_true_eq, decide_eq_false_iff_not, beq_iff_eq, bne_iff_ne, beq_eq_false_iff_ne, bne_eq_false_iff_eq, Bool.not_eq_true, Bool.not_eq_false, Bool.not_eq_eq_eq_not, Bool.not_true, Bool.not_false, List.length_map, Int.not_lt, Int.not_le, ne_eq, Decidable.not_not] at hg5
            refine vo_guard_on rfl rfl rfl ?_
            refine vo_move_pv rfl rfl ?_
            refine vo_guard_on rfl rfl rfl ?_
            refine vo_move_pv rfl rfl ?_
            refine vo_guard_on rfl rfl rfl ?_
            refine vo_move_pv rfl rfl ?_
            refine vo_guard_on rfl rfl rfl ?_
            refine vo_call0 Try.func63 rfl rfl rfl rfl (areApart_sat hbases hlbases) ?_
            rintro _ _ ⟨rfl, rfl⟩
            refine ⟨rfl, rfl, .inl rfl, ?_⟩
            refine vo_pick_t rfl rfl ?_
            refine vo_nil ?_
            refine hK16 _ ?_
            refine vc_cond rfl (fun hc6 => ?_) (fun hc6 => ?_)
            · try simp only [decide_eq_true_eq, decide_eq_false_iff_not, beq_iff_eq, bne_iff_ne, beq_eq_false_iff_ne, bne_eq_false_iff_eq, Bool.not_eq_true, Bool.not_eq_false, Bool.not_eq_eq_eq_not, Bool.not_true, Bool.not_false, List.length_map, Int.not_lt, Int.not_le, ne_eq, Decidable.not_not] at hc6
              refine vc_seq fun K17 hK17 => ?_
              refine vc_region ?_
              refine vo_assign_pv rfl rfl ?_
              refine vo_nil ?_
              refine hK17 _ ?_
              refine vc_ret ?_
              change retPv _ _ _ _ _
              refine retPv_mk rfl rfl rfl ⟨?_, rfl⟩
              refine (congrArg (fun b => [bo b]) (?_ : _ = _) : [bo _] = [bo _])
              exact bF fun h => absurd (h.2 k (by omega) j (by omega) (by omega) (by omega)) ((apart_iff hc1.1 (by omega) (by omega)).1 (by assumption))
            · try simp only [decide_eq_true_eq, decide_eq_false_iff_not, beq_iff_eq, bne_iff_ne, beq_eq_false_iff_ne, bne_eq_false_iff_eq, Bool.not_eq_true, Bool.not_eq_false, Bool.not_eq_eq_eq_not, Bool.not_true, Bool.not_false, List.length_map, Int.not_lt, Int.not_le, ne_eq, Decidable.not_not] at hc6
              refine vc_skip ?_
              refine hK14 _ ?_
              refine vc_region ?_
              refine vo_binI rfl rfl rfl rfl (by first | omega | (simp only [List.length_map] <;> omega) | (simp only [List.length_map, List.length_set, List.length_append, List.length_cons, List.length_nil, List.length_replicate, List.length_take, List.length_drop] <;> omega) | (simp <;> omega) | (constructor <;> (first | omega | (simp <;> omega))) | (refine ⟨?_, ?_, ?_, ?_⟩ <;> omega) | exact ⟨xorI_nonneg _ _, by omega⟩ | decide) ?_
              refine vo_move_pv rfl rfl ?_
              refine vo_nil ?_
              change againF _ _ _ _ _ _ _ _ _
              refine againF_mk rfl rfl rfl rfl rfl rfl ⟨_, ?_, j + 1, rfl, ?_, ?_, rfl⟩
              · omega
              · omega
              · intro i hi h1 h2; rcases Nat.lt_or_ge i j with h | h; exact hf2 i h h1 h2; rw [show i = j by omega] at h1 ⊢; exact Decidable.not_not.1 (fun hn => absurd ((apart_iff hc1.1 (by omega) (by omega)).2 hn) (by assumption))
          · try simp only [decide_eq_true_eq, decide_eq_false_iff_not, beq_iff_eq, bne_iff_ne, beq_eq_false_iff_ne, bne_eq_false_iff_eq, Bool.not_eq_true, Bool.not_eq_false, Bool.not_eq_eq_eq_not, Bool.not_true, Bool.not_false, List.length_map, Int.not_lt, Int.not_le, ne_eq, Decidable.not_not] at hg5
            refine vo_guard_off rfl rfl rfl rfl rfl ?_
            refine vo_guard_off rfl rfl rfl rfl rfl ?_
            refine vo_guard_off rfl rfl rfl rfl rfl ?_
            refine vo_guard_off rfl rfl rfl rfl rfl ?_
            refine vo_pick_f rfl rfl ?_
            refine vo_nil ?_
            refine hK16 _ ?_
            refine vc_cond_f rfl ?_
            refine vc_skip ?_
            refine hK14 _ ?_
            refine vc_region ?_
            refine vo_binI rfl rfl rfl rfl (by first | omega | (simp only [List.length_map] <;> omega) | (simp only [List.length_map, List.length_set, List.length_append, List.length_cons, List.length_nil, List.length_replicate, List.length_take, List.length_drop] <;> omega) | (simp <;> omega) | (constructor <;> (first | omega | (simp <;> omega))) | (refine ⟨?_, ?_, ?_, ?_⟩ <;> omega) | exact ⟨xorI_nonneg _ _, by omega⟩ | decide) ?_
            refine vo_move_pv rfl rfl ?_
            refine vo_nil ?_
            change againF _ _ _ _ _ _ _ _ _
            refine againF_mk rfl rfl rfl rfl rfl rfl ⟨_, ?_, j + 1, rfl, ?_, ?_, rfl⟩
            · omega
            · omega
            · intro i hi h1 h2; rcases Nat.lt_or_ge i j with h | h; exact hf2 i h h1 h2; rw [show i = j by omega] at h1 ⊢; omega
        · try simp only [decide_eq_true_eq, decide_eq_false_iff_not, beq_iff_eq, bne_iff_ne, beq_eq_false_iff_ne, bne_eq_false_iff_eq, Bool.not_eq_true, Bool.not_eq_false, Bool.not_eq_eq_eq_not, Bool.not_true, Bool.not_false, List.length_map, Int.not_lt, Int.not_le, ne_eq, Decidable.not_not] at hg4
          refine vo_guard_off rfl rfl rfl rfl rfl ?_
          refine vo_guard_off rfl rfl rfl rfl rfl ?_
          refine vo_guard_off rfl rfl rfl rfl rfl ?_
          refine vo_guard_off rfl rfl rfl rfl rfl ?_
          refine vo_guard_off rfl rfl rfl rfl rfl ?_
          refine vo_guard_off rfl rfl rfl rfl rfl ?_
          refine vo_pick_f rfl rfl ?_
          refine vo_move_pv rfl rfl ?_
          refine vo_guard_off rfl rfl rfl rfl rfl ?_
          refine vo_guard_off rfl rfl rfl rfl rfl ?_
          refine vo_guard_off rfl rfl rfl rfl rfl ?_
          refine vo_guard_off rfl rfl rfl rfl rfl ?_
          refine vo_pick_f rfl rfl ?_
          refine vo_nil ?_
          refine hK16 _ ?_
          refine vc_cond_f rfl ?_
          refine vc_skip ?_
          refine hK14 _ ?_
          refine vc_region ?_
          refine vo_binI rfl rfl rfl rfl (by first | omega | (simp only [List.length_map] <;> omega) | (simp only [List.length_map, List.length_set, List.length_append, List.length_cons, List.length_nil, List.length_replicate, List.length_take, List.length_drop] <;> omega) | (simp <;> omega) | (constructor <;> (first | omega | (simp <;> omega))) | (refine ⟨?_, ?_, ?_, ?_⟩ <;> omega) | exact ⟨xorI_nonneg _ _, by omega⟩ | decide) ?_
          refine vo_move_pv rfl rfl ?_
          refine vo_nil ?_
          change againF _ _ _ _ _ _ _ _ _
          refine againF_mk rfl rfl rfl rfl rfl rfl ⟨_, ?_, j + 1, rfl, ?_, ?_, rfl⟩
          · omega
          · omega
          · intro i hi h1 h2; rcases Nat.lt_or_ge i j with h | h; exact hf2 i h h1 h2; rw [show i = j by omega] at h1 ⊢; omega
      · try simp only [decide_eq_true_eq, decide_eq_false_iff_not, beq_iff_eq, bne_iff_ne, beq_eq_false_iff_ne, bne_eq_false_iff_eq, Bool.not_eq_true, Bool.not_eq_false, Bool.not_eq_eq_eq_not, Bool.not_true, Bool.not_false, List.length_map, Int.not_lt, Int.not_le, ne_eq, Decidable.not_not] at hc3
        refine vc_exit ?_
        refine hK9 _ ?_
        refine vc_region ?_
        refine vo_binI rfl rfl rfl rfl (by first | omega | (simp only [List.length_map] <;> omega) | (simp only [List.length_map, List.length_set, List.length_append, List.length_cons, List.length_nil, List.length_replicate, List.length_take, List.length_drop] <;> omega) | (simp <;> omega) | (constructor <;> (first | omega | (simp <;> omega))) | (refine ⟨?_, ?_, ?_, ?_⟩ <;> omega) | exact ⟨xorI_nonneg _ _, by omega⟩ | decide) ?_
        refine vo_move_pv rfl rfl ?_
        refine vo_nil ?_
        change againF _ _ _ _ _ _ _ _ _
        refine againF_mk rfl rfl rfl rfl rfl rfl ⟨_, ?_, k + 1, rfl, ?_, ?_, rfl⟩
        · omega
        · omega
        · intro j hj i hi; rcases Nat.lt_or_ge j k with h | h; exact hf j h i hi; rw [show j = k by omega] at hi ⊢; exact hf2 i (by omega)
    · try simp only [decide_eq_true_eq, decide_eq_false_iff_not, beq_iff_eq, bne_iff_ne, beq_eq_false_iff_ne, bne_eq_false_iff_eq, Bool.not_eq_true, Bool.not_eq_false, Bool.not_eq_eq_eq_not, Bool.not_true, Bool.not_false, List.length_map, Int.not_lt, Int.not_le, ne_eq, Decidable.not_not] at hc2
      refine vc_exit ?_
      refine hK5 _ ?_
      refine vc_seq fun K18 hK18 => ?_
      refine vc_region ?_
      refine vo_assign_pv rfl rfl ?_
      refine vo_nil ?_
      refine hK18 _ ?_
      refine vc_ret ?_
      change retPv _ _ _ _ _
      refine retPv_mk rfl rfl rfl ⟨?_, rfl⟩
      refine (congrArg (fun b => [bo b]) (?_ : _ = _) : [bo _] = [bo _])
      exact bT ⟨hc1, fun j hj => hf j (by omega)⟩


theorem specOneChain_sat {nl0 : Option Bool} {bases : List (List Int)} {nl1 : Option Bool} {slots : List (List Int)} (hbases : bases.length < 1000000000) (hlbases : ∀ l ∈ bases, l.length < 1000000000) (hslots : slots.length < 1000000000) (hlslots : ∀ l ∈ slots, l.length < 1000000000)  : SatAt Try.prog 49 [.pv false (.sl nl0 1 (bases.map ints)), .pv false (.sl nl1 1 (slots.map ints))] [] (fun res rows => res = [bo (decide (OC bases slots))] ∧ rows = []) := by
  refine sat_entry (ts := [4]) Try.func49 rfl rfl (by decide) (Nat.le_of_ble_eq_true rfl) fun C hC => ?_
  rw [Try.ntmps49]
  replace hC : C.nb = 0 := hC
  refine vc_seq fun K1 hK1 => ?_
  refine vc_region ?_
  refine vo_assign_pv rfl rfl ?_
  refine vo_nil ?_
  refine hK1 _ ?_
  refine vc_seq fun K2 hK2 => ?_
  refine vc_seq fun K3 hK3 => ?_
  refine vc_region ?_
  refine vo_move_pv rfl rfl ?_
  refine vo_move_pv rfl rfl ?_
  refine vo_call0 Try.func73 rfl rfl rfl rfl (validSlots_sat hbases hlbases hslots hlslots) ?_
  rintro _ _ ⟨rfl, rfl⟩
  refine ⟨rfl, rfl, .inl rfl, ?_⟩
  refine vo_not rfl rfl ?_
  refine vo_nil ?_
  refine hK3 _ ?_
  refine vc_cond rfl (fun hc1 => ?_) (fun hc1 => ?_)
  · try simp only [decide_eq_true_eq, decide_eq_false_iff_not, beq_iff_eq, bne_iff_ne, beq_eq_false_iff_ne, bne_eq_false_iff_eq, Bool.not_eq_true, Bool.not_eq_false, Bool.not_eq_eq_eq_not, Bool.not_true, Bool.not_false, List.length_map, Int.not_lt, Int.not_le, ne_eq, Decidable.not_not] at hc1
    refine vc_seq fun K4 hK4 => ?_
    refine vc_region ?_
    refine vo_assign_pv rfl rfl ?_
    refine vo_nil ?_
    refine hK4 _ ?_
    refine vc_ret ?_
    change retPv _ _ _ _ _
    refine retPv_mk rfl rfl rfl ⟨?_, rfl⟩
    refine (congrArg (fun b => [bo b]) (?_ : _ = _) : [bo _] = [bo _])
    exact bF fun h => hc1 h.1
  · try simp only [decide_eq_true_eq, decide_eq_false_iff_not, beq_iff_eq, bne_iff_ne, beq_eq_false_iff_ne, bne_eq_false_iff_eq, Bool.not_eq_true, Bool.not_eq_false, Bool.not_eq_eq_eq_not, Bool.not_true, Bool.not_false, List.length_map, Int.not_lt, Int.not_le, ne_eq, Decidable.not_not] at hc1
    have hsl := hc1.2.1
    refine vc_skip ?_
    refine hK2 _ ?_
    refine vc_seq fun K5 hK5 => ?_
    refine vc_seq fun K6 hK6 => ?_
    refine vc_region ?_
    refine vo_assign_pv rfl rfl ?_
    refine vo_nil ?_
    refine hK6 _ ?_
    refine vc_block ?_
    refine vc_st (by (try simp only [St.put, exposeE, killE, SV.expose, SV.kill, Row.expose, Row.kill, rowsAfter_nil, rowsAfter_one, packS, SV.shift, placeOf, enumE, List.zip_cons_cons, List.zip_nil_right, List.map_cons, List.map_nil, List.set_cons_zero, List.set_cons_succ, List.length_cons, List.length_nil, List.cons_append, List.nil_append, List.drop_succ_cons, List.drop_zero, List.drop_nil, List.take_succ_cons, List.take_zero, List.take_nil, List.getElem?_cons_zero, List.getElem?_cons_succ, List.getElem?_nil, Option.getD_some, Option.getD_none, Option.map_some, Option.map_none, Nat.reduceAdd, Nat.reduceSub, Nat.reduceEqDiff, Nat.zero_add, Bool.true_or, PV.scal, Bool.or_false, Bool.or_true, Bool.false_or, Bool.and_true, Bool.and_false, Bool.true_and, reduceIte, reduceCtorEq]); exact eq_refl _) ?_
    refine vc_loopF [0, 1] [5] [.pv false (.sl nl0 1 (bases.map ints)), .pv false (.sl nl1 1 (slots.map ints))] _ (fun mz vs => ∃ (k : Nat), mz = bases.length - k ∧ (k ≤ bases.length) ∧ (∀ j, j < k → ∀ i, i < j → (slots.getD i []).length > 0 → (slots.getD j []).length > 0 → (i : Int) ∈ abvL bases j) ∧ vs = [i64 k]) (bases.length) rfl rfl (le_len hC rfl) ⟨rfl, rfl, rfl⟩ ⟨0, rfl, Nat.zero_le _, (fun j h => by omega), rfl⟩ ?_
    rintro mz vs - ⟨k, rfl, hk, hf, rfl⟩
    refine vc_st (by (try simp only [St.put, exposeE, killE, SV.expose, SV.kill, Row.expose, Row.kill, rowsAfter_nil, rowsAfter_one, packS, SV.shift, placeOf, enumE, List.zip_cons_cons, List.zip_nil_right, List.map_cons, List.map_nil, List.set_cons_zero, List.set_cons_succ, List.length_cons, List.length_nil, List.cons_append, List.nil_append, List.drop_succ_cons, List.drop_zero, List.drop_nil, List.take_succ_cons, List.take_zero, List.take_nil, List.getElem?_cons_zero, List.getElem?_cons_succ, List.getElem?_nil, Option.getD_some, Option.getD_none, Option.map_some, Option.map_none, Nat.reduceAdd, Nat.reduceSub, Nat.reduceEqDiff, Nat.zero_add, Bool.true_or, PV.scal, Bool.or_false, Bool.or_true, Bool.false_or, Bool.and_true, Bool.and_false, Bool.true_and, reduceIte, reduceCtorEq]); exact eq_refl _) ?_
    refine vc_seq fun K7 hK7 => ?_
    refine vc_seq fun K8 hK8 => ?_
    refine vc_region ?_
    refine vo_move_pv rfl rfl ?_
    refine vo_move_pv rfl rfl ?_
    refine vo_len_pv rfl rfl Try.underlying22 ?_
    refine vo_binI rfl rfl rfl rfl trivial ?_
    refine vo_nil ?_
    refine hK8 _ ?_
    refine vc_cond rfl (fun hc2 => ?_) (fun hc2 => ?_)
    · try simp only [decide_eq_true_eq, decide_eq_false_iff_not, beq_iff_eq, bne_iff_ne, beq_eq_false_iff_ne, bne_eq_false_iff_eq, Bool.not_eq_true, Bool.not_eq_false, Bool.not_eq_eq_eq_not, Bool.not_true, Bool.not_false, List.length_map, Int.not_lt, Int.not_le, ne_eq, Decidable.not_not] at hc2
      refine vc_skip ?_
      refine hK7 _ ?_
      refine vc_seq fun K9 hK9 => ?_
      refine vc_block ?_
      refine vc_seq fun K10 hK10 => ?_
      refine vc_region ?_
      refine vo_assign_pv rfl rfl ?_
      refine vo_nil ?_
      refine hK10 _ ?_
      refine vc_block ?_
      refine vc_st (by (try simp only [St.put, exposeE, killE, SV.expose, SV.kill, Row.expose, Row.kill, rowsAfter_nil, rowsAfter_one, packS, SV.shift, placeOf, enumE, List.zip_cons_cons, List.zip_nil_right, List.map_cons, List.map_nil, List.set_cons_zero, List.set_cons_succ, List.length_cons, List.length_nil, List.cons_append, List.nil_append, List.drop_succ_cons, List.drop_zero, List.drop_nil, List.take_succ_cons, List.take_zero, List.take_nil, List.getElem?_cons_zero, List.getElem?_cons_succ, List.getElem?_nil, Option.getD_some, Option.getD_none, Option.map_some, Option.map_none, Nat.reduceAdd, Nat.reduceSub, Nat.reduceEqDiff, Nat.zero_add, Bool.true_or, PV.scal, Bool.or_false, Bool.or_true, Bool.false_or, Bool.and_true, Bool.and_false, Bool.true_and, reduceIte, reduceCtorEq]); exact eq_refl _) ?_
      refine vc_loopF [0, 1, 5] [6] [.pv false (.sl nl0 1 (bases.map ints)), .pv false (.sl nl1 1 (slots.map ints)), i64 k] _ (fun mz vs => ∃ (j : Nat), mz = k - j ∧ (j ≤ k) ∧ (∀ i, i < j → (slots.getD i []).length > 0 → (slots.getD k []).length > 0 → (i : Int) ∈ abvL bases k) ∧ vs = [i64 j]) (k) rfl rfl (le_len hC rfl) ⟨rfl, rfl, rfl⟩ ⟨0, rfl, Nat.zero_le _, (fun i h => by omega), rfl⟩ ?_
      rintro mz vs - ⟨j, rfl, hk, hf2, rfl⟩
      refine vc_st (by (try simp only [St.put, exposeE, killE, SV.expose, SV.kill, Row.expose, Row.kill, rowsAfter_nil, rowsAfter_one, packS, SV.shift, placeOf, enumE, List.zip_cons_cons, List.zip_nil_right, List.map_cons, List.map_nil, List.set_cons_zero, List.set_cons_succ, List.length_cons, List.length_nil, List.cons_append, List.nil_append, List.drop_succ_cons, List.drop_zero, List.drop_nil, List.take_succ_cons, List.take_zero, List.take_nil, List.getElem?_cons_zero, List.getElem?_cons_succ, List.getElem?_nil, Option.getD_some, Option.getD_none, Option.map_some, Option.map_none, Nat.reduceAdd, Nat.reduceSub, Nat.reduceEqDiff, Nat.zero_add, Bool.true_or, PV.scal, Bool.or_false, Bool.or_true, Bool.false_or, Bool.and_true, Bool.and_false, Bool.true_and, reduceIte, reduceCtorEq]); exact eq_refl _) ?_
      refine vc_seq fun K11 hK11 => ?_
      refine vc_seq fun K12 hK12 => ?_
      refine vc_region ?_
      refine vo_move_pv rfl rfl ?_
      refine vo_move_pv rfl rfl ?_
      refine vo_binI rfl rfl rfl rfl trivial ?_
      refine vo_nil ?_
      refine hK12 _ ?_
      refine vc_cond rfl (fun hc3 => ?_) (fun hc3 => ?_)
      · try simp only [decide_eq_true_eq, decide_eq_false_iff_not, beq_iff_eq, bne_iff_ne, beq_eq_false_iff_ne, bne_eq_false_iff_eq, Bool.not_eq_true, Bool.not_eq_false, Bool.not_eq_eq_eq_not, Bool.not_true, Bool.not_false, List.length_map, Int.not_lt, Int.not_le, ne_eq, Decidable.not_not] at hc3
        refine vc_skip ?_
        refine hK11 _ ?_
        refine vc_seq fun K13 hK13 => ?_
        refine vc_block ?_
        refine vc_seq fun K14 hK14 => ?_
        refine vc_region ?_
        refine vo_move_pv rfl rfl ?_
        refine vo_move_pv rfl rfl ?_
        refine vo_index_pv (.sl none 1 []) rfl rfl rfl E22.und inf37 sz37 (by first | omega | (simp only [List.length_map] <;> omega) | (simp only [List.length_map, List.length_set, List.length_append, List.length_cons, List.length_nil, List.length_replicate, List.length_take, List.length_drop] <;> omega) | (simp <;> omega) | (constructor <;> (first | omega | (simp <;> omega))) | (refine ⟨?_, ?_, ?_, ?_⟩ <;> omega) | exact ⟨xorI_nonneg _ _, by omega⟩ | decide) (by first | omega | (simp only [List.length_map] <;> omega) | (simp only [List.length_map, List.length_set, List.length_append, List.length_cons, List.length_nil, List.length_replicate, List.length_take, List.length_drop] <;> omega) | (simp <;> omega) | (constructor <;> (first | omega | (simp <;> omega))) | (refine ⟨?_, ?_, ?_, ?_⟩ <;> omega) | exact ⟨xorI_nonneg _ _, by omega⟩ | decide) ?_
        simp only [Int.toNat_natCast, Int.toNat_zero, getD_ints, getD_intss, getD_bools, getD_bytes, PV.cells]
        refine vo_load_adr rfl rfl Try.underlying37 rfl ?_
        refine vo_len_pv rfl rfl Try.underlying37 ?_
        refine vo_binI rfl rfl rfl rfl trivial ?_
        refine vo_move_pv rfl rfl ?_
        refine vo_split 28 rfl (fun hg4 => ?_) (fun hg4 => ?_)
        · try simp only [decide_eq_true_eq, decide_eq_false_iff_not, beq_iff_eq, bne_iff_ne, beq_eq_false_iff_ne, bne_eq_false_iff_eq, Bool.not_eq_true, Bool.not_eq_false, Bool.not_eq_eq_eq_not, Bool.not_true, Bool.not_false, List.length_map, Int.not_lt, Int.not_le, ne_eq, Decidable.not_not] at hg4
          refine vo_guard_on rfl rfl rfl ?_
          refine vo_move_pv rfl rfl ?_
          refine vo_guard_on rfl rfl rfl ?_
          refine vo_move_pv rfl rfl ?_
          refine vo_guard_on rfl rfl rfl ?_
          refine vo_index_pv (.sl none 1 []) rfl rfl rfl E22.und inf37 sz37 (by first | omega | (simp only [List.length_map] <;> omega) | (simp only [List.length_map, List.length_set, List.length_append, List.length_cons, List.length_nil, List.length_replicate, List.length_take, List.length_drop] <;> omega) | (simp <;> omega) | (constructor <;> (first | omega | (simp <;> omega))) | (refine ⟨?_, ?_, ?_, ?_⟩ <;> omega) | exact ⟨xorI_nonneg _ _, by omega⟩ | decide) (by first | omega | (simp only [List.length_map] <;> omega) | (simp only [List.length_map, List.length_set, List.length_append, List.length_cons, List.length_nil, List.length_replicate, List.length_take, List.length_drop] <;> omega) | (simp <;> omega) | (constructor <;> (first | omega | (simp <;> omega))) | (refine ⟨?_, ?_, ?_, ?_⟩ <;> omega) | exact ⟨xorI_nonneg _ _, by omega⟩ | decide) ?_
          simp only [Int.toNat_natCast, Int.toNat_zero, getD_ints, getD_intss, getD_bools, getD_bytes, PV.cells]
          refine vo_guard_on rfl rfl rfl ?_
          refine vo_load_adr rfl rfl Try.underlying37 rfl ?_
          refine vo_guard_on rfl rfl rfl ?_
          refine vo_len_pv rfl rfl Try.underlying37 ?_
          refine vo_guard_on rfl rfl rfl ?_
          refine vo_binI rfl rfl rfl rfl trivial ?_
          refine vo_pick_t rfl rfl ?_
          refine vo_move_pv rfl rfl ?_
          refine vo_split 36 rfl (fun hg5 => ?_) (fun hg5 => ?_)
          · try simp only [decide_eq_true_eq, decide_eq_false_iff_not, beq_iff_eq, bne_iff_ne, beq_eq_false_iff_ne, bne_eq_false_iff_eq, Bool.not_eq_true, Bool.not_eq_false, Bool.not_eq_eq_eq_not, Bool.not_true, Bool.not_false, List.length_map, Int.not_lt, Int.not_le, ne_eq, Decidable.not_not] at hg5
            refine vo_guard_on rfl rfl rfl ?_
            refine vo_move_pv rfl rfl ?_
            refine vo_guard_on rfl rfl rfl ?_
            refine vo_move_pv rfl rfl ?_
            refine vo_guard_on rfl rfl rfl ?_
            refine vo_call [] Try.func58 rfl rfl rfl rfl rfl rfl rfl (above_sat hbases hlbases hc1.1 (by omega)) ?_
            rintro _ _ ⟨nl9, rfl, rfl⟩
            refine ⟨Nat.le_of_ble_eq_true rfl, ⟨rfl, rfl, rfl⟩, .inl rfl, ?_⟩
            refine vo_st (by (try simp only [St.put, exposeE, killE, SV.expose, SV.kill, Row.expose, Row.kill, rowsAfter_nil, rowsAfter_one, packS, SV.shift, placeOf, enumE, List.zip_cons_cons, List.zip_nil_right, List.map_cons, List.map_nil, List.set_cons_zero, List.set_cons_succ, List.length_cons, List.length_nil, List.cons_append, List.nil_append, List.drop_succ_cons, List.drop_zero, List.drop_nil, List.take_succ_cons, List.take_zero, List.take_nil, List.getElem?_cons_zero, List.getElem?_cons_succ, List.getElem?_nil, Option.getD_some, Option.getD_none, Option.map_some, Option.map_none, Nat.reduceAdd, Nat.reduceSub, Nat.reduceEqDiff, Nat.zero_add, Bool.true_or, PV.scal, Bool.or_false, Bool.or_true, Bool.false_or, Bool.and_true, Bool.and_false, Bool.true_and, reduceIte, reduceCtorEq]); exact eq_refl _) ?_
            refine vo_guard_on rfl rfl rfl ?_
            refine vo_move_pv rfl rfl ?_
            refine vo_guard_on rfl rfl rfl ?_
            refine vo_call0 Try.func57 rfl rfl rfl rfl (placeIn_sat (list := abvL bases k) (abvL_len' hbases)) ?_
            rintro _ _ ⟨rfl, rfl⟩
            refine ⟨rfl, rfl, .inr rfl, ?_⟩
            refine vo_guard_on rfl rfl rfl ?_
            refine vo_binI rfl rfl rfl rfl trivial ?_
            refine vo_pick_t rfl rfl ?_
            refine vo_nil ?_
            refine hK14 _ ?_
            refine vc_cond rfl (fun hc6 => ?_) (fun hc6 => ?_)
            · try simp only [decide_eq_true_eq, decide_eq_false_iff_not, beq_iff_eq, bne_iff_ne, beq_eq_false_iff_ne, bne_eq_false_iff_eq, Bool.not_eq_true, Bool.not_eq_false, Bool.not_eq_eq_eq_not, Bool.not_true, Bool.not_false, List.length_map, Int.not_lt, Int.not_le, ne_eq, Decidable.not_not] at hc6
              refine vc_seq fun K15 hK15 => ?_
              refine vc_region ?_
              refine vo_assign_pv rfl rfl ?_
              refine vo_nil ?_
              refine hK15 _ ?_
              refine vc_ret ?_
              change retPv _ _ _ _ _
              refine retPv_mk rfl rfl rfl ⟨?_, rfl⟩
              refine (congrArg (fun b => [bo b]) (?_ : _ = _) : [bo _] = [bo _])
              exact bF fun h => absurd (h.2 k (by omega) j (by omega) (by omega) (by omega)) ((findM_not _ _ 0 (by omega)).1 (by assumption))
            · try simp only [decide_eq_true_eq, decide_eq_false_iff_not, beq_iff_eq, bne_iff_ne, beq_eq_false_iff_ne, bne_eq_false_iff_eq, Bool.not_eq_true, Bool.not_eq_false, Bool.not_eq_eq_eq_not, Bool.not_true, Bool.not_false, List.length_map, Int.not_lt, Int.not_le, ne_eq, Decidable.not_not] at hc6
              refine vc_skip ?_
              refine hK13 _ ?_
              refine vc_region ?_
              refine vo_move_pv rfl rfl ?_
              refine vo_binI rfl rfl rfl rfl (by first | omega | (simp only [List.length_map] <;> omega) | (simp only [List.length_map, List.length_set, List.length_append, List.length_cons, List.length_nil, List.length_replicate, List.length_take, List.length_drop] <;> omega) | (simp <;> omega) | (constructor <;> (first | omega | (simp <;> omega))) | (refine ⟨?_, ?_, ?_, ?_⟩ <;> omega) | exact ⟨xorI_nonneg _ _, by omega⟩ | decide) ?_
              refine vo_assign_pv rfl rfl ?_
              refine vo_nil ?_
              change againF _ _ _ _ _ _ _ _ _
              refine againF_mk rfl rfl rfl rfl rfl rfl ⟨_, ?_, j + 1, rfl, ?_, ?_, rfl⟩
              · omega
              · omega
              · intro i hi h1 h2; rcases Nat.lt_or_ge i j with h | h; exact hf2 i h h1 h2; rw [show i = j by omega] at h1 ⊢; exact (findM_mem _ _ 0 (by omega)).1 (by omega)
          · try simp only [decide_eq_true_eq, decide_eq_false_iff_not, beq_iff_eq, bne_iff_ne, beq_eq_false_iff_ne, bne_eq_false_iff_eq, Bool.not_eq_true, Bool.not_eq_false, Bool.not_eq_eq_eq_not, Bool.not_true, Bool.not_false, List.length_map, Int.not_lt, Int.not_le, ne_eq, Decidable.not_not] at hg5
            refine vo_guard_off rfl rfl rfl rfl rfl ?_
            refine vo_guard_off rfl rfl rfl rfl rfl ?_
            refine vo_guard_off rfl rfl rfl rfl rfl ?_
            refine vo_guard_off rfl rfl rfl rfl rfl ?_
            refine vo_guard_off rfl rfl rfl rfl rfl ?_
            refine vo_guard_off rfl rfl rfl rfl rfl ?_
            refine vo_pick_f rfl rfl ?_
            refine vo_nil ?_
            refine hK14 _ ?_
            refine vc_cond_f rfl ?_
            refine vc_skip ?_
            refine hK13 _ ?_
            refine vc_region ?_
            refine vo_move_pv rfl rfl ?_
            refine vo_binI rfl rfl rfl rfl (by first | omega | (simp only [List.length_map] <;> omega) | (simp only [List.length_map, List.length_set, List.length_append, List.length_cons, List.length_nil, List.length_replicate, List.length_take, List.length_drop] <;> omega) | (simp <;> omega) | (constructor <;> (first | omega | (simp <;> omega))) | (refine ⟨?_, ?_, ?_, ?_⟩ <;> omega) | exact ⟨xorI_nonneg _ _, by omega⟩ | decide) ?_
            refine vo_assign_pv rfl rfl ?_
            refine vo_nil ?_
            change againF _ _ _ _ _ _ _ _ _
            refine againF_mk rfl rfl rfl rfl rfl rfl ⟨_, ?_, j + 1, rfl, ?_, ?_, rfl⟩
            · omega
            · omega
            · intro i hi h1 h2; rcases Nat.lt_or_ge i j with h | h; exact hf2 i h h1 h2; rw [show i = j by omega] at h1 ⊢; omega
        · try simp only [decide_eq_true_eq, decide_eq_false_iff_not, beq_iff_eq, bne_iff_ne, beq_eq_false_iff_ne, bne_eq_false_iff_eq, Bool.not_eq_true, Bool.not_eq_false, Bool.not_eq_eq_eq_not, Bool.not_true, Bool.not_false, List.length_map, Int.not_lt, Int.not_le, ne_eq, Decidable.not_not] at hg4
          refine vo_guard_off rfl rfl rfl rfl rfl ?_
          refine vo_guard_off rfl rfl rfl rfl rfl ?_
          refine vo_guard_off rfl rfl rfl rfl rfl ?_
          refine vo_guard_off rfl rfl rfl rfl rfl ?_
          refine vo_guard_off rfl rfl rfl rfl rfl ?_
          refine vo_guard_off rfl rfl rfl rfl rfl ?_
          refine vo_pick_f rfl rfl ?_
          refine vo_move_pv rfl rfl ?_
          refine vo_guard_off rfl rfl rfl rfl rfl ?_
          refine vo_guard_off rfl rfl rfl rfl rfl ?_
          refine vo_guard_off rfl rfl rfl rfl rfl ?_
          refine vo_guard_off rfl rfl rfl rfl rfl ?_
          refine vo_guard_off rfl rfl rfl rfl rfl ?_
          refine vo_guard_off rfl rfl rfl rfl rfl ?_
          refine vo_pick_f rfl rfl ?_
          refine vo_nil ?_
          refine hK14 _ ?_
          refine vc_cond_f rfl ?_
          refine vc_skip ?_
          refine hK13 _ ?_
          refine vc_region ?_
          refine vo_move_pv rfl rfl ?_
          refine vo_binI rfl rfl rfl rfl (by first | omega | (simp only [List.length_map] <;> omega) | (simp only [List.length_map, List.length_set, List.length_append, List.length_cons, List.length_nil, List.length_replicate, List.length_take, List.length_drop] <;> omega) | (simp <;> omega) | (constructor <;> (first | omega | (simp <;> omega))) | (refine ⟨?_, ?_, ?_, ?_⟩ <;> omega) | exact ⟨xorI_nonneg _ _, by omega⟩ | decide) ?_
          refine vo_assign_pv rfl rfl ?_
          refine vo_nil ?_
          change againF _ _ _ _ _ _ _ _ _
          refine againF_mk rfl rfl rfl rfl rfl rfl ⟨_, ?_, j + 1, rfl, ?_, ?_, rfl⟩
          · omega
          · omega
          · intro i hi h1 h2; rcases Nat.lt_or_ge i j with h | h; exact hf2 i h h1 h2; rw [show i = j by omega] at h1 ⊢; omega
      · try simp only [decide_eq_true_eq, decide_eq_false_iff_not, beq_iff_eq, bne_iff_ne, beq_eq_false_iff_ne, bne_eq_false_iff_eq, Bool.not_eq_true, Bool.not_eq_false, Bool.not_eq_eq_eq_not, Bool.not_true, Bool.not_false, List.length_map, Int.not_lt, Int.not_le, ne_eq, Decidable.not_not] at hc3
        refine vc_exit ?_
        refine hK9 _ ?_
        refine vc_region ?_
        refine vo_move_pv rfl rfl ?_
        refine vo_binI rfl rfl rfl rfl (by first | omega | (simp only [List.length_map] <;> omega) | (simp only [List.length_map, List.length_set, List.length_append, List.length_cons, List.length_nil, List.length_replicate, List.length_take, List.length_drop] <;> omega) | (simp <;> omega) | (constructor <;> (first | omega | (simp <;> omega))) | (refine ⟨?_, ?_, ?_, ?_⟩ <;> omega) | exact ⟨xorI_nonneg _ _, by omega⟩ | decide) ?_
        refine vo_assign_pv rfl rfl ?_
        refine vo_nil ?_
        change againF _ _ _ _ _ _ _ _ _
        refine againF_mk rfl rfl rfl rfl rfl rfl ⟨_, ?_, k + 1, rfl, ?_, ?_, rfl⟩
        · omega
        · omega
        · intro j hj i hi; rcases Nat.lt_or_ge j k with h | h; exact hf j h i hi; rw [show j = k by omega] at hi ⊢; exact hf2 i (by omega)
    · try simp only [decide_eq_true_eq, decide_eq_false_iff_not, beq_iff_eq, bne_iff_ne, beq_eq_false_iff_ne, bne_eq_false_iff_eq, Bool.not_eq_true, Bool.not_eq_false, Bool.not_eq_eq_eq_not, Bool.not_true, Bool.not_false, List.length_map, Int.not_lt, Int.not_le, ne_eq, Decidable.not_not] at hc2
      refine vc_exit ?_
      refine hK5 _ ?_
      refine vc_seq fun K16 hK16 => ?_
      refine vc_region ?_
      refine vo_assign_pv rfl rfl ?_
      refine vo_nil ?_
      refine hK16 _ ?_
      refine vc_ret ?_
      change retPv _ _ _ _ _
      refine retPv_mk rfl rfl rfl ⟨?_, rfl⟩
      refine (congrArg (fun b => [bo b]) (?_ : _ = _) : [bo _] = [bo _])
      exact bT ⟨hc1, fun j hj => hf j (by omega)⟩

end Go.Vl
