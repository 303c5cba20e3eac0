/- Part 3 of the texts that the proof of FnMergeListsCount is built on. -/
import Derived.Test.YthfiffaipllanaaVl2
namespace Go.Vl
set_option linter.unusedVariables false
set_option linter.unusedSimpArgs false
open Go.Proofs

theorem abvR_len {b : List (List Int)} {c : Int} {N : Nat} (h : b.length < N) : (abvR b c).length < N := by
  unfold abvR; split
  · exact Nat.lt_of_le_of_lt (abvL_len b _) h
  · simp; omega
theorem abvL_len' {b : List (List Int)} {c : Nat} {N : Nat} (h : b.length < N) : (abvL b c).length < N := Nat.lt_of_le_of_lt (abvL_len b _) h
theorem abvL_le {b : List (List Int)} (hv : VB b) {c : Nat} (hc : c < b.length) {x : Int} (h : x ∈ abvL b c) : 0 ≤ x ∧ x ≤ c := by
  obtain ⟨i, rfl, h2⟩ := (mem_abvL hv.bd' hc x).1 h
  have := h2.le hv.bd'; omega
theorem abvL_refl {b : List (List Int)} (hv : VB b) {c : Nat} (hc : c < b.length) : (c : Int) ∈ abvL b c := (mem_abvL hv.bd' hc _).2 ⟨c, rfl, .refl c⟩
theorem abvL_step {b : List (List Int)} (hv : VB b) {k n : Nat} (hk : k < b.length) (hne : n ≠ k) : (n : Int) ∈ abvL b k ↔ ∃ d ∈ b.getD k [], (n : Int) ∈ abvL b d.toNat := by
  rw [mem_abvL hv.bd' hk]
  constructor
  · rintro ⟨i, h, h2⟩
    have : n = i := by omega
    subst this
    cases h2 with
    | refl => exact absurd rfl hne
    | @step _ d _ hd h3 =>
      have := hv.bd hd
      refine ⟨(d : Int), hd, ?_⟩
      rw [Int.toNat_natCast, mem_abvL hv.bd' (by omega)]
      exact ⟨n, rfl, h3⟩
  · rintro ⟨d, hd, h2⟩
    have hb := hv.bd hd
    obtain ⟨i, h3, h4⟩ := (mem_abvL hv.bd' (by omega) _).1 h2
    refine ⟨n, rfl, ?_⟩
    have : n = i := by omega
    subst this
    refine .step (d := d.toNat) ?_ h4
    rw [show ((d.toNat : Nat) : Int) = d by omega]; exact hd
theorem belB_get {b : List (List Int)} {c x : Nat} : (belB b c).getD x false = true ↔ x < b.length ∧ (c : Int) ∈ abvL b x := by
  unfold belB
  simp only [List.getD, List.getElem?_map, List.getElem?_range']
  by_cases h : x < b.length
  · simp [List.getElem?_range h, h]
  · simp [List.getElem?_eq_none (show (List.range b.length).length ≤ x by simp; omega), h]
theorem belB_len (b : List (List Int)) (c : Nat) : (belB b c).length = b.length := by simp [belB]
theorem eq_of_get {a b : List Bool} (h : a.length = b.length) (h2 : ∀ x : Nat, a.getD x false = true ↔ b.getD x false = true) : a = b := by
  apply List.ext_getElem h
  intro i h3 h4
  have := h2 i
  simp only [List.getD, List.getElem?_eq_getElem h3, List.getElem?_eq_getElem h4, Option.getD_some] at this
  exact Bool.eq_iff_iff.2 this
theorem bel_lo {b : List (List Int)} (hv : VB b) {n : Nat} (hn : n < b.length) : ∀ k, k ≤ n → idxT (belB b n) k = []
  | 0, _ => rfl
  | k+1, h => by
    rw [idxT_succ, if_neg, bel_lo hv hn k (by omega)]
    intro h2
    have := abvL_le hv (by omega) (belB_get.1 h2).2
    omega
theorem rep_get (N x : Nat) : (List.replicate N false).getD x false = false := by
  simp only [List.getD, List.getElem?_replicate]; split <;> rfl
def belR (b : List (List Int)) (c : Int) : List Int := if VB b ∧ 0 ≤ c ∧ c < b.length then belL b c.toNat else []
theorem belR_of {b : List (List Int)} {n : Nat} (h : VB b) (hn : n < b.length) : belR b n = belL b n := by
  unfold belR; rw [if_pos ⟨h, by omega, by omega⟩]; rfl
theorem belR_no {b : List (List Int)} {c : Int} (h : ¬ (VB b ∧ 0 ≤ c ∧ c < b.length)) : belR b c = [] := if_neg h
def OKLs (ls : List (List Int)) : Prop := (∀ l ∈ ls, OKL l 12) ∧ ls.length ≤ 6
instance {ls : List (List Int)} : Decidable (OKLs ls) := by unfold OKLs; infer_instance
def KeepP (long short : List Int) : Prop := OKL long 12 ∧ OKL short 12 ∧ kpN short long 0 = short.length
instance {a b : List Int} : Decidable (KeepP a b) := by unfold KeepP; infer_instance
def OC (b s : List (List Int)) : Prop := VS b s ∧ ∀ j, j < s.length → ∀ i, i < j → (s.getD i []).length > 0 → (s.getD j []).length > 0 → (i : Int) ∈ abvL b j
noncomputable instance {a b : List (List Int)} : Decidable (OC a b) := Classical.propDecidable _
theorem apart_iff {b : List (List Int)} (hv : VB b) {j k : Nat} (h : j < k) (hk : k < b.length) : (¬ (k : Int) ∈ abvR b j ∧ ¬ (j : Int) ∈ abvR b k) ↔ ¬ (j : Int) ∈ abvL b k := by
  rw [abvR_of hv hk, abvR_of hv (by omega)]
  exact ⟨fun h => h.2, fun h2 => ⟨fun h3 => by have := abvL_le hv (by omega) h3; omega, h2⟩⟩

theorem getD_at {α : Type} {l : List α} {j : Nat} (h : j < l.length) (d : α) : l.getD j d = l[j] := by simp [List.getD, List.getElem?_eq_getElem h]
theorem mark0 {b : List (List Int)} (hv : VB b) {n : Nat} (hn : n < b.length) (x : Nat) : ((List.replicate b.length false).set n true).getD x false = true ↔ x < n + 1 ∧ (n : Int) ∈ abvL b x := by
  rw [getD_set_b, rep_get]
  by_cases h : n = x
  · subst h; simp [hn, abvL_refl hv hn]
  · rw [if_neg (fun e => h e.1)]
    constructor
    · intro h2; cases h2
    · rintro ⟨h2, h3⟩
      have := abvL_le hv (by omega) h3
      omega
theorem mark_in1 {b : List (List Int)} {m m2 : List Bool} {k j : Nat} (hj : j < (b.getD k []).length) (hk : k < m2.length) (h : m2.getD k false = true)
    (hm : ∀ x, m2.getD x false = true ↔ (m.getD x false = true ∨ (x = k ∧ ∃ d ∈ (b.getD k []).take j, m.getD d.toNat false = true))) :
    ∀ x, (m2.set k true).getD x false = true ↔ (m.getD x false = true ∨ (x = k ∧ ∃ d ∈ (b.getD k []).take (j+1), m.getD d.toNat false = true)) := by
  intro x
  rw [getD_set_b]
  by_cases e : k = x
  · subst e
    rw [if_pos ⟨rfl, hk⟩]
    refine ⟨fun _ => ?_, fun _ => rfl⟩
    rcases (hm k).1 h with h1 | ⟨_, d, h1, h2⟩
    · exact .inl h1
    · refine .inr ⟨rfl, d, ?_, h2⟩
      rw [List.take_succ_eq_append_getElem hj]; exact List.mem_append_left _ h1
  · rw [if_neg (fun h => e h.1), hm x]
    simp [Ne.symm e]
theorem mark_in2 {b : List (List Int)} {m m2 : List Bool} {k j : Nat} (hj : j < (b.getD k []).length) (hk : k < m2.length) (h : m2.getD k false = false) (hb : ((b.getD k []).getD j 0).toNat ≠ k)
    (hm : ∀ x, m2.getD x false = true ↔ (m.getD x false = true ∨ (x = k ∧ ∃ d ∈ (b.getD k []).take j, m.getD d.toNat false = true))) :
    ∀ x, (m2.set k (m2.getD ((b.getD k []).getD j 0).toNat false)).getD x false = true ↔ (m.getD x false = true ∨ (x = k ∧ ∃ d ∈ (b.getD k []).take (j+1), m.getD d.toNat false = true)) := by
  intro x
  rw [getD_set_b]
  have e0 := getD_at hj 0
  by_cases e : k = x
  · subst e
    rw [if_pos ⟨rfl, hk⟩, hm]
    have hn : ¬ (m.getD k false = true ∨ (k = k ∧ ∃ d ∈ (b.getD k []).take j, m.getD d.toNat false = true)) := fun h1 => by rw [(hm k).2 h1] at h; cases h
    rw [List.take_succ_eq_append_getElem hj]
    constructor
    · rintro (h1 | ⟨h1, _⟩)
      · exact .inr ⟨rfl, _, List.mem_append_right _ (List.mem_singleton.2 rfl), by rw [← e0]; exact h1⟩
      · exact absurd h1 hb
    · rintro (h1 | ⟨_, d, h1, h2⟩)
      · exact absurd (.inl h1) hn
      · rcases List.mem_append.1 h1 with h1 | h1
        · exact absurd (.inr ⟨rfl, d, h1, h2⟩) hn
        · rw [List.mem_singleton.1 h1, ← e0] at h2; exact .inl h2
  · rw [if_neg (fun h => e h.1), hm x]
    simp [Ne.symm e]
theorem mark_step {b : List (List Int)} (hv : VB b) {n k : Nat} (hnk : n < k) (hk : k < b.length) {m m2 : List Bool} (hm : ∀ x, m.getD x false = true ↔ x < k ∧ (n : Int) ∈ abvL b x)
    (hm2 : ∀ x, m2.getD x false = true ↔ (m.getD x false = true ∨ (x = k ∧ ∃ d ∈ (b.getD k []), m.getD d.toNat false = true))) : ∀ x, m2.getD x false = true ↔ x < k + 1 ∧ (n : Int) ∈ abvL b x := by
  intro x
  rw [hm2, hm]
  constructor
  · rintro (⟨h1, h2⟩ | ⟨rfl, d, h1, h2⟩)
    · exact ⟨by omega, h2⟩
    · exact ⟨by omega, (abvL_step hv hk (by omega)).2 ⟨d, h1, ((hm _).1 h2).2⟩⟩
  · rintro ⟨h1, h2⟩
    rcases Nat.lt_or_ge x k with h | h
    · exact .inl ⟨h, h2⟩
    · have e : x = k := by omega
      subst e
      obtain ⟨d, h3, h4⟩ := (abvL_step hv hk (by omega)).1 h2
      have := hv.bd h3
      exact .inr ⟨rfl, d, h3, (hm _).2 ⟨by omega, h4⟩⟩

theorem validLists_sat {nl0 : Option Bool} {lists : List (List Int)} (hlists : lists.length < 1000000000) (hllists : ∀ l ∈ lists, l.length < 1000000000)  : SatAt Try.prog 24 [.pv false (.sl nl0 1 (lists.map ints))] [] (fun res rows => res = [bo (decide (OKLs lists))] ∧ rows = []) := by
  refine sat_entry (ts := [2]) Try.func24 rfl rfl (by decide) (Nat.le_of_ble_eq_true rfl) fun C hC => ?_
  rw [Try.ntmps24]
  replace hC : C.nb = 0 := hC
  refine vc_seq fun K1 hK1 => ?_
  refine vc_region ?_
  refine vo_assign_pv rfl rfl ?_
  refine vo_nil ?_
  refine hK1 _ ?_
  refine vc_seq fun K2 hK2 => ?_
  refine vc_seq fun K3 hK3 => ?_
  refine vc_region ?_
  refine vo_assign_pv rfl rfl ?_
  refine vo_nil ?_
  refine hK3 _ ?_
  refine vc_block ?_
  refine vc_stN ?_
  refine vc_loopF [0] [3] [.pv false (.sl nl0 1 (lists.map ints))] _ (fun mz vs => ∃ (k : Nat), mz = lists.length - k ∧ (k ≤ lists.length) ∧ (∀ l ∈ lists.take k, OKL l 12) ∧ vs = [i64 k]) (lists.length) rfl rfl (le_len hC rfl) ⟨rfl, rfl, rfl⟩ ⟨0, rfl, Nat.zero_le _, (by simp), rfl⟩ ?_
  rintro mz vs - ⟨k, rfl, hk, hf, rfl⟩
  refine vc_stN ?_
  refine vc_seq fun K4 hK4 => ?_
  refine vc_seq fun K5 hK5 => ?_
  refine vc_region ?_
  refine vo_move_pv rfl rfl ?_
  refine vo_move_pv rfl rfl ?_
  refine vo_len_pv rfl rfl Try.underlying23 ?_
  refine vo_binI rfl rfl rfl rfl trivial ?_
  refine vo_nil ?_
  refine hK5 _ ?_
  refine vc_cond rfl (fun hc1 => ?_) (fun hc1 => ?_)
  · try simp only [decide_eq_true_eq, decide_eq_false_iff_not, beq_iff_eq, bne_iff_ne, beq_eq_false_iff_ne, bne_eq_false_iff_eq, Bool.not_eq_true, Bool.not_eq_false, Bool.not_eq_eq_eq_not, Bool.not_true, Bool.not_false, List.length_map, Int.not_lt, Int.not_le, ne_eq, Decidable.not_not] at hc1
    refine vc_skip ?_
    refine hK4 _ ?_
    refine vc_seq fun K6 hK6 => ?_
    refine vc_block ?_
    refine vc_seq fun K7 hK7 => ?_
    refine vc_region ?_
    refine vo_move_pv rfl rfl ?_
    refine vo_move_pv rfl rfl ?_
    refine vo_index_pv (.sl none 1 []) rfl rfl rfl E23.und inf25 sz25 sd sd ?_
    simp only [Int.toNat_natCast, Int.toNat_zero, getD_ints, getD_intss, getD_bools, getD_bytes, PV.cells]
    refine vo_load_adr rfl rfl Try.underlying25 rfl ?_
    refine vo_len_pv rfl rfl Try.underlying25 ?_
    refine vo_binI rfl rfl rfl rfl trivial ?_
    refine vo_move_pv rfl rfl ?_
    refine vo_split 16 rfl (fun hg2 => ?_) (fun hg2 => ?_)
    · try simp only [decide_eq_true_eq, decide_eq_false_iff_not, beq_iff_eq, bne_iff_ne, beq_eq_false_iff_ne, bne_eq_false_iff_eq, Bool.not_eq_true, Bool.not_eq_false, Bool.not_eq_eq_eq_not, Bool.not_true, Bool.not_false, List.length_map, Int.not_lt, Int.not_le, ne_eq, Decidable.not_not] at hg2
      refine vo_guard_off rfl rfl rfl rfl rfl ?_
      refine vo_guard_off rfl rfl rfl rfl rfl ?_
      refine vo_guard_off rfl rfl rfl rfl rfl ?_
      refine vo_guard_off rfl rfl rfl rfl rfl ?_
      refine vo_guard_off rfl rfl rfl rfl rfl ?_
      refine vo_guard_off rfl rfl rfl rfl rfl ?_
      refine vo_pick_t rfl rfl ?_
      refine vo_nil ?_
      refine hK7 _ ?_
      refine vc_cond_t rfl ?_
      refine vc_seq fun K8 hK8 => ?_
      refine vc_region ?_
      refine vo_assign_pv rfl rfl ?_
      refine vo_nil ?_
      refine hK8 _ ?_
      refine vc_ret ?_
      change retPv _ _ _ _ _
      refine retPv_mk rfl rfl rfl ⟨?_, rfl⟩
      refine (congrArg (fun b => [bo b]) (?_ : _ = _) : [bo _] = [bo _])
      exact bF fun h => by have := (h.1 _ (getD_mem (show k < lists.length by omega) [])).1; omega
    · try simp only [decide_eq_true_eq, decide_eq_false_iff_not, beq_iff_eq, bne_iff_ne, beq_eq_false_iff_ne, bne_eq_false_iff_eq, Bool.not_eq_true, Bool.not_eq_false, Bool.not_eq_eq_eq_not, Bool.not_true, Bool.not_false, List.length_map, Int.not_lt, Int.not_le, ne_eq, Decidable.not_not] at hg2
      refine vo_guard_on rfl rfl rfl ?_
      refine vo_move_pv rfl rfl ?_
      refine vo_guard_on rfl rfl rfl ?_
      refine vo_move_pv rfl rfl ?_
      refine vo_guard_on rfl rfl rfl ?_
      refine vo_index_pv (.sl none 1 []) rfl rfl rfl E23.und inf25 sz25 sd sd ?_
      simp only [Int.toNat_natCast, Int.toNat_zero, getD_ints, getD_intss, getD_bools, getD_bytes, PV.cells]
      refine vo_guard_on rfl rfl rfl ?_
      refine vo_load_adr rfl rfl Try.underlying25 rfl ?_
      refine vo_guard_on rfl rfl rfl ?_
      refine vo_call0 Try.func41 rfl rfl rfl rfl (different_sat (lens hllists _ (by omega))) ?_
      rintro _ _ ⟨rfl, rfl⟩
      refine ⟨rfl, rfl, .inl rfl, ?_⟩
      refine vo_guard_on rfl rfl rfl ?_
      refine vo_not rfl rfl ?_
      refine vo_pick_f rfl rfl ?_
      refine vo_nil ?_
      refine hK7 _ ?_
      refine vc_cond rfl (fun hc3 => ?_) (fun hc3 => ?_)
      · try simp only [decide_eq_true_eq, decide_eq_false_iff_not, beq_iff_eq, bne_iff_ne, beq_eq_false_iff_ne, bne_eq_false_iff_eq, Bool.not_eq_true, Bool.not_eq_false, Bool.not_eq_eq_eq_not, Bool.not_true, Bool.not_false, List.length_map, Int.not_lt, Int.not_le, ne_eq, Decidable.not_not] at hc3
        refine vc_seq fun K9 hK9 => ?_
        refine vc_region ?_
        refine vo_assign_pv rfl rfl ?_
        refine vo_nil ?_
        refine hK9 _ ?_
        refine vc_ret ?_
        change retPv _ _ _ _ _
        refine retPv_mk rfl rfl rfl ⟨?_, rfl⟩
        refine (congrArg (fun b => [bo b]) (?_ : _ = _) : [bo _] = [bo _])
        exact bF fun h => by have := (h.1 _ (getD_mem (show k < lists.length by omega) [])).2; contradiction
      · try simp only [decide_eq_true_eq, decide_eq_false_iff_not, beq_iff_eq, bne_iff_ne, beq_eq_false_iff_ne, bne_eq_false_iff_eq, Bool.not_eq_true, Bool.not_eq_false, Bool.not_eq_eq_eq_not, Bool.not_true, Bool.not_false, List.length_map, Int.not_lt, Int.not_le, ne_eq, Decidable.not_not] at hc3
        refine vc_skip ?_
        refine hK6 _ ?_
        refine vc_region ?_
        refine vo_move_pv rfl rfl ?_
        refine vo_binI rfl rfl rfl rfl sd ?_
        refine vo_assign_pv rfl rfl ?_
        refine vo_nil ?_
        change againF _ _ _ _ _ _ _ _ _
        refine againF_mk rfl rfl rfl rfl rfl rfl ⟨_, ?_, k + 1, rfl, ?_, ?_, rfl⟩
        · omega
        · omega
        · exact (all_take_succ (by omega) []).2 ⟨hf, by unfold OKL; exact ⟨by omega, by assumption⟩⟩
  · try simp only [decide_eq_true_eq, decide_eq_false_iff_not, beq_iff_eq, bne_iff_ne, beq_eq_false_iff_ne, bne_eq_false_iff_eq, Bool.not_eq_true, Bool.not_eq_false, Bool.not_eq_eq_eq_not, Bool.not_true, Bool.not_false, List.length_map, Int.not_lt, Int.not_le, ne_eq, Decidable.not_not] at hc1
    refine vc_exit ?_
    refine hK2 _ ?_
    refine vc_seq fun K10 hK10 => ?_
    refine vc_region ?_
    refine vo_move_pv rfl rfl ?_
    refine vo_len_pv rfl rfl Try.underlying23 ?_
    refine vo_binI rfl rfl rfl rfl trivial ?_
    refine vo_assign_pv rfl rfl ?_
    refine vo_nil ?_
    refine hK10 _ ?_
    refine vc_ret ?_
    change retPv _ _ _ _ _
    refine retPv_mk rfl rfl rfl ⟨?_, rfl⟩
    refine (congrArg (fun b => [bo b]) (?_ : _ = _) : [bo _] = [bo _])
    rw [take_all (by omega)] at hf; exact decide_eq_decide.2 ⟨fun h => ⟨hf, by simp at h; omega⟩, fun h => by have := h.2; simp; omega⟩

end Go.Vl

namespace Go.Vl
set_option linter.unusedVariables false
set_option linter.unusedSimpArgs false
open Go.Proofs

theorem VB.take {b : List (List Int)} {k : Nat} (h : VB b) (h1 : 1 ≤ k) (h2 : k ≤ b.length) : VB (b.take k) := by
  obtain ⟨a1, a2, a3, a4⟩ := h
  have e : ∀ i, i < k → (b.take k).getD i [] = b.getD i [] := fun i hi => by simp [List.getD, List.getElem?_take, hi]
  have l : (b.take k).length = k := by rw [List.length_take]; omega
  exact ⟨by omega, by omega, by rw [e 0 (by omega)]; exact a3, fun i hi h0 => by rw [e i (by omega)]; exact a4 i (by omega) h0⟩
theorem VS_set {b s : List (List Int)} (h : VS b s) (i : Nat) : VS b (s.set i []) := by
  obtain ⟨a1, a2, a3, a4⟩ := h
  refine ⟨a1, by rw [List.length_set]; exact a2, ?_, fun l hl => ?_⟩
  · simp only [List.getD, List.getElem?_set] at a3 ⊢
    split
    · split <;> rfl
    · exact a3
  · rcases List.mem_or_eq_of_mem_set hl with h | rfl
    · exact a4 l h
    · exact ⟨⟨by simp, List.nodup_nil⟩, by simp⟩
theorem VS_take1 {b s : List (List Int)} (h : VS b s) : VS (b.take 1) (s.take 1) := by
  obtain ⟨a1, a2, a3, a4⟩ := h
  have h1 := a1.1
  refine ⟨a1.take (Nat.le_refl 1) h1, by simp; omega, ?_, fun l hl => a4 l (List.mem_of_mem_take hl)⟩
  simp only [List.getD, List.getElem?_take] at a3 ⊢
  simpa using a3
theorem pw_lt {l : List Int} (h : l.Pairwise (· < ·)) {i j : Nat} (hij : i < j) (hj : j < l.length) : l.getD i 0 < l.getD j 0 := by
  have h1 : l.getD i 0 = l[i] := by simp [List.getD, List.getElem?_eq_getElem (show i < l.length by omega)]
  have h2 : l.getD j 0 = l[j] := by simp [List.getD, List.getElem?_eq_getElem hj]
  rw [h1, h2]; exact List.pairwise_iff_getElem.1 h i j (by omega) hj hij
theorem abvR_ne {b : List (List Int)} {c : Int} (h : abvR b c ≠ []) : VB b ∧ 0 ≤ c ∧ c < b.length := by
  by_cases h1 : VB b ∧ 0 ≤ c ∧ c < b.length
  · exact h1
  · exact absurd (abvR_no h1) h
theorem abvR_mem {b : List (List Int)} {c x : Int} (h : x ∈ abvR b c) : (VB b ∧ 0 ≤ c ∧ c < b.length) ∧ 0 ≤ x ∧ x ≤ c ∧ Abv b c.toNat x.toNat := by
  have h1 := abvR_ne (List.ne_nil_of_mem h)
  obtain ⟨n, rfl⟩ := Int.eq_ofNat_of_zero_le h1.2.1
  rw [abvR_of h1.1 (by omega)] at h
  have h2 := abvL_le h1.1 (by omega) h
  obtain ⟨i, rfl, h3⟩ := (mem_abvL h1.1.bd' (by omega) x).1 h
  exact ⟨h1, h2.1, h2.2, h3⟩
theorem abvR_of_Abv {b : List (List Int)} (hv : VB b) {c x : Nat} (hc : c < b.length) (h : Abv b c x) : (x : Int) ∈ abvR b c := by
  rw [abvR_of hv hc]; exact (mem_abvL hv.bd' hc _).2 ⟨x, rfl, h⟩
theorem abvR_trans {b : List (List Int)} {c x y : Int} (h : x ∈ abvR b c) (h2 : y ∈ abvR b x) : y ∈ abvR b c := by
  obtain ⟨a1, a2, a3, a4⟩ := abvR_mem h
  obtain ⟨b1, b2, b3, b4⟩ := abvR_mem h2
  have := abvR_of_Abv a1.1 (c := c.toNat) (x := y.toNat) (by omega) (a4.trans b4)
  rwa [show ((c.toNat : Nat) : Int) = c by omega, show ((y.toNat : Nat) : Int) = y by omega] at this
theorem abvR_self {b : List (List Int)} {c : Int} (hv : VB b) (h0 : 0 ≤ c) (h1 : c < b.length) : c ∈ abvR b c := by
  have := abvR_of_Abv hv (c := c.toNat) (by omega) (.refl _)
  rwa [show ((c.toNat : Nat) : Int) = c by omega] at this
theorem abvR_base {b : List (List Int)} {c : Int} (hv : VB b) (h0 : 0 ≤ c) (h1 : c < b.length) : ∀ x ∈ b.getD c.toNat [], x ∈ abvR b c := by
  intro x hx
  have hb := hv.bd hx
  have := abvR_of_Abv hv (c := c.toNat) (x := x.toNat) (by omega) (.step (d := x.toNat) (by rw [show ((x.toNat : Nat) : Int) = x by omega]; exact hx) (.refl _))
  rwa [show ((c.toNat : Nat) : Int) = c by omega, show ((x.toNat : Nat) : Int) = x by omega] at this
theorem abvR_asc (b : List (List Int)) (c : Int) : (abvR b c).Pairwise (· < ·) := by
  unfold abvR; split
  · exact abvL_asc _ _
  · exact List.Pairwise.nil
theorem Abv_root {b : List (List Int)} (hv : VB b) : ∀ c : Nat, c < b.length → Abv b c 0 := by
  intro c
  induction c using Nat.strongRecOn with
  | ind c ih =>
    intro hc
    rcases Nat.eq_zero_or_pos c with rfl | h0
    · exact .refl 0
    · have h1 := (hv.2.2.2 c hc h0).1
      obtain ⟨x, hx⟩ := List.exists_mem_of_ne_nil _ h1
      have hb := hv.bd hx
      exact .step (d := x.toNat) (by rw [show ((x.toNat : Nat) : Int) = x by omega]; exact hx) (ih x.toNat (by omega) (by omega))
theorem abvR_zero {b : List (List Int)} {c : Int} (hv : VB b) (h0 : 0 ≤ c) (h1 : c < b.length) : (abvR b c).getD 0 0 = 0 := by
  have hm := abvR_of_Abv hv (c := c.toNat) (by omega) (Abv_root hv c.toNat (by omega))
  rw [show ((c.toNat : Nat) : Int) = c by omega] at hm
  obtain ⟨i, hi, he⟩ := List.getElem_of_mem hm
  have hd : (abvR b c).getD i 0 = 0 := by simp [List.getD, List.getElem?_eq_getElem hi, he]
  rcases Nat.eq_zero_or_pos i with rfl | h2
  · exact hd
  · have h3 := pw_lt (abvR_asc b c) h2 hi
    have h4 := (abvR_mem (getD_mem (show 0 < (abvR b c).length by omega) 0)).2.1
    omega
theorem belR_mem {b : List (List Int)} {c : Int} (h : belR b c ≠ []) {k : Nat} (hk : k < b.length) : ((k : Int) ∈ belR b c ↔ c ∈ abvR b k) := by
  by_cases h1 : VB b ∧ 0 ≤ c ∧ c < b.length
  · obtain ⟨n, rfl⟩ := Int.eq_ofNat_of_zero_le h1.2.1
    rw [belR_of h1.1 (by omega), abvR_of h1.1 hk, belL, idxB, mem_idxT]
    constructor
    · rintro ⟨i, h2, h3, h4⟩
      have : i = k := by omega
      subst this
      exact (belB_get.1 h4).2
    · intro h2
      exact ⟨k, rfl, by rw [belB_len]; exact hk, belB_get.2 ⟨hk, h2⟩⟩
  · exact absurd (belR_no h1) h
theorem belR_asc (b : List (List Int)) (c : Int) : (belR b c).Pairwise (· < ·) := by
  unfold belR; split
  · exact idxT_asc _ _
  · exact List.Pairwise.nil
theorem belR_len {b : List (List Int)} {c : Int} {N : Nat} (h : b.length < N) : (belR b c).length < N := by
  unfold belR; split
  · have := idxT_len (belB b c.toNat) (belB b c.toNat).length
    rw [belB_len] at this
    unfold belL idxB; rw [belB_len]; omega
  · simp; omega
theorem set_lens {B : List (List Int)} {l : List Int} {i N : Nat} (h : ∀ x ∈ B, x.length ≤ N) (hl : l.length ≤ N) : ∀ x ∈ B.set i l, x.length ≤ N := by
  intro x hx
  rcases List.mem_or_eq_of_mem_set hx with hx | rfl
  · exact h x hx
  · exact hl
theorem app_lens {B : List (List Int)} {l : List Int} {N : Nat} (h : ∀ x ∈ B, x.length ≤ N) (hl : l.length ≤ N) : ∀ x ∈ B ++ [l], x.length ≤ N := by
  intro x hx
  rcases List.mem_append.1 hx with hx | hx
  · exact h x hx
  · rw [List.mem_singleton.1 hx]; exact hl

end Go.Vl

namespace Go.Vl
set_option linter.unusedVariables false
set_option linter.unusedSimpArgs false
open Go.Proofs

end Go.Vl

namespace Go.Vl
set_option linter.unusedVariables false
set_option linter.unusedSimpArgs false
open Go.Proofs
theorem fM_eq (n : Int) : ∀ (l : List Int) (i : Int), findM n l i = fM n l i
  | [], _ => rfl
  | x :: l, i => by simp only [findM, fM]; rw [fM_eq n l (i+1)]
theorem bhd_find {x : Int} {l : List Int} : 0 < findM x l 0 ↔ bhd x l := by rw [fM_eq]; exact Iff.rfl
theorem anyB_of {ls : List (List Int)} {x : Int} {k : Nat} (h : k < ls.length) (h2 : 0 < findM x (ls.getD k []) 0) : anyB ls x := ⟨_, getD_mem h [], bhd_find.1 h2⟩
theorem anyB_succ {ls : List (List Int)} {x : Int} {k : Nat} (h : k < ls.length) (h1 : ∀ l ∈ ls.take k, ¬ bhd x l) (h2 : ¬ 0 < findM x (ls.getD k []) 0) : ∀ l ∈ ls.take (k+1), ¬ bhd x l := (all_take_succ h []).2 ⟨h1, fun e => h2 (bhd_find.2 e)⟩
theorem anyB_no {ls : List (List Int)} {x : Int} {k : Nat} (h : ls.length ≤ k) (h1 : ∀ l ∈ ls.take k, ¬ bhd x l) : ¬ anyB ls x := by
  rw [take_all h] at h1
  rintro ⟨l, h2, h3⟩
  exact h1 l h2 h3

theorem isBehind_sat {nl0 : Option Bool} {lists : List (List Int)} {x : Int} (hlists : lists.length < 1000000000) (hllists : ∀ l ∈ lists, l.length < 1000000000)  : SatAt Try.prog 44 [.pv false (.sl nl0 1 (lists.map ints)), i64 x] [] (fun res rows => res = [bo (decide (anyB lists x))] ∧ rows = []) := by
  refine sat_entry (ts := [4]) Try.func44 rfl rfl (by decide) (Nat.le_of_ble_eq_true rfl) fun C hC => ?_
  rw [Try.ntmps44]
  replace hC : C.nb = 0 := hC
  refine vc_seq fun K1 hK1 => ?_
  refine vc_region ?_
  refine vo_assign_pv rfl rfl ?_
  refine vo_nil ?_
  refine hK1 _ ?_
  refine vc_seq fun K2 hK2 => ?_
  refine vc_seq fun K3 hK3 => ?_
  refine vc_region ?_
  refine vo_move_pv rfl rfl ?_
  refine vo_len_pv rfl rfl Try.underlying23 ?_
  refine vo_move_pv rfl rfl ?_
  refine vo_nil ?_
  refine hK3 _ ?_
  refine vc_block ?_
  refine vc_stN ?_
  refine vc_loopF [1, 7, 8] [9] [i64 x, .pv false (.sl nl0 1 (lists.map ints)), i64 (lists.map ints).length] _ (fun mz vs => ∃ (k : Nat), mz = lists.length - k ∧ (k ≤ lists.length) ∧ (∀ l ∈ lists.take k, ¬ bhd x l) ∧ vs = [i64 k]) (lists.length) rfl rfl (le_len hC rfl) ⟨rfl, rfl, rfl⟩ ⟨0, rfl, Nat.zero_le _, (by simp), rfl⟩ ?_
  rintro mz vs - ⟨k, rfl, hk, hf, rfl⟩
  refine vc_stN ?_
  refine vc_seq fun K4 hK4 => ?_
  refine vc_region ?_
  refine vo_binI rfl rfl rfl rfl trivial ?_
  refine vo_nil ?_
  refine hK4 _ ?_
  refine vc_seq fun K5 hK5 => ?_
  refine vc_cond rfl (fun hc1 => ?_) (fun hc1 => ?_)
  · try simp only [decide_eq_true_eq, decide_eq_false_iff_not, beq_iff_eq, bne_iff_ne, beq_eq_false_iff_ne, bne_eq_false_iff_eq, Bool.not_eq_true, Bool.not_eq_false, Bool.not_eq_eq_eq_not, Bool.not_true, Bool.not_false, List.length_map, Int.not_lt, Int.not_le, ne_eq, Decidable.not_not] at hc1
    refine vc_skip ?_
    refine hK5 _ ?_
    refine vc_seq fun K6 hK6 => ?_
    refine vc_block ?_
    refine vc_seq fun K7 hK7 => ?_
    refine vc_region ?_
    refine vo_index_pv (.sl none 1 []) rfl rfl rfl E23.und inf25 sz25 sd sd ?_
    simp only [Int.toNat_natCast, Int.toNat_zero, getD_ints, getD_intss, getD_bools, getD_bytes, PV.cells]
    refine vo_load_adr rfl rfl Try.underlying25 rfl ?_
    refine vo_assign_pv rfl rfl ?_
    refine vo_nil ?_
    refine hK7 _ ?_
    refine vc_seq fun K8 hK8 => ?_
    refine vc_region ?_
    refine vo_move_pv rfl rfl ?_
    refine vo_move_pv rfl rfl ?_
    refine vo_call0 Try.func52 rfl rfl rfl rfl (Index_sat (lens hllists _ (by omega))) ?_
    rintro _ _ ⟨rfl, rfl⟩
    refine ⟨rfl, rfl, .inl rfl, ?_⟩
    refine vo_binI rfl rfl rfl rfl trivial ?_
    refine vo_nil ?_
    refine hK8 _ ?_
    refine vc_cond rfl (fun hc2 => ?_) (fun hc2 => ?_)
    · try simp only [decide_eq_true_eq, decide_eq_false_iff_not, beq_iff_eq, bne_iff_ne, beq_eq_false_iff_ne, bne_eq_false_iff_eq, Bool.not_eq_true, Bool.not_eq_false, Bool.not_eq_eq_eq_not, Bool.not_true, Bool.not_false, List.length_map, Int.not_lt, Int.not_le, ne_eq, Decidable.not_not] at hc2
      refine vc_seq fun K9 hK9 => ?_
      refine vc_region ?_
      refine vo_assign_pv rfl rfl ?_
      refine vo_nil ?_
      refine hK9 _ ?_
      refine vc_ret ?_
      change retPv _ _ _ _ _
      refine retPv_mk rfl rfl rfl ⟨?_, rfl⟩
      refine (congrArg (fun b => [bo b]) (?_ : _ = _) : [bo _] = [bo _])
      exact bT (anyB_of (k := k) (by omega) (by omega))
    · try simp only [decide_eq_true_eq, decide_eq_false_iff_not, beq_iff_eq, bne_iff_ne, beq_eq_false_iff_ne, bne_eq_false_iff_eq, Bool.not_eq_true, Bool.not_eq_false, Bool.not_eq_eq_eq_not, Bool.not_true, Bool.not_false, List.length_map, Int.not_lt, Int.not_le, ne_eq, Decidable.not_not] at hc2
      refine vc_skip ?_
      refine hK6 _ ?_
      refine vc_region ?_
      refine vo_binI rfl rfl rfl rfl sd ?_
      refine vo_move_pv rfl rfl ?_
      refine vo_nil ?_
      change againF _ _ _ _ _ _ _ _ _
      refine againF_mk rfl rfl rfl rfl rfl rfl ⟨_, ?_, k + 1, rfl, ?_, ?_, rfl⟩
      · omega
      · omega
      · exact anyB_succ (by omega) hf (by omega)
  · try simp only [decide_eq_true_eq, decide_eq_false_iff_not, beq_iff_eq, bne_iff_ne, beq_eq_false_iff_ne, bne_eq_false_iff_eq, Bool.not_eq_true, Bool.not_eq_false, Bool.not_eq_eq_eq_not, Bool.not_true, Bool.not_false, List.length_map, Int.not_lt, Int.not_le, ne_eq, Decidable.not_not] at hc1
    refine vc_exit ?_
    refine hK2 _ ?_
    refine vc_seq fun K10 hK10 => ?_
    refine vc_region ?_
    refine vo_assign_pv rfl rfl ?_
    refine vo_nil ?_
    refine hK10 _ ?_
    refine vc_ret ?_
    change retPv _ _ _ _ _
    refine retPv_mk rfl rfl rfl ⟨?_, rfl⟩
    refine (congrArg (fun b => [bo b]) (?_ : _ = _) : [bo _] = [bo _])
    exact bF (anyB_no (by omega) hf)


theorem goodHead_sat {nl0 : Option Bool} {lists : List (List Int)} {x : Int} (hlists : lists.length < 1000000000) (hllists : ∀ l ∈ lists, l.length < 1000000000)  : SatAt Try.prog 51 [.pv false (.sl nl0 1 (lists.map ints)), i64 x] [] (fun res rows => res = [bo (decide (¬ anyB lists x))] ∧ rows = []) := by
  refine sat_entry (ts := [4]) Try.func51 rfl rfl (by decide) (Nat.le_of_ble_eq_true rfl) fun C hC => ?_
  rw [Try.ntmps51]
  replace hC : C.nb = 0 := hC
  refine vc_seq fun K1 hK1 => ?_
  refine vc_region ?_
  refine vo_assign_pv rfl rfl ?_
  refine vo_nil ?_
  refine hK1 _ ?_
  refine vc_seq fun K2 hK2 => ?_
  refine vc_seq fun K3 hK3 => ?_
  refine vc_region ?_
  refine vo_assign_pv rfl rfl ?_
  refine vo_nil ?_
  refine hK3 _ ?_
  refine vc_block ?_
  refine vc_stN ?_
  refine vc_loopF [0, 1] [5] [.pv false (.sl nl0 1 (lists.map ints)), i64 x] _ (fun mz vs => ∃ (k : Nat), mz = lists.length - k ∧ (k ≤ lists.length) ∧ (∀ l ∈ lists.take k, ¬ bhd x l) ∧ vs = [i64 k]) (lists.length) rfl rfl (le_len hC rfl) ⟨rfl, rfl, rfl⟩ ⟨0, rfl, Nat.zero_le _, (by simp), rfl⟩ ?_
  rintro mz vs - ⟨k, rfl, hk, hf, rfl⟩
  refine vc_stN ?_
  refine vc_seq fun K4 hK4 => ?_
  refine vc_seq fun K5 hK5 => ?_
  refine vc_region ?_
  refine vo_move_pv rfl rfl ?_
  refine vo_move_pv rfl rfl ?_
  refine vo_len_pv rfl rfl Try.underlying23 ?_
  refine vo_binI rfl rfl rfl rfl trivial ?_
  refine vo_nil ?_
  refine hK5 _ ?_
  refine vc_cond rfl (fun hc1 => ?_) (fun hc1 => ?_)
  · try simp only [decide_eq_true_eq, decide_eq_false_iff_not, beq_iff_eq, bne_iff_ne, beq_eq_false_iff_ne, bne_eq_false_iff_eq, Bool.not_eq_true, Bool.not_eq_false, Bool.not_eq_eq_eq_not, Bool.not_true, Bool.not_false, List.length_map, Int.not_lt, Int.not_le, ne_eq, Decidable.not_not] at hc1
    refine vc_skip ?_
    refine hK4 _ ?_
    refine vc_seq fun K6 hK6 => ?_
    refine vc_block ?_
    refine vc_seq fun K7 hK7 => ?_
    refine vc_region ?_
    refine vo_move_pv rfl rfl ?_
    refine vo_move_pv rfl rfl ?_
    refine vo_index_pv (.sl none 1 []) rfl rfl rfl E23.und inf25 sz25 sd sd ?_
    simp only [Int.toNat_natCast, Int.toNat_zero, getD_ints, getD_intss, getD_bools, getD_bytes, PV.cells]
    refine vo_load_adr rfl rfl Try.underlying25 rfl ?_
    refine vo_move_pv rfl rfl ?_
    refine vo_call0 Try.func35 rfl rfl rfl rfl (placeIn_sat (lens hllists _ (by omega))) ?_
    rintro _ _ ⟨rfl, rfl⟩
    refine ⟨rfl, rfl, .inl rfl, ?_⟩
    refine vo_binI rfl rfl rfl rfl trivial ?_
    refine vo_nil ?_
    refine hK7 _ ?_
    refine vc_cond rfl (fun hc2 => ?_) (fun hc2 => ?_)
    · try simp only [decide_eq_true_eq, decide_eq_false_iff_not, beq_iff_eq, bne_iff_ne, beq_eq_false_iff_ne, bne_eq_false_iff_eq, Bool.not_eq_true, Bool.not_eq_false, Bool.not_eq_eq_eq_not, Bool.not_true, Bool.not_false, List.length_map, Int.not_lt, Int.not_le, ne_eq, Decidable.not_not] at hc2
      refine vc_seq fun K8 hK8 => ?_
      refine vc_region ?_
      refine vo_assign_pv rfl rfl ?_
      refine vo_nil ?_
      refine hK8 _ ?_
      refine vc_ret ?_
      change retPv _ _ _ _ _
      refine retPv_mk rfl rfl rfl ⟨?_, rfl⟩
      refine (congrArg (fun b => [bo b]) (?_ : _ = _) : [bo _] = [bo _])
      exact bF (fun h => h (anyB_of (k := k) (by omega) (by omega)))
    · try simp only [decide_eq_true_eq, decide_eq_false_iff_not, beq_iff_eq, bne_iff_ne, beq_eq_false_iff_ne, bne_eq_false_iff_eq, Bool.not_eq_true, Bool.not_eq_false, Bool.not_eq_eq_eq_not, Bool.not_true, Bool.not_false, List.length_map, Int.not_lt, Int.not_le, ne_eq, Decidable.not_not] at hc2
      refine vc_skip ?_
      refine hK6 _ ?_
      refine vc_region ?_
      refine vo_move_pv rfl rfl ?_
      refine vo_binI rfl rfl rfl rfl sd ?_
      refine vo_assign_pv rfl rfl ?_
      refine vo_nil ?_
      change againF _ _ _ _ _ _ _ _ _
      refine againF_mk rfl rfl rfl rfl rfl rfl ⟨_, ?_, k + 1, rfl, ?_, ?_, rfl⟩
      · omega
      · omega
      · exact anyB_succ (by omega) hf (by omega)
  · try simp only [decide_eq_true_eq, decide_eq_false_iff_not, beq_iff_eq, bne_iff_ne, beq_eq_false_iff_ne, bne_eq_false_iff_eq, Bool.not_eq_true, Bool.not_eq_false, Bool.not_eq_eq_eq_not, Bool.not_true, Bool.not_false, List.length_map, Int.not_lt, Int.not_le, ne_eq, Decidable.not_not] at hc1
    refine vc_exit ?_
    refine hK2 _ ?_
    refine vc_seq fun K9 hK9 => ?_
    refine vc_region ?_
    refine vo_assign_pv rfl rfl ?_
    refine vo_nil ?_
    refine hK9 _ ?_
    refine vc_ret ?_
    change retPv _ _ _ _ _
    refine retPv_mk rfl rfl rfl ⟨?_, rfl⟩
    refine (congrArg (fun b => [bo b]) (?_ : _ = _) : [bo _] = [bo _])
    exact bT (anyB_no (by omega) hf)


theorem firstFree_sat {nl0 : Option Bool} {lists : List (List Int)} (hlists : lists.length < 1000000000) (hllists : ∀ l ∈ lists, l.length < 1000000000) : SatAt Try.prog 38 [.pv false (.sl nl0 1 (lists.map ints))] [] (fun res rows => res = [i64 ((fhM lists).getD 0), bo (fhM lists).isSome] ∧ rows = []) := by
  refine sat_entry (ts := [2, 3]) Try.func38 rfl rfl (by decide) (Nat.le_of_ble_eq_true rfl) fun C hC => ?_
  rw [Try.ntmps38]
  replace hC : C.nb = 0 := hC
  refine vc_seq fun K1 hK1 => ?_
  refine vc_region ?_
  refine vo_assign_pv rfl rfl ?_
  refine vo_assign_pv rfl rfl ?_
  refine vo_nil ?_
  refine hK1 _ ?_
  refine vc_seq fun K2 hK2 => ?_
  refine vc_seq fun K3 hK3 => ?_
  refine vc_region ?_
  refine vo_move_pv rfl rfl ?_
  refine vo_len_pv rfl rfl Try.underlying23 ?_
  refine vo_move_pv rfl rfl ?_
  refine vo_nil ?_
  refine hK3 _ ?_
  refine vc_block ?_
  refine vc_stN ?_
  refine vc_loopF [0, 7, 8] [9] [.pv false (.sl nl0 1 (lists.map ints)), .pv false (.sl nl0 1 (lists.map ints)), i64 (lists.map ints).length] _ (fun mz vs => ∃ (k : Nat), mz = lists.length - k ∧ (k ≤ lists.length) ∧ (fhM lists = fhF lists (lists.drop k)) ∧ vs = [i64 k]) (lists.length) rfl rfl (le_len hC rfl) ⟨rfl, rfl, rfl⟩ ⟨0, rfl, Nat.zero_le _, rfl, rfl⟩ ?_
  rintro mz vs - ⟨k, rfl, hk, hf, rfl⟩
  refine vc_stN ?_
  refine vc_seq fun K4 hK4 => ?_
  refine vc_region ?_
  refine vo_binI rfl rfl rfl rfl trivial ?_
  refine vo_nil ?_
  refine hK4 _ ?_
  refine vc_seq fun K5 hK5 => ?_
  refine vc_cond rfl (fun hc1 => ?_) (fun hc1 => ?_)
  · try simp only [decide_eq_true_eq, decide_eq_false_iff_not, beq_iff_eq, bne_iff_ne, beq_eq_false_iff_ne, bne_eq_false_iff_eq, Bool.not_eq_true, Bool.not_eq_false, Bool.not_eq_eq_eq_not, Bool.not_true, Bool.not_false, List.length_map, Int.not_lt, Int.not_le, ne_eq, Decidable.not_not] at hc1
    refine vc_skip ?_
    refine hK5 _ ?_
    refine vc_seq fun K6 hK6 => ?_
    refine vc_block ?_
    refine vc_seq fun K7 hK7 => ?_
    refine vc_region ?_
    refine vo_index_pv (.sl none 1 []) rfl rfl rfl E23.und inf25 sz25 sd sd ?_
    simp only [Int.toNat_natCast, Int.toNat_zero, getD_ints, getD_intss, getD_bools, getD_bytes, PV.cells]
    refine vo_load_adr rfl rfl Try.underlying25 rfl ?_
    refine vo_assign_pv rfl rfl ?_
    refine vo_nil ?_
    refine hK7 _ ?_
    refine vc_seq fun K8 hK8 => ?_
    refine vc_region ?_
    refine vo_move_pv rfl rfl ?_
    refine vo_len_pv rfl rfl Try.underlying25 ?_
    refine vo_binI rfl rfl rfl rfl trivial ?_
    refine vo_move_pv rfl rfl ?_
    refine vo_split 16 rfl (fun hg2 => ?_) (fun hg2 => ?_)
    · try simp only [decide_eq_true_eq, decide_eq_false_iff_not, beq_iff_eq, bne_iff_ne, beq_eq_false_iff_ne, bne_eq_false_iff_eq, Bool.not_eq_true, Bool.not_eq_false, Bool.not_eq_eq_eq_not, Bool.not_true, Bool.not_false, List.length_map, Int.not_lt, Int.not_le, ne_eq, Decidable.not_not] at hg2
      refine vo_guard_on rfl rfl rfl ?_
      refine vo_move_pv rfl rfl ?_
      refine vo_guard_on rfl rfl rfl ?_
      refine vo_move_pv rfl rfl ?_
      refine vo_guard_on rfl rfl rfl ?_
      refine vo_index_pv (.int .i64 0) rfl rfl rfl E25.und inf3 sz3 sd sd ?_
      simp only [Int.toNat_natCast, Int.toNat_zero, getD_ints, getD_intss, getD_bools, getD_bytes, PV.cells]
      refine vo_guard_on rfl rfl rfl ?_
      refine vo_load_adr rfl rfl Try.underlying3 rfl ?_
      refine vo_guard_on rfl rfl rfl ?_
      refine vo_call0 Try.func44 rfl rfl rfl rfl (isBehind_sat hlists hllists) ?_
      rintro _ _ ⟨rfl, rfl⟩
      refine ⟨rfl, rfl, .inl rfl, ?_⟩
      refine vo_guard_on rfl rfl rfl ?_
      refine vo_not rfl rfl ?_
      refine vo_pick_t rfl rfl ?_
      refine vo_nil ?_
      refine hK8 _ ?_
      refine vc_cond rfl (fun hc3 => ?_) (fun hc3 => ?_)
      · try simp only [decide_eq_true_eq, decide_eq_false_iff_not, beq_iff_eq, bne_iff_ne, beq_eq_false_iff_ne, bne_eq_false_iff_eq, Bool.not_eq_true, Bool.not_eq_false, Bool.not_eq_eq_eq_not, Bool.not_true, Bool.not_false, List.length_map, Int.not_lt, Int.not_le, ne_eq, Decidable.not_not] at hc3
        refine vc_seq fun K9 hK9 => ?_
        refine vc_region ?_
        refine vo_move_pv rfl rfl ?_
        refine vo_index_pv (.int .i64 0) rfl rfl rfl E25.und inf3 sz3 sd sd ?_
        simp only [Int.toNat_natCast, Int.toNat_zero, getD_ints, getD_intss, getD_bools, getD_bytes, PV.cells]
        refine vo_load_adr rfl rfl Try.underlying3 rfl ?_
        refine vo_assign_pv rfl rfl ?_
        refine vo_assign_pv rfl rfl ?_
        refine vo_nil ?_
        refine hK9 _ ?_
        refine vc_ret ?_
        change retPv _ _ _ _ _
        refine retPv_mk rfl rfl rfl ⟨?_, rfl⟩
        have e : fhM lists = some ((lists.getD k []).getD 0 0) := by rw [hf, fhF_drop _ _ _ (by omega), freeH_t (by omega) (by simp_all)]
        rw [e]; rfl
      · try simp only [decide_eq_true_eq, decide_eq_false_iff_not, beq_iff_eq, bne_iff_ne, beq_eq_false_iff_ne, bne_eq_false_iff_eq, Bool.not_eq_true, Bool.not_eq_false, Bool.not_eq_eq_eq_not, Bool.not_true, Bool.not_false, List.length_map, Int.not_lt, Int.not_le, ne_eq, Decidable.not_not] at hc3
        refine vc_skip ?_
        refine hK6 _ ?_
        refine vc_region ?_
        refine vo_binI rfl rfl rfl rfl sd ?_
        refine vo_move_pv rfl rfl ?_
        refine vo_nil ?_
        change againF _ _ _ _ _ _ _ _ _
        refine againF_mk rfl rfl rfl rfl rfl rfl ⟨_, ?_, k + 1, rfl, ?_, ?_, rfl⟩
        · omega
        · omega
        · rw [hf, fhF_drop _ _ _ (by omega), freeH_f (by simp_all)]
    · try simp only [decide_eq_true_eq, decide_eq_false_iff_not, beq_iff_eq, bne_iff_ne, beq_eq_false_iff_ne, bne_eq_false_iff_eq, Bool.not_eq_true, Bool.not_eq_false, Bool.not_eq_eq_eq_not, Bool.not_true, Bool.not_false, List.length_map, Int.not_lt, Int.not_le, ne_eq, Decidable.not_not] at hg2
      refine vo_guard_off rfl rfl rfl rfl rfl ?_
      refine vo_guard_off rfl rfl rfl rfl rfl ?_
      refine vo_guard_off rfl rfl rfl rfl rfl ?_
      refine vo_guard_off rfl rfl rfl rfl rfl ?_
      refine vo_guard_off rfl rfl rfl rfl rfl ?_
      refine vo_guard_off rfl rfl rfl rfl rfl ?_
      refine vo_pick_f rfl rfl ?_
      refine vo_nil ?_
      refine hK8 _ ?_
      refine vc_cond_f rfl ?_
      refine vc_skip ?_
      refine hK6 _ ?_
      refine vc_region ?_
      refine vo_binI rfl rfl rfl rfl sd ?_
      refine vo_move_pv rfl rfl ?_
      refine vo_nil ?_
      change againF _ _ _ _ _ _ _ _ _
      refine againF_mk rfl rfl rfl rfl rfl rfl ⟨_, ?_, k + 1, rfl, ?_, ?_, rfl⟩
      · omega
      · omega
      · rw [hf, fhF_drop _ _ _ (by omega), freeH_f (by simp_all)]
  · try simp only [decide_eq_true_eq, decide_eq_false_iff_not, beq_iff_eq, bne_iff_ne, beq_eq_false_iff_ne, bne_eq_false_iff_eq, Bool.not_eq_true, Bool.not_eq_false, Bool.not_eq_eq_eq_not, Bool.not_true, Bool.not_false, List.length_map, Int.not_lt, Int.not_le, ne_eq, Decidable.not_not] at hc1
    refine vc_exit ?_
    refine hK2 _ ?_
    refine vc_seq fun K10 hK10 => ?_
    refine vc_region ?_
    refine vo_assign_pv rfl rfl ?_
    refine vo_nil ?_
    refine hK10 _ ?_
    refine vc_seq fun K11 hK11 => ?_
    refine vc_region ?_
    refine vo_move_pv rfl rfl ?_
    refine vo_assign_pv rfl rfl ?_
    refine vo_assign_pv rfl rfl ?_
    refine vo_nil ?_
    refine hK11 _ ?_
    refine vc_ret ?_
    change retPv _ _ _ _ _
    refine retPv_mk rfl rfl rfl ⟨?_, rfl⟩
    have e : fhM lists = none := by rw [hf, List.drop_of_length_le (by omega)]; rfl
    rw [e]; rfl


theorem firstHead_sat {nl0 : Option Bool} {lists : List (List Int)} (hlists : lists.length < 1000000000) (hllists : ∀ l ∈ lists, l.length < 1000000000) : SatAt Try.prog 42 [.pv false (.sl nl0 1 (lists.map ints))] [] (fun res rows => res = [i64 ((fhM lists).getD 0), bo (fhM lists).isSome] ∧ rows = []) := by
  refine sat_entry (ts := [2, 3]) Try.func42 rfl rfl (by decide) (Nat.le_of_ble_eq_true rfl) fun C hC => ?_
  rw [Try.ntmps42]
  replace hC : C.nb = 0 := hC
  refine vc_seq fun K1 hK1 => ?_
  refine vc_region ?_
  refine vo_assign_pv rfl rfl ?_
  refine vo_assign_pv rfl rfl ?_
  refine vo_nil ?_
  refine hK1 _ ?_
  refine vc_seq fun K2 hK2 => ?_
  refine vc_seq fun K3 hK3 => ?_
  refine vc_region ?_
  refine vo_assign_pv rfl rfl ?_
  refine vo_nil ?_
  refine hK3 _ ?_
  refine vc_block ?_
  refine vc_stN ?_
  refine vc_loopF [0] [4] [.pv false (.sl nl0 1 (lists.map ints))] _ (fun mz vs => ∃ (k : Nat), mz = lists.length - k ∧ (k ≤ lists.length) ∧ (fhM lists = fhF lists (lists.drop k)) ∧ vs = [i64 k]) (lists.length) rfl rfl (le_len hC rfl) ⟨rfl, rfl, rfl⟩ ⟨0, rfl, Nat.zero_le _, rfl, rfl⟩ ?_
  rintro mz vs - ⟨k, rfl, hk, hf, rfl⟩
  refine vc_stN ?_
  refine vc_seq fun K4 hK4 => ?_
  refine vc_seq fun K5 hK5 => ?_
  refine vc_region ?_
  refine vo_move_pv rfl rfl ?_
  refine vo_move_pv rfl rfl ?_
  refine vo_len_pv rfl rfl Try.underlying23 ?_
  refine vo_binI rfl rfl rfl rfl trivial ?_
  refine vo_nil ?_
  refine hK5 _ ?_
  refine vc_cond rfl (fun hc1 => ?_) (fun hc1 => ?_)
  · try simp only [decide_eq_true_eq, decide_eq_false_iff_not, beq_iff_eq, bne_iff_ne, beq_eq_false_iff_ne, bne_eq_false_iff_eq, Bool.not_eq_true, Bool.not_eq_false, Bool.not_eq_eq_eq_not, Bool.not_true, Bool.not_false, List.length_map, Int.not_lt, Int.not_le, ne_eq, Decidable.not_not] at hc1
    refine vc_skip ?_
    refine hK4 _ ?_
    refine vc_seq fun K6 hK6 => ?_
    refine vc_block ?_
    refine vc_seq fun K7 hK7 => ?_
    refine vc_region ?_
    refine vo_move_pv rfl rfl ?_
    refine vo_move_pv rfl rfl ?_
    refine vo_index_pv (.sl none 1 []) rfl rfl rfl E23.und inf25 sz25 sd sd ?_
    simp only [Int.toNat_natCast, Int.toNat_zero, getD_ints, getD_intss, getD_bools, getD_bytes, PV.cells]
    refine vo_load_adr rfl rfl Try.underlying25 rfl ?_
    refine vo_len_pv rfl rfl Try.underlying25 ?_
    refine vo_binI rfl rfl rfl rfl trivial ?_
    refine vo_move_pv rfl rfl ?_
    refine vo_split 17 rfl (fun hg2 => ?_) (fun hg2 => ?_)
    · try simp only [decide_eq_true_eq, decide_eq_false_iff_not, beq_iff_eq, bne_iff_ne, beq_eq_false_iff_ne, bne_eq_false_iff_eq, Bool.not_eq_true, Bool.not_eq_false, Bool.not_eq_eq_eq_not, Bool.not_true, Bool.not_false, List.length_map, Int.not_lt, Int.not_le, ne_eq, Decidable.not_not] at hg2
      refine vo_guard_on rfl rfl rfl ?_
      refine vo_move_pv rfl rfl ?_
      refine vo_guard_on rfl rfl rfl ?_
      refine vo_move_pv rfl rfl ?_
      refine vo_guard_on rfl rfl rfl ?_
      refine vo_move_pv rfl rfl ?_
      refine vo_guard_on rfl rfl rfl ?_
      refine vo_index_pv (.sl none 1 []) rfl rfl rfl E23.und inf25 sz25 sd sd ?_
      simp only [Int.toNat_natCast, Int.toNat_zero, getD_ints, getD_intss, getD_bools, getD_bytes, PV.cells]
      refine vo_guard_on rfl rfl rfl ?_
      refine vo_load_adr rfl rfl Try.underlying25 rfl ?_
      refine vo_guard_on rfl rfl rfl ?_
      refine vo_index_pv (.int .i64 0) rfl rfl rfl E25.und inf3 sz3 sd sd ?_
      simp only [Int.toNat_natCast, Int.toNat_zero, getD_ints, getD_intss, getD_bools, getD_bytes, PV.cells]
      refine vo_guard_on rfl rfl rfl ?_
      refine vo_load_adr rfl rfl Try.underlying3 rfl ?_
      refine vo_guard_on rfl rfl rfl ?_
      refine vo_call0 Try.func51 rfl rfl rfl rfl (goodHead_sat hlists hllists) ?_
      rintro _ _ ⟨rfl, rfl⟩
      refine ⟨rfl, rfl, .inl rfl, ?_⟩
      refine vo_pick_t rfl rfl ?_
      refine vo_nil ?_
      refine hK7 _ ?_
      refine vc_cond rfl (fun hc3 => ?_) (fun hc3 => ?_)
      · try simp only [decide_eq_true_eq, decide_eq_false_iff_not, beq_iff_eq, bne_iff_ne, beq_eq_false_iff_ne, bne_eq_false_iff_eq, Bool.not_eq_true, Bool.not_eq_false, Bool.not_eq_eq_eq_not, Bool.not_true, Bool.not_false, List.length_map, Int.not_lt, Int.not_le, ne_eq, Decidable.not_not] at hc3
        refine vc_seq fun K8 hK8 => ?_
        refine vc_region ?_
        refine vo_move_pv rfl rfl ?_
        refine vo_move_pv rfl rfl ?_
        refine vo_index_pv (.sl none 1 []) rfl rfl rfl E23.und inf25 sz25 sd sd ?_
        simp only [Int.toNat_natCast, Int.toNat_zero, getD_ints, getD_intss, getD_bools, getD_bytes, PV.cells]
        refine vo_load_adr rfl rfl Try.underlying25 rfl ?_
        refine vo_index_pv (.int .i64 0) rfl rfl rfl E25.und inf3 sz3 sd sd ?_
        simp only [Int.toNat_natCast, Int.toNat_zero, getD_ints, getD_intss, getD_bools, getD_bytes, PV.cells]
        refine vo_load_adr rfl rfl Try.underlying3 rfl ?_
        refine vo_assign_pv rfl rfl ?_
        refine vo_assign_pv rfl rfl ?_
        refine vo_nil ?_
        refine hK8 _ ?_
        refine vc_ret ?_
        change retPv _ _ _ _ _
        refine retPv_mk rfl rfl rfl ⟨?_, rfl⟩
        have e : fhM lists = some ((lists.getD k []).getD 0 0) := by rw [hf, fhF_drop _ _ _ (by omega), freeH_t (by omega) (by simp_all)]
        rw [e]; rfl
      · try simp only [decide_eq_true_eq, decide_eq_false_iff_not, beq_iff_eq, bne_iff_ne, beq_eq_false_iff_ne, bne_eq_false_iff_eq, Bool.not_eq_true, Bool.not_eq_false, Bool.not_eq_eq_eq_not, Bool.not_true, Bool.not_false, List.length_map, Int.not_lt, Int.not_le, ne_eq, Decidable.not_not] at hc3
        refine vc_skip ?_
        refine hK6 _ ?_
        refine vc_region ?_
        refine vo_move_pv rfl rfl ?_
        refine vo_binI rfl rfl rfl rfl sd ?_
        refine vo_assign_pv rfl rfl ?_
        refine vo_nil ?_
        change againF _ _ _ _ _ _ _ _ _
        refine againF_mk rfl rfl rfl rfl rfl rfl ⟨_, ?_, k + 1, rfl, ?_, ?_, rfl⟩
        · omega
        · omega
        · rw [hf, fhF_drop _ _ _ (by omega), freeH_f (by simp_all)]
    · try simp only [decide_eq_true_eq, decide_eq_false_iff_not, beq_iff_eq, bne_iff_ne, beq_eq_false_iff_ne, bne_eq_false_iff_eq, Bool.not_eq_true, Bool.not_eq_false, Bool.not_eq_eq_eq_not, Bool.not_true, Bool.not_false, List.length_map, Int.not_lt, Int.not_le, ne_eq, Decidable.not_not] at hg2
      refine vo_guard_off rfl rfl rfl rfl rfl ?_
      refine vo_guard_off rfl rfl rfl rfl rfl ?_
      refine vo_guard_off rfl rfl rfl rfl rfl ?_
      refine vo_guard_off rfl rfl rfl rfl rfl ?_
      refine vo_guard_off rfl rfl rfl rfl rfl ?_
      refine vo_guard_off rfl rfl rfl rfl rfl ?_
      refine vo_guard_off rfl rfl rfl rfl rfl ?_
      refine vo_guard_off rfl rfl rfl rfl rfl ?_
      refine vo_pick_f rfl rfl ?_
      refine vo_nil ?_
      refine hK7 _ ?_
      refine vc_cond_f rfl ?_
      refine vc_skip ?_
      refine hK6 _ ?_
      refine vc_region ?_
      refine vo_move_pv rfl rfl ?_
      refine vo_binI rfl rfl rfl rfl sd ?_
      refine vo_assign_pv rfl rfl ?_
      refine vo_nil ?_
      change againF _ _ _ _ _ _ _ _ _
      refine againF_mk rfl rfl rfl rfl rfl rfl ⟨_, ?_, k + 1, rfl, ?_, ?_, rfl⟩
      · omega
      · omega
      · rw [hf, fhF_drop _ _ _ (by omega), freeH_f (by simp_all)]
  · try simp only [decide_eq_true_eq, decide_eq_false_iff_not, beq_iff_eq, bne_iff_ne, beq_eq_false_iff_ne, bne_eq_false_iff_eq, Bool.not_eq_true, Bool.not_eq_false, Bool.not_eq_eq_eq_not, Bool.not_true, Bool.not_false, List.length_map, Int.not_lt, Int.not_le, ne_eq, Decidable.not_not] at hc1
    refine vc_exit ?_
    refine hK2 _ ?_
    refine vc_seq fun K9 hK9 => ?_
    refine vc_region ?_
    refine vo_assign_pv rfl rfl ?_
    refine vo_assign_pv rfl rfl ?_
    refine vo_nil ?_
    refine hK9 _ ?_
    refine vc_ret ?_
    change retPv _ _ _ _ _
    refine retPv_mk rfl rfl rfl ⟨?_, rfl⟩
    have e : fhM lists = none := by rw [hf, List.drop_of_length_le (by omega)]; rfl
    rw [e]; rfl

end Go.Vl

namespace Go.Vl
set_option linter.unusedVariables false
set_option linter.unusedSimpArgs false
open Go.Proofs
theorem take_dl (l : List Int) : (l.drop 1).take ((List.map intP l).length - 1) = l.drop 1 := List.take_of_length_le (by simp)

theorem withoutHead_sat {nl0 : Option Bool} {lists : List (List Int)} {x : Int} (hlists : lists.length < 1000000000) (hllists : ∀ l ∈ lists, l.length < 1000000000) : SatAt Try.prog 39 [.pv false (.sl nl0 1 (lists.map ints)), i64 x] [] (fun res rows => res = [.ref 0] ∧ rows = [Row.own 25 1 (some false) false ((lists.map (tk x)).map ints)]) := by
  refine sat_entry_g (ts := [4]) Try.func39 rfl rfl (by decide) (Nat.le_of_ble_eq_true rfl) fun C hC => ?_
  rw [Try.ntmps39]
  replace hC : C.nb = 0 := hC
  refine vc_seq fun K1 hK1 => ?_
  refine vc_region ?_
  refine vo_assign_pv rfl rfl ?_
  refine vo_nil ?_
  refine hK1 _ ?_
  refine vc_seq fun K2 hK2 => ?_
  refine vc_region ?_
  refine vo_move_pv rfl rfl ?_
  refine vo_len_pv rfl rfl Try.underlying23 ?_
  refine vo_make E23 rfl rfl rfl sd sd sd ?_
  refine vo_assign_ref rfl rfl ?_
  refine vo_nil ?_
  refine hK2 _ ?_
  refine vc_seq fun K3 hK3 => ?_
  refine vc_region ?_
  refine vo_move_ref rfl rfl ?_
  refine vo_move_pv rfl rfl ?_
  refine vo_copy rfl rfl rfl rfl Try.underlying23 inf25 sz25 (by simp) ?_
  refine vo_stN ?_
  refine vo_nil ?_
  refine hK3 _ ?_
  refine vc_seq fun K4 hK4 => ?_
  refine vc_seq fun K5 hK5 => ?_
  refine vc_region ?_
  refine vo_move_ref rfl rfl ?_
  refine vo_len_ref rfl rfl rfl Try.underlying23 ?_
  refine vo_move_pv rfl rfl ?_
  refine vo_nil ?_
  refine hK5 _ ?_
  refine vc_block ?_
  refine vc_stN ?_
  refine vc_loop [1, 5, 14, 15, 16] (fun mz vs rows => ∃ (k : Nat), mz = lists.length - k ∧ (k ≤ lists.length) ∧ vs = [i64 x, .ref 0, .ref 0, i64 ((lists.map ints).length : Nat), i64 k] ∧ rows = [Row.own 25 1 (some false) false (((lists.take k).map (tk x) ++ lists.drop k).map ints)]) (lists.length) (le_len hC rfl) ⟨rfl, rfl⟩ ⟨0, rfl, Nat.zero_le _, rfl, rfl⟩ ?_
  rintro mz vs rows - - ⟨k, rfl, hk, rfl, rfl⟩
  have hW : ((lists.take k).map (tk x) ++ lists.drop k).length = lists.length := by rw [List.length_append, List.length_map, List.length_take, List.length_drop]; omega
  have hE : k < lists.length → _ := fun h => map_at_tk (ls := lists) (k := k) h x
  refine vc_seq fun K6 hK6 => ?_
  refine vc_region ?_
  refine vo_binI rfl rfl rfl rfl trivial ?_
  refine vo_nil ?_
  refine hK6 _ ?_
  refine vc_seq fun K7 hK7 => ?_
  refine vc_cond rfl (fun hc1 => ?_) (fun hc1 => ?_)
  · try simp only [decide_eq_true_eq, decide_eq_false_iff_not, beq_iff_eq, bne_iff_ne, beq_eq_false_iff_ne, bne_eq_false_iff_eq, Bool.not_eq_true, Bool.not_eq_false, Bool.not_eq_eq_eq_not, Bool.not_true, Bool.not_false, List.length_map, Int.not_lt, Int.not_le, ne_eq, Decidable.not_not] at hc1
    refine vc_skip ?_
    refine hK7 _ ?_
    refine vc_seq fun K8 hK8 => ?_
    refine vc_block ?_
    refine vc_seq fun K9 hK9 => ?_
    refine vc_region ?_
    refine vo_move_pv rfl rfl ?_
    refine vo_index_ref rfl rfl rfl rfl E23.und inf25 sz25 sd sd ?_
    try simp only [Int.toNat_natCast]
    refine vo_load_own rfl rfl rfl Try.underlying25 rfl sd (getD_intss _ _) rfl ?_
    try simp only [Int.toNat_natCast]
    refine vo_assign_pv rfl rfl ?_
    refine vo_assign_pv rfl rfl ?_
    refine vo_nil ?_
    refine hK9 _ ?_
    refine vc_seq fun K10 hK10 => ?_
    refine vc_region ?_
    refine vo_move_pv rfl rfl ?_
    refine vo_len_pv rfl rfl Try.underlying25 ?_
    refine vo_binI rfl rfl rfl rfl trivial ?_
    refine vo_move_pv rfl rfl ?_
    refine vo_split 24 rfl (fun hg2 => ?_) (fun hg2 => ?_)
    · try simp only [decide_eq_true_eq, decide_eq_false_iff_not, beq_iff_eq, bne_iff_ne, beq_eq_false_iff_ne, bne_eq_false_iff_eq, Bool.not_eq_true, Bool.not_eq_false, Bool.not_eq_eq_eq_not, Bool.not_true, Bool.not_false, List.length_map, Int.not_lt, Int.not_le, ne_eq, Decidable.not_not] at hg2
      refine vo_guard_on rfl rfl rfl ?_
      refine vo_move_pv rfl rfl ?_
      refine vo_guard_on rfl rfl rfl ?_
      refine vo_index_pv (.int .i64 0) rfl rfl rfl E25.und inf3 sz3 sd sd ?_
      simp only [Int.toNat_natCast, Int.toNat_zero, getD_ints, getD_intss, getD_bools, getD_bytes, PV.cells]
      refine vo_guard_on rfl rfl rfl ?_
      refine vo_load_adr rfl rfl Try.underlying3 rfl ?_
      refine vo_guard_on rfl rfl rfl ?_
      refine vo_move_pv rfl rfl ?_
      refine vo_guard_on rfl rfl rfl ?_
      refine vo_binI rfl rfl rfl rfl trivial ?_
      refine vo_pick_t rfl rfl ?_
      refine vo_nil ?_
      refine hK10 _ ?_
      refine vc_cond rfl (fun hc3 => ?_) (fun hc3 => ?_)
      · try simp only [decide_eq_true_eq, decide_eq_false_iff_not, beq_iff_eq, bne_iff_ne, beq_eq_false_iff_ne, bne_eq_false_iff_eq, Bool.not_eq_true, Bool.not_eq_false, Bool.not_eq_eq_eq_not, Bool.not_true, Bool.not_false, List.length_map, Int.not_lt, Int.not_le, ne_eq, Decidable.not_not] at hc3
        refine vc_region ?_
        refine vo_move_ref rfl rfl ?_
        refine vo_move_pv rfl rfl ?_
        refine vo_move_pv rfl rfl ?_
        refine vo_slice_pv rfl rfl rfl rfl E25.und inf3 sz3 sd sd sd ?_
        simp only [Int.toNat_natCast, Int.toNat_zero, List.drop_zero, Nat.sub_zero, ← List.map_drop, ← List.map_take]
        refine vo_index_ref rfl rfl rfl rfl E23.und inf25 sz25 sd sd ?_
        try simp only [Int.toNat_natCast]
        refine vo_store_own rfl rfl rfl inf25 sz25 (by decide) rfl sd ?_
        try simp only [set_ints, set_intss, set_bools, rep_bools, rep_ints, Int.toNat_natCast, Int.toNat_zero]
        refine vo_nil ?_
        refine hK8 _ ?_
        refine vc_region ?_
        refine vo_binI rfl rfl rfl rfl sd ?_
        refine vo_move_pv rfl rfl ?_
        refine vo_nil ?_
        change again _ _ _ _ _ _
        refine again_mk rfl rfl rfl rfl ⟨_, ?_, k + 1, rfl, ?_, rfl, (congrArg (fun l => [Row.own 25 1 (some false) false (List.map ints l)]) (show _ = (lists.take (k+1)).map (tk x) ++ lists.drop (k+1) by rw [← map_set_tk (by omega), tk_t (by simp_all) (by simp_all)]; simp_all [List.take_of_length_le]))⟩
        · omega
        · omega
      · try simp only [decide_eq_true_eq, decide_eq_false_iff_not, beq_iff_eq, bne_iff_ne, beq_eq_false_iff_ne, bne_eq_false_iff_eq, Bool.not_eq_true, Bool.not_eq_false, Bool.not_eq_eq_eq_not, Bool.not_true, Bool.not_false, List.length_map, Int.not_lt, Int.not_le, ne_eq, Decidable.not_not] at hc3
        refine vc_skip ?_
        refine hK8 _ ?_
        refine vc_region ?_
        refine vo_binI rfl rfl rfl rfl sd ?_
        refine vo_move_pv rfl rfl ?_
        refine vo_nil ?_
        change again _ _ _ _ _ _
        refine again_mk rfl rfl rfl rfl ⟨_, ?_, k + 1, rfl, ?_, rfl, (congrArg (fun l => [Row.own 25 1 (some false) false (List.map ints l)]) (show (lists.take k).map (tk x) ++ lists.drop k = (lists.take (k+1)).map (tk x) ++ lists.drop (k+1) from map_keep_tk (by omega) x (tk_f (by simp_all))))⟩
        · omega
        · omega
    · try simp only [decide_eq_true_eq, decide_eq_false_iff_not, beq_iff_eq, bne_iff_ne, beq_eq_false_iff_ne, bne_eq_false_iff_eq, Bool.not_eq_true, Bool.not_eq_false, Bool.not_eq_eq_eq_not, Bool.not_true, Bool.not_false, List.length_map, Int.not_lt, Int.not_le, ne_eq, Decidable.not_not] at hg2
      refine vo_guard_off rfl rfl rfl rfl rfl ?_
      refine vo_guard_off rfl rfl rfl rfl rfl ?_
      refine vo_guard_off rfl rfl rfl rfl rfl ?_
      refine vo_guard_off rfl rfl rfl rfl rfl ?_
      refine vo_guard_off rfl rfl rfl rfl rfl ?_
      refine vo_pick_f rfl rfl ?_
      refine vo_nil ?_
      refine hK10 _ ?_
      refine vc_cond_f rfl ?_
      refine vc_skip ?_
      refine hK8 _ ?_
      refine vc_region ?_
      refine vo_binI rfl rfl rfl rfl sd ?_
      refine vo_move_pv rfl rfl ?_
      refine vo_nil ?_
      change again _ _ _ _ _ _
      refine again_mk rfl rfl rfl rfl ⟨_, ?_, k + 1, rfl, ?_, rfl, (congrArg (fun l => [Row.own 25 1 (some false) false (List.map ints l)]) (show (lists.take k).map (tk x) ++ lists.drop k = (lists.take (k+1)).map (tk x) ++ lists.drop (k+1) from map_keep_tk (by omega) x (tk_f (by simp_all))))⟩
      · omega
      · omega
  · try simp only [decide_eq_true_eq, decide_eq_false_iff_not, beq_iff_eq, bne_iff_ne, beq_eq_false_iff_ne, bne_eq_false_iff_eq, Bool.not_eq_true, Bool.not_eq_false, Bool.not_eq_eq_eq_not, Bool.not_true, Bool.not_false, List.length_map, Int.not_lt, Int.not_le, ne_eq, Decidable.not_not] at hc1
    refine vc_exit ?_
    refine hK4 _ ?_
    refine vc_seq fun K11 hK11 => ?_
    refine vc_region ?_
    refine vo_move_ref rfl rfl ?_
    refine vo_assign_ref rfl rfl ?_
    refine vo_nil ?_
    refine hK11 _ ?_
    refine vc_ret ?_
    change retG _ _ _ _ _
    refine retG_one 0 hC rfl rfl rfl rfl rfl ?_
    exact ⟨rfl, (congrArg (fun l => [Row.own 25 1 (some false) false (List.map ints l)]) (show (lists.take k).map (tk x) ++ lists.drop k = lists.map (tk x) by rw [take_all (by omega), List.drop_of_length_le (by omega), List.append_nil]))⟩


theorem take_sat {nl0 : Option Bool} {lists : List (List Int)} {x : Int} (hlists : lists.length < 1000000000) (hllists : ∀ l ∈ lists, l.length < 1000000000) : SatAt Try.prog 43 [.pv false (.sl nl0 1 (lists.map ints)), i64 x] [] (fun res rows => res = [.ref 0] ∧ rows = [Row.own 25 1 (some false) false ((lists.map (tk x)).map ints)]) := by
  refine sat_entry_g (ts := [4]) Try.func43 rfl rfl (by decide) (Nat.le_of_ble_eq_true rfl) fun C hC => ?_
  rw [Try.ntmps43]
  replace hC : C.nb = 0 := hC
  refine vc_seq fun K1 hK1 => ?_
  refine vc_region ?_
  refine vo_assign_pv rfl rfl ?_
  refine vo_nil ?_
  refine hK1 _ ?_
  refine vc_seq fun K2 hK2 => ?_
  refine vc_region ?_
  refine vo_buildSlice E23 rfl rfl rfl rfl rfl ?_
  refine vo_assign_ref rfl rfl ?_
  refine vo_nil ?_
  refine hK2 _ ?_
  refine vc_seq fun K3 hK3 => ?_
  refine vc_seq fun K4 hK4 => ?_
  refine vc_region ?_
  refine vo_assign_pv rfl rfl ?_
  refine vo_nil ?_
  refine hK4 _ ?_
  refine vc_block ?_
  refine vc_flagrow 0 rfl ?_
  refine vc_stN ?_
  refine vc_loop [0, 1, 5, 6] (fun mz vs rows => ∃ (k : Nat), mz = lists.length - k ∧ (k ≤ lists.length) ∧ vs = [.pv false (.sl nl0 1 (lists.map ints)), i64 x, .ref 0, i64 k] ∧ rows = [Row.own 25 1 (some false) false (((lists.take k).map (tk x)).map ints)]) (lists.length) (le_len hC rfl) ⟨rfl, rfl⟩ ⟨0, rfl, Nat.zero_le _, rfl, rfl⟩ ?_
  rintro mz vs rows - - ⟨k, rfl, hk, rfl, rfl⟩
  refine vc_seq fun K5 hK5 => ?_
  refine vc_seq fun K6 hK6 => ?_
  refine vc_region ?_
  refine vo_move_pv rfl rfl ?_
  refine vo_move_pv rfl rfl ?_
  refine vo_len_pv rfl rfl Try.underlying23 ?_
  refine vo_binI rfl rfl rfl rfl trivial ?_
  refine vo_nil ?_
  refine hK6 _ ?_
  refine vc_cond rfl (fun hc1 => ?_) (fun hc1 => ?_)
  · try simp only [decide_eq_true_eq, decide_eq_false_iff_not, beq_iff_eq, bne_iff_ne, beq_eq_false_iff_ne, bne_eq_false_iff_eq, Bool.not_eq_true, Bool.not_eq_false, Bool.not_eq_eq_eq_not, Bool.not_true, Bool.not_false, List.length_map, Int.not_lt, Int.not_le, ne_eq, Decidable.not_not] at hc1
    refine vc_skip ?_
    refine hK5 _ ?_
    refine vc_seq fun K7 hK7 => ?_
    refine vc_block ?_
    refine vc_seq fun K8 hK8 => ?_
    refine vc_region ?_
    refine vo_move_pv rfl rfl ?_
    refine vo_move_pv rfl rfl ?_
    refine vo_index_pv (.sl none 1 []) rfl rfl rfl E23.und inf25 sz25 sd sd ?_
    simp only [Int.toNat_natCast, Int.toNat_zero, getD_ints, getD_intss, getD_bools, getD_bytes, PV.cells]
    refine vo_load_adr rfl rfl Try.underlying25 rfl ?_
    refine vo_assign_pv rfl rfl ?_
    refine vo_nil ?_
    refine hK8 _ ?_
    refine vc_seq fun K9 hK9 => ?_
    refine vc_seq fun K10 hK10 => ?_
    refine vc_region ?_
    refine vo_move_pv rfl rfl ?_
    refine vo_len_pv rfl rfl Try.underlying25 ?_
    refine vo_binI rfl rfl rfl rfl trivial ?_
    refine vo_move_pv rfl rfl ?_
    refine vo_split 22 rfl (fun hg2 => ?_) (fun hg2 => ?_)
    · try simp only [decide_eq_true_eq, decide_eq_false_iff_not, beq_iff_eq, bne_iff_ne, beq_eq_false_iff_ne, bne_eq_false_iff_eq, Bool.not_eq_true, Bool.not_eq_false, Bool.not_eq_eq_eq_not, Bool.not_true, Bool.not_false, List.length_map, Int.not_lt, Int.not_le, ne_eq, Decidable.not_not] at hg2
      refine vo_guard_on rfl rfl rfl ?_
      refine vo_move_pv rfl rfl ?_
      refine vo_guard_on rfl rfl rfl ?_
      refine vo_index_pv (.int .i64 0) rfl rfl rfl E25.und inf3 sz3 sd sd ?_
      simp only [Int.toNat_natCast, Int.toNat_zero, getD_ints, getD_intss, getD_bools, getD_bytes, PV.cells]
      refine vo_guard_on rfl rfl rfl ?_
      refine vo_load_adr rfl rfl Try.underlying3 rfl ?_
      refine vo_guard_on rfl rfl rfl ?_
      refine vo_move_pv rfl rfl ?_
      refine vo_guard_on rfl rfl rfl ?_
      refine vo_binI rfl rfl rfl rfl trivial ?_
      refine vo_pick_t rfl rfl ?_
      refine vo_nil ?_
      refine hK10 _ ?_
      refine vc_cond rfl (fun hc3 => ?_) (fun hc3 => ?_)
      · try simp only [decide_eq_true_eq, decide_eq_false_iff_not, beq_iff_eq, bne_iff_ne, beq_eq_false_iff_ne, bne_eq_false_iff_eq, Bool.not_eq_true, Bool.not_eq_false, Bool.not_eq_eq_eq_not, Bool.not_true, Bool.not_false, List.length_map, Int.not_lt, Int.not_le, ne_eq, Decidable.not_not] at hc3
        refine vc_region ?_
        refine vo_move_pv rfl rfl ?_
        refine vo_slice_pv rfl rfl rfl rfl E25.und inf3 sz3 sd sd sd ?_
        simp only [Int.toNat_natCast, Int.toNat_zero, List.drop_zero, Nat.sub_zero, ← List.map_drop, ← List.map_take]
        refine vo_assign_pv rfl rfl ?_
        refine vo_nil ?_
        refine hK9 _ ?_
        refine vc_region ?_
        refine vo_move_ref rfl rfl ?_
        refine vo_move_pv rfl rfl ?_
        refine vo_weaken 32 rfl ?_
        refine vo_buildSlice E23 rfl rfl rfl rfl rfl ?_
        refine vo_append E23 rfl (by omega) rfl rfl rfl sd sd ?_
        refine vo_stN ?_
        try simp only [app_ints, app_intss, app_bools]
        refine vo_assign_ref rfl rfl ?_
        refine vo_nil ?_
        refine hK7 _ ?_
        refine vc_region ?_
        refine vo_move_pv rfl rfl ?_
        refine vo_binI rfl rfl rfl rfl sd ?_
        refine vo_assign_pv rfl rfl ?_
        refine vo_nil ?_
        change again _ _ _ _ _ _
        refine again_mk rfl rfl rfl rfl ⟨_, ?_, k + 1, rfl, ?_, rfl, (congrArg (fun l => [Row.own 25 1 (some false) false (List.map ints l)]) (show (lists.take k).map (tk x) ++ [((lists.getD k []).drop 1).take ((List.map intP (lists.getD k [])).length - 1)] = (lists.take (k+1)).map (tk x) by rw [take_dl, ← map_snoc_tk (by omega), tk_t (by simp_all) (by simp_all)]))⟩
        · omega
        · omega
      · try simp only [decide_eq_true_eq, decide_eq_false_iff_not, beq_iff_eq, bne_iff_ne, beq_eq_false_iff_ne, bne_eq_false_iff_eq, Bool.not_eq_true, Bool.not_eq_false, Bool.not_eq_eq_eq_not, Bool.not_true, Bool.not_false, List.length_map, Int.not_lt, Int.not_le, ne_eq, Decidable.not_not] at hc3
        refine vc_skip ?_
        refine hK9 _ ?_
        refine vc_region ?_
        refine vo_move_ref rfl rfl ?_
        refine vo_move_pv rfl rfl ?_
        refine vo_weaken 32 rfl ?_
        refine vo_buildSlice E23 rfl rfl rfl rfl rfl ?_
        refine vo_append E23 rfl (by omega) rfl rfl rfl sd sd ?_
        refine vo_stN ?_
        try simp only [app_ints, app_intss, app_bools]
        refine vo_assign_ref rfl rfl ?_
        refine vo_nil ?_
        refine hK7 _ ?_
        refine vc_region ?_
        refine vo_move_pv rfl rfl ?_
        refine vo_binI rfl rfl rfl rfl sd ?_
        refine vo_assign_pv rfl rfl ?_
        refine vo_nil ?_
        change again _ _ _ _ _ _
        refine again_mk rfl rfl rfl rfl ⟨_, ?_, k + 1, rfl, ?_, rfl, (congrArg (fun l => [Row.own 25 1 (some false) false (List.map ints l)]) (show (lists.take k).map (tk x) ++ [lists.getD k []] = (lists.take (k+1)).map (tk x) by rw [← map_snoc_tk (by omega), tk_f (by simp_all)]))⟩
        · omega
        · omega
    · try simp only [decide_eq_true_eq, decide_eq_false_iff_not, beq_iff_eq, bne_iff_ne, beq_eq_false_iff_ne, bne_eq_false_iff_eq, Bool.not_eq_true, Bool.not_eq_false, Bool.not_eq_eq_eq_not, Bool.not_true, Bool.not_false, List.length_map, Int.not_lt, Int.not_le, ne_eq, Decidable.not_not] at hg2
      refine vo_guard_off rfl rfl rfl rfl rfl ?_
      refine vo_guard_off rfl rfl rfl rfl rfl ?_
      refine vo_guard_off rfl rfl rfl rfl rfl ?_
      refine vo_guard_off rfl rfl rfl rfl rfl ?_
      refine vo_guard_off rfl rfl rfl rfl rfl ?_
      refine vo_pick_f rfl rfl ?_
      refine vo_nil ?_
      refine hK10 _ ?_
      refine vc_cond_f rfl ?_
      refine vc_skip ?_
      refine hK9 _ ?_
      refine vc_region ?_
      refine vo_move_ref rfl rfl ?_
      refine vo_move_pv rfl rfl ?_
      refine vo_weaken 32 rfl ?_
      refine vo_buildSlice E23 rfl rfl rfl rfl rfl ?_
      refine vo_append E23 rfl (by omega) rfl rfl rfl sd sd ?_
      refine vo_stN ?_
      try simp only [app_ints, app_intss, app_bools]
      refine vo_assign_ref rfl rfl ?_
      refine vo_nil ?_
      refine hK7 _ ?_
      refine vc_region ?_
      refine vo_move_pv rfl rfl ?_
      refine vo_binI rfl rfl rfl rfl sd ?_
      refine vo_assign_pv rfl rfl ?_
      refine vo_nil ?_
      change again _ _ _ _ _ _
      refine again_mk rfl rfl rfl rfl ⟨_, ?_, k + 1, rfl, ?_, rfl, (congrArg (fun l => [Row.own 25 1 (some false) false (List.map ints l)]) (show (lists.take k).map (tk x) ++ [lists.getD k []] = (lists.take (k+1)).map (tk x) by rw [← map_snoc_tk (by omega), tk_f (by simp_all)]))⟩
      · omega
      · omega
  · try simp only [decide_eq_true_eq, decide_eq_false_iff_not, beq_iff_eq, bne_iff_ne, beq_eq_false_iff_ne, bne_eq_false_iff_eq, Bool.not_eq_true, Bool.not_eq_false, Bool.not_eq_eq_eq_not, Bool.not_true, Bool.not_false, List.length_map, Int.not_lt, Int.not_le, ne_eq, Decidable.not_not] at hc1
    refine vc_exit ?_
    refine hK3 _ ?_
    refine vc_seq fun K11 hK11 => ?_
    refine vc_region ?_
    refine vo_move_ref rfl rfl ?_
    refine vo_assign_ref rfl rfl ?_
    refine vo_nil ?_
    refine hK11 _ ?_
    refine vc_ret ?_
    change retG _ _ _ _ _
    refine retG_one 0 hC rfl rfl rfl rfl rfl ?_
    exact ⟨rfl, (congrArg (fun l => [Row.own 25 1 (some false) false (List.map ints l)]) (show (lists.take k).map (tk x) = lists.map (tk x) by rw [take_all (by omega)]))⟩

end Go.Vl

namespace Go.Vl
set_option linter.unusedVariables false
set_option linter.unusedSimpArgs false
open Go.Proofs
theorem mg_step {ls : List (List Int)} {n : Nat} (h : (fhM ls).isSome = true) (hn : tot ls ≤ n) : tot (ls.map (tk ((fhM ls).getD 0))) < tot ls ∧ (mergeF n ls).1 = (fhM ls).getD 0 :: (mergeF (n-1) (ls.map (tk ((fhM ls).getD 0)))).1 ∧ (mergeF n ls).2 = (mergeF (n-1) (ls.map (tk ((fhM ls).getD 0)))).2 := by
  obtain ⟨x, hx⟩ := Option.isSome_iff_exists.1 h
  have h1 := fhM_tot hx
  rw [mergeF_some hx hn, hx]
  exact ⟨h1, rfl, rfl⟩
theorem mg_len {ls : List (List Int)} {x : Int} {N : Nat} (h : ∀ l ∈ ls, l.length < N) : ∀ l ∈ ls.map (tk x), l.length < N := by
  intro l hl
  obtain ⟨l', h1, rfl⟩ := List.mem_map.1 hl
  exact Nat.lt_of_le_of_lt (tk_len x l') (h _ h1)
theorem mg_none {ls : List (List Int)} {n : Nat} (h : ¬ (fhM ls).isSome = true) : mergeF n ls = ([], ls) := mergeF_none (by simpa using h)

theorem mergeAll_sat {nl0 : Option Bool} {lists : List (List Int)} (hlists : lists.length < 1000000000) (hllists : ∀ l ∈ lists, l.length < 1000000000) (ht : tot lists < 1000000000) : SatAt Try.prog 22 [.pv false (.sl nl0 1 (lists.map ints))] [] (fun res rows => res = [.ref 0, .pv false (.sl none 1 ((mergeM lists).2.map ints))] ∧ rows = [Row.own 3 1 none true (((mergeM lists).1).map intP)]) := by
  refine sat_entry_g (ts := [2, 3]) Try.func22 rfl rfl (by decide) (Nat.le_of_ble_eq_true rfl) fun C hC => ?_
  rw [Try.ntmps22]
  replace hC : C.nb = 0 := hC
  refine vc_seq fun K1 hK1 => ?_
  refine vc_region ?_
  refine vo_assign_pv rfl rfl ?_
  refine vo_assign_pv rfl rfl ?_
  refine vo_nil ?_
  refine hK1 _ ?_
  refine vc_seq fun K2 hK2 => ?_
  refine vc_region ?_
  refine vo_assign_pv rfl rfl ?_
  refine vo_nil ?_
  refine hK2 _ ?_
  refine vc_seq fun K3 hK3 => ?_
  refine vc_seq fun K4 hK4 => ?_
  refine vc_region ?_
  refine vo_move_pv rfl rfl ?_
  refine vo_call0 Try.func38 rfl rfl rfl rfl (firstFree_sat hlists hllists) ?_
  rintro _ _ ⟨rfl, rfl⟩
  refine ⟨rfl, rfl, .inl rfl, ?_⟩
  refine vo_move rfl ?_
  refine vo_extract rfl rfl rfl ?_
  refine vo_extract rfl rfl rfl ?_
  refine vo_assign_pv rfl rfl ?_
  refine vo_assign_pv rfl rfl ?_
  refine vo_nil ?_
  refine hK4 _ ?_
  refine vc_block ?_
  refine vc_own_nil 4 E25 rfl ?_
  refine vc_weaken 0 rfl ?_
  refine vc_stN ?_
  refine vc_loop [0, 4, 5, 6] (fun mz vs rows => ∃ (n : Nat) (ls : List (List Int)) (ys : List Int), mz = n ∧ (tot ls ≤ n) ∧ (ls.length = lists.length) ∧ (∀ l ∈ ls, l.length < 1000000000) ∧ (ys.length + tot ls ≤ tot lists) ∧ (ys ++ (mergeF n ls).1 = (mergeM lists).1) ∧ ((mergeF n ls).2 = (mergeM lists).2) ∧ vs = [.pv false (.sl none 1 (ls.map ints)), .ref 0, i64 ((fhM ls).getD 0), bo (fhM ls).isSome] ∧ rows = [Row.own 3 1 none true ((ys).map intP)]) (tot lists) (le_len hC rfl) ⟨rfl, rfl⟩ ⟨tot lists, lists, [], rfl, Nat.le_refl _, rfl, hllists, (by simp), rfl, rfl, rfl, rfl⟩ ?_
  rintro mz vs rows - - ⟨n, ls, ys, rfl, hn, hll, hle, hys, hm1, hm2, rfl, rfl⟩
  refine vc_seq fun K5 hK5 => ?_
  refine vc_seq fun K6 hK6 => ?_
  refine vc_region ?_
  refine vo_move_pv rfl rfl ?_
  refine vo_nil ?_
  refine hK6 _ ?_
  refine vc_cond rfl (fun hc1 => ?_) (fun hc1 => ?_)
  · try simp only [decide_eq_true_eq, decide_eq_false_iff_not, beq_iff_eq, bne_iff_ne, beq_eq_false_iff_ne, bne_eq_false_iff_eq, Bool.not_eq_true, Bool.not_eq_false, Bool.not_eq_eq_eq_not, Bool.not_true, Bool.not_false, List.length_map, Int.not_lt, Int.not_le, ne_eq, Decidable.not_not] at hc1
    refine vc_skip ?_
    refine hK5 _ ?_
    refine vc_seq fun K7 hK7 => ?_
    refine vc_block ?_
    refine vc_seq fun K8 hK8 => ?_
    refine vc_region ?_
    refine vo_move_ref rfl rfl ?_
    refine vo_move_pv rfl rfl ?_
    refine vo_buildSlice E25 rfl rfl rfl rfl rfl ?_
    refine vo_append E25 rfl (by omega) rfl rfl rfl sd sd ?_
    refine vo_stN ?_
    try simp only [app_ints, app_intss, app_bools]
    refine vo_assign_ref rfl rfl ?_
    refine vo_nil ?_
    refine hK8 _ ?_
    refine vc_region ?_
    refine vo_move_pv rfl rfl ?_
    refine vo_move_pv rfl rfl ?_
    refine vo_call [] Try.func39 rfl rfl rfl rfl rfl rfl rfl (withoutHead_sat (by omega) hle) ?_
    rintro _ _ ⟨rfl, rfl⟩
    refine ⟨Nat.le_of_ble_eq_true rfl, ⟨rfl, rfl, rfl⟩, .inl rfl, ?_⟩
    refine vo_stN ?_
    refine vo_expose 2 (by omega) rfl ?_
    refine vo_stN ?_
    refine vo_weaken 24 rfl ?_
    refine vo_flag 24 rfl ?_
    refine vo_stN ?_
    refine vo_assign_pv rfl rfl ?_
    refine vo_nil ?_
    refine hK7 _ ?_
    refine vc_region ?_
    refine vo_move_pv rfl rfl ?_
    refine vo_call0 Try.func38 rfl rfl rfl rfl (firstFree_sat (by simp; omega) (mg_len hle)) ?_
    rintro _ _ ⟨rfl, rfl⟩
    refine ⟨rfl, rfl, .inl rfl, ?_⟩
    refine vo_move rfl ?_
    refine vo_extract rfl rfl rfl ?_
    refine vo_extract rfl rfl rfl ?_
    refine vo_assign_pv rfl rfl ?_
    refine vo_assign_pv rfl rfl ?_
    refine vo_nil ?_
    change again _ _ _ _ _ _
    refine again_mk rfl rfl rfl rfl ⟨_, ?_, mz - 1, ls.map (tk ((fhM ls).getD 0)), ys ++ [((fhM ls).getD 0)], rfl, ?_, ?_, ?_, ?_, ?_, ?_, rfl, rfl⟩
    · have := (mg_step hc1 hn).1; omega
    · have := (mg_step hc1 hn).1; omega
    · rw [List.length_map]; exact hll
    · exact mg_len hle
    · have := (mg_step hc1 hn).1; rw [List.length_append, List.length_singleton]; omega
    · rw [← hm1, (mg_step hc1 hn).2.1, List.append_assoc]; rfl
    · rw [← hm2, (mg_step hc1 hn).2.2]
  · try simp only [decide_eq_true_eq, decide_eq_false_iff_not, beq_iff_eq, bne_iff_ne, beq_eq_false_iff_ne, bne_eq_false_iff_eq, Bool.not_eq_true, Bool.not_eq_false, Bool.not_eq_eq_eq_not, Bool.not_true, Bool.not_false, List.length_map, Int.not_lt, Int.not_le, ne_eq, Decidable.not_not] at hc1
    refine vc_exit ?_
    refine hK3 _ ?_
    refine vc_seq fun K9 hK9 => ?_
    refine vc_region ?_
    refine vo_move_ref rfl rfl ?_
    refine vo_move_pv rfl rfl ?_
    refine vo_assign_ref rfl rfl ?_
    refine vo_assign_pv rfl rfl ?_
    refine vo_nil ?_
    refine hK9 _ ?_
    refine vc_ret ?_
    change retG _ _ _ _ _
    refine retG_one 0 hC rfl rfl rfl rfl rfl ?_
    have e := mg_none (n := mz) (Bool.eq_false_iff.1 hc1)
    rw [e] at hm1 hm2
    rw [← hm1, ← hm2, List.append_nil]; exact ⟨rfl, rfl⟩


theorem merge_sat {nl0 : Option Bool} {lists : List (List Int)} (hlists : lists.length < 1000000000) (hllists : ∀ l ∈ lists, l.length < 1000000000) (ht : tot lists < 1000000000) : SatAt Try.prog 25 [.pv false (.sl nl0 1 (lists.map ints))] [] (fun res rows => res = [.ref 0, .pv false (.sl none 1 ((mergeM lists).2.map ints))] ∧ rows = [Row.own 3 1 (some false) true (((mergeM lists).1).map intP)]) := by
  refine sat_entry_g (ts := [2, 3]) Try.func25 rfl rfl (by decide) (Nat.le_of_ble_eq_true rfl) fun C hC => ?_
  rw [Try.ntmps25]
  replace hC : C.nb = 0 := hC
  refine vc_seq fun K1 hK1 => ?_
  refine vc_region ?_
  refine vo_assign_pv rfl rfl ?_
  refine vo_assign_pv rfl rfl ?_
  refine vo_nil ?_
  refine hK1 _ ?_
  refine vc_seq fun K2 hK2 => ?_
  refine vc_region ?_
  refine vo_buildSlice E25 rfl rfl rfl rfl rfl ?_
  refine vo_assign_ref rfl rfl ?_
  refine vo_nil ?_
  refine hK2 _ ?_
  refine vc_block ?_
  refine vc_weaken 0 rfl ?_
  refine vc_stN ?_
  refine vc_loop [0, 4] (fun mz vs rows => ∃ (n : Nat) (ls : List (List Int)) (ys : List Int), mz = n ∧ (tot ls ≤ n) ∧ (ls.length = lists.length) ∧ (∀ l ∈ ls, l.length < 1000000000) ∧ (ys.length + tot ls ≤ tot lists) ∧ (ys ++ (mergeF n ls).1 = (mergeM lists).1) ∧ ((mergeF n ls).2 = (mergeM lists).2) ∧ vs = [.pv false (.sl none 1 (ls.map ints)), .ref 0] ∧ rows = [Row.own 3 1 (some false) true ((ys).map intP)]) (tot lists) (le_len hC rfl) ⟨rfl, rfl⟩ ⟨tot lists, lists, [], rfl, Nat.le_refl _, rfl, hllists, (by simp), rfl, rfl, rfl, rfl⟩ ?_
  rintro mz vs rows - - ⟨n, ls, ys, rfl, hn, hll, hle, hys, hm1, hm2, rfl, rfl⟩
  refine vc_block ?_
  refine vc_seq fun K3 hK3 => ?_
  refine vc_region ?_
  refine vo_move_pv rfl rfl ?_
  refine vo_call0 Try.func42 rfl rfl rfl rfl (firstHead_sat (by omega) hle) ?_
  rintro _ _ ⟨rfl, rfl⟩
  refine ⟨rfl, rfl, .inl rfl, ?_⟩
  refine vo_move rfl ?_
  refine vo_extract rfl rfl rfl ?_
  refine vo_extract rfl rfl rfl ?_
  refine vo_assign_pv rfl rfl ?_
  refine vo_assign_pv rfl rfl ?_
  refine vo_nil ?_
  refine hK3 _ ?_
  refine vc_seq fun K4 hK4 => ?_
  refine vc_seq fun K5 hK5 => ?_
  refine vc_region ?_
  refine vo_move_pv rfl rfl ?_
  refine vo_not rfl rfl ?_
  refine vo_nil ?_
  refine hK5 _ ?_
  refine vc_cond rfl (fun hc1 => ?_) (fun hc1 => ?_)
  · try simp only [decide_eq_true_eq, decide_eq_false_iff_not, beq_iff_eq, bne_iff_ne, beq_eq_false_iff_ne, bne_eq_false_iff_eq, Bool.not_eq_true, Bool.not_eq_false, Bool.not_eq_eq_eq_not, Bool.not_true, Bool.not_false, List.length_map, Int.not_lt, Int.not_le, ne_eq, Decidable.not_not] at hc1
    refine vc_seq fun K6 hK6 => ?_
    refine vc_region ?_
    refine vo_move_ref rfl rfl ?_
    refine vo_move_pv rfl rfl ?_
    refine vo_assign_ref rfl rfl ?_
    refine vo_assign_pv rfl rfl ?_
    refine vo_nil ?_
    refine hK6 _ ?_
    refine vc_ret ?_
    change retG _ _ _ _ _
    refine retG_one 0 hC rfl rfl rfl rfl rfl ?_
    have e := mg_none (n := mz) (Bool.eq_false_iff.1 hc1)
    rw [e] at hm1 hm2
    rw [← hm1, ← hm2, List.append_nil]; exact ⟨rfl, rfl⟩
  · try simp only [decide_eq_true_eq, decide_eq_false_iff_not, beq_iff_eq, bne_iff_ne, beq_eq_false_iff_ne, bne_eq_false_iff_eq, Bool.not_eq_true, Bool.not_eq_false, Bool.not_eq_eq_eq_not, Bool.not_true, Bool.not_false, List.length_map, Int.not_lt, Int.not_le, ne_eq, Decidable.not_not] at hc1
    refine vc_skip ?_
    refine hK4 _ ?_
    refine vc_seq fun K7 hK7 => ?_
    refine vc_region ?_
    refine vo_move_ref rfl rfl ?_
    refine vo_move_pv rfl rfl ?_
    refine vo_buildSlice E25 rfl rfl rfl rfl rfl ?_
    refine vo_append E25 rfl (by omega) rfl rfl rfl sd sd ?_
    refine vo_stN ?_
    try simp only [app_ints, app_intss, app_bools]
    refine vo_assign_ref rfl rfl ?_
    refine vo_nil ?_
    refine hK7 _ ?_
    refine vc_region ?_
    refine vo_move_pv rfl rfl ?_
    refine vo_move_pv rfl rfl ?_
    refine vo_call [] Try.func43 rfl rfl rfl rfl rfl rfl rfl (take_sat (by omega) hle) ?_
    rintro _ _ ⟨rfl, rfl⟩
    refine ⟨Nat.le_of_ble_eq_true rfl, ⟨rfl, rfl, rfl⟩, .inl rfl, ?_⟩
    refine vo_stN ?_
    refine vo_expose 2 (by omega) rfl ?_
    refine vo_stN ?_
    refine vo_weaken 23 rfl ?_
    refine vo_flag 23 rfl ?_
    refine vo_stN ?_
    refine vo_assign_pv rfl rfl ?_
    refine vo_nil ?_
    change again _ _ _ _ _ _
    refine again_mk rfl rfl rfl rfl ⟨_, ?_, mz - 1, ls.map (tk ((fhM ls).getD 0)), ys ++ [((fhM ls).getD 0)], rfl, ?_, ?_, ?_, ?_, ?_, ?_, rfl, rfl⟩
    · have := (mg_step hc1 hn).1; omega
    · have := (mg_step hc1 hn).1; omega
    · rw [List.length_map]; exact hll
    · exact mg_len hle
    · have := (mg_step hc1 hn).1; rw [List.length_append, List.length_singleton]; omega
    · rw [← hm1, (mg_step hc1 hn).2.1, List.append_assoc]; rfl
    · rw [← hm2, (mg_step hc1 hn).2.2]

end Go.Vl

namespace Go.Vl
set_option linter.unusedVariables false
set_option linter.unusedSimpArgs false
open Go.Proofs
theorem tot_le {K : Nat} : ∀ {ls : List (List Int)}, (∀ l ∈ ls, l.length ≤ K) → tot ls ≤ ls.length * K
  | [], _ => Nat.zero_le _
  | a :: r, h => by
    have h1 := tot_le (ls := r) (fun l hl => h l (List.mem_cons_of_mem _ hl))
    have h2 := h a List.mem_cons_self
    simp only [tot, List.map_cons, List.sum_cons, List.length_cons, Nat.add_mul] at h1 ⊢
    omega
theorem OKLs.tot {ls : List (List Int)} (h : OKLs ls) : tot ls < 1000000000 := by
  have h1 := tot_le (K := 12) (ls := ls) (fun l hl => by have := (h.1 l hl).1; omega)
  have := h.2
  omega
theorem mgL_len (ls : List (List Int)) : (mergeM ls).2.length = ls.length := mergeF_len _ _
theorem mgL_mem {N : Nat} : ∀ (n : Nat) (ls : List (List Int)), (∀ l ∈ ls, l.length < N) → ∀ l ∈ (mergeF n ls).2, l.length < N
  | 0, ls, h => h
  | n+1, ls, h => by
    unfold mergeF
    split
    · exact h
    · exact mgL_mem n _ (mg_len h)
def mgOK (ls : List (List Int)) : Prop := OKLs ls ∧ hds (mergeM ls).2 = []
instance {ls : List (List Int)} : Decidable (mgOK ls) := by unfold mgOK; infer_instance
def mgR (ls : List (List Int)) : List Int := if mgOK ls then (mergeM ls).1 else []
def skR (ls : List (List Int)) : List Int := if OKLs ls then onceF [] (hds (mergeM ls).2) else []
theorem hds_take0 {ls : List (List Int)} {k : Nat} (h : k < ls.length) (h0 : hds (ls.take k) = []) (h1 : ¬ 0 < (ls.getD k []).length) : hds (ls.take (k+1)) = [] := by rw [hds_snoc h, h0, hd1_f h1]; rfl
theorem hds_ne {ls : List (List Int)} {k : Nat} (h : k < ls.length) (h1 : 0 < (ls.getD k []).length) : hds ls ≠ [] := by
  intro e
  have := hds_nil.1 e _ (getD_mem h [])
  rw [this] at h1; simp at h1
theorem onceL_len (l : List Int) : (onceF [] l).length ≤ l.length := by have := onceF_len l []; simpa using this
theorem hdsL (ls : List (List Int)) (k : Nat) : (hds (ls.take k)).length ≤ k := Nat.le_trans (hds_len _) (by rw [List.length_take]; omega)

theorem canMerge_sat {nl0 : Option Bool} {lists : List (List Int)} (hlists : lists.length < 1000000000) (hllists : ∀ l ∈ lists, l.length < 1000000000)  : SatAt Try.prog 21 [.pv false (.sl nl0 1 (lists.map ints))] [] (fun res rows => res = [bo (decide (OKLs lists))] ∧ rows = []) := by
  refine sat_entry (ts := [2]) Try.func21 rfl rfl (by decide) (Nat.le_of_ble_eq_true rfl) fun C hC => ?_
  rw [Try.ntmps21]
  replace hC : C.nb = 0 := hC
  refine vc_seq fun K1 hK1 => ?_
  refine vc_region ?_
  refine vo_assign_pv rfl rfl ?_
  refine vo_nil ?_
  refine hK1 _ ?_
  refine vc_seq fun K2 hK2 => ?_
  refine vc_seq fun K3 hK3 => ?_
  refine vc_region ?_
  refine vo_move_pv rfl rfl ?_
  refine vo_len_pv rfl rfl Try.underlying23 ?_
  refine vo_binI rfl rfl rfl rfl trivial ?_
  refine vo_nil ?_
  refine hK3 _ ?_
  refine vc_cond rfl (fun hc1 => ?_) (fun hc1 => ?_)
  · try simp only [decide_eq_true_eq, decide_eq_false_iff_not, beq_iff_eq, bne_iff_ne, beq_eq_false_iff_ne, bne_eq_false_iff_eq, Bool.not_eq_true, Bool.not_eq_false, Bool.not_eq_eq_eq_not, Bool.not_true, Bool.not_false, List.length_map, Int.not_lt, Int.not_le, ne_eq, Decidable.not_not] at hc1
    refine vc_seq fun K4 hK4 => ?_
    refine vc_region ?_
    refine vo_assign_pv rfl rfl ?_
    refine vo_nil ?_
    refine hK4 _ ?_
    refine vc_ret ?_
    change retPv _ _ _ _ _
    refine retPv_mk rfl rfl rfl ⟨?_, rfl⟩
    refine (congrArg (fun b => [bo b]) (?_ : _ = _) : [bo _] = [bo _])
    exact bF fun h => by have := h.2; omega
  · try simp only [decide_eq_true_eq, decide_eq_false_iff_not, beq_iff_eq, bne_iff_ne, beq_eq_false_iff_ne, bne_eq_false_iff_eq, Bool.not_eq_true, Bool.not_eq_false, Bool.not_eq_eq_eq_not, Bool.not_true, Bool.not_false, List.length_map, Int.not_lt, Int.not_le, ne_eq, Decidable.not_not] at hc1
    refine vc_skip ?_
    refine hK2 _ ?_
    refine vc_seq fun K5 hK5 => ?_
    refine vc_seq fun K6 hK6 => ?_
    refine vc_region ?_
    refine vo_move_pv rfl rfl ?_
    refine vo_len_pv rfl rfl Try.underlying23 ?_
    refine vo_move_pv rfl rfl ?_
    refine vo_nil ?_
    refine hK6 _ ?_
    refine vc_block ?_
    refine vc_stN ?_
    refine vc_loopF [8, 9] [10] [.pv false (.sl nl0 1 (lists.map ints)), i64 (lists.map ints).length] _ (fun mz vs => ∃ (k : Nat), mz = lists.length - k ∧ (k ≤ lists.length) ∧ (∀ l ∈ lists.take k, OKL l 12) ∧ vs = [i64 k]) (lists.length) rfl rfl (le_len hC rfl) ⟨rfl, rfl, rfl⟩ ⟨0, rfl, Nat.zero_le _, (by simp), rfl⟩ ?_
    rintro mz vs - ⟨k, rfl, hk, hf, rfl⟩
    refine vc_stN ?_
    refine vc_seq fun K7 hK7 => ?_
    refine vc_region ?_
    refine vo_binI rfl rfl rfl rfl trivial ?_
    refine vo_nil ?_
    refine hK7 _ ?_
    refine vc_seq fun K8 hK8 => ?_
    refine vc_cond rfl (fun hc2 => ?_) (fun hc2 => ?_)
    · try simp only [decide_eq_true_eq, decide_eq_false_iff_not, beq_iff_eq, bne_iff_ne, beq_eq_false_iff_ne, bne_eq_false_iff_eq, Bool.not_eq_true, Bool.not_eq_false, Bool.not_eq_eq_eq_not, Bool.not_true, Bool.not_false, List.length_map, Int.not_lt, Int.not_le, ne_eq, Decidable.not_not] at hc2
      refine vc_skip ?_
      refine hK8 _ ?_
      refine vc_seq fun K9 hK9 => ?_
      refine vc_block ?_
      refine vc_seq fun K10 hK10 => ?_
      refine vc_region ?_
      refine vo_index_pv (.sl none 1 []) rfl rfl rfl E23.und inf25 sz25 sd sd ?_
      simp only [Int.toNat_natCast, Int.toNat_zero, getD_ints, getD_intss, getD_bools, getD_bytes, PV.cells]
      refine vo_load_adr rfl rfl Try.underlying25 rfl ?_
      refine vo_assign_pv rfl rfl ?_
      refine vo_nil ?_
      refine hK10 _ ?_
      refine vc_seq fun K11 hK11 => ?_
      refine vc_region ?_
      refine vo_move_pv rfl rfl ?_
      refine vo_call0 Try.func37 rfl rfl rfl rfl (isList_sat (lens hllists _ (by omega))) ?_
      rintro _ _ ⟨rfl, rfl⟩
      refine ⟨rfl, rfl, .inl rfl, ?_⟩
      refine vo_not rfl rfl ?_
      refine vo_nil ?_
      refine hK11 _ ?_
      refine vc_cond rfl (fun hc3 => ?_) (fun hc3 => ?_)
      · try simp only [decide_eq_true_eq, decide_eq_false_iff_not, beq_iff_eq, bne_iff_ne, beq_eq_false_iff_ne, bne_eq_false_iff_eq, Bool.not_eq_true, Bool.not_eq_false, Bool.not_eq_eq_eq_not, Bool.not_true, Bool.not_false, List.length_map, Int.not_lt, Int.not_le, ne_eq, Decidable.not_not] at hc3
        refine vc_seq fun K12 hK12 => ?_
        refine vc_region ?_
        refine vo_assign_pv rfl rfl ?_
        refine vo_nil ?_
        refine hK12 _ ?_
        refine vc_ret ?_
        change retPv _ _ _ _ _
        refine retPv_mk rfl rfl rfl ⟨?_, rfl⟩
        refine (congrArg (fun b => [bo b]) (?_ : _ = _) : [bo _] = [bo _])
        exact bF fun h => hc3 (h.1 _ (getD_mem (show k < lists.length by omega) []))
      · try simp only [decide_eq_true_eq, decide_eq_false_iff_not, beq_iff_eq, bne_iff_ne, beq_eq_false_iff_ne, bne_eq_false_iff_eq, Bool.not_eq_true, Bool.not_eq_false, Bool.not_eq_eq_eq_not, Bool.not_true, Bool.not_false, List.length_map, Int.not_lt, Int.not_le, ne_eq, Decidable.not_not] at hc3
        refine vc_skip ?_
        refine hK9 _ ?_
        refine vc_region ?_
        refine vo_binI rfl rfl rfl rfl sd ?_
        refine vo_move_pv rfl rfl ?_
        refine vo_nil ?_
        change againF _ _ _ _ _ _ _ _ _
        refine againF_mk rfl rfl rfl rfl rfl rfl ⟨_, ?_, k + 1, rfl, ?_, ?_, rfl⟩
        · omega
        · omega
        · exact (all_take_succ (by omega) []).2 ⟨hf, hc3⟩
    · try simp only [decide_eq_true_eq, decide_eq_false_iff_not, beq_iff_eq, bne_iff_ne, beq_eq_false_iff_ne, bne_eq_false_iff_eq, Bool.not_eq_true, Bool.not_eq_false, Bool.not_eq_eq_eq_not, Bool.not_true, Bool.not_false, List.length_map, Int.not_lt, Int.not_le, ne_eq, Decidable.not_not] at hc2
      refine vc_exit ?_
      refine hK5 _ ?_
      refine vc_seq fun K13 hK13 => ?_
      refine vc_region ?_
      refine vo_assign_pv rfl rfl ?_
      refine vo_nil ?_
      refine hK13 _ ?_
      refine vc_ret ?_
      change retPv _ _ _ _ _
      refine retPv_mk rfl rfl rfl ⟨?_, rfl⟩
      refine (congrArg (fun b => [bo b]) (?_ : _ = _) : [bo _] = [bo _])
      rw [take_all (by omega)] at hf; exact bT ⟨hf, by omega⟩


theorem eachOnce_sat {nl0 : Option Bool} {list : List Int} (hlist : list.length < 1000000000)  : SatAt Try.prog 40 [.pv false (.sl nl0 1 (list.map intP))] [] (fun res rows => ∃ nl, res = [.ref 0] ∧ rows = [Row.own 3 1 nl true ((onceF [] list).map intP)]) := by
  refine sat_entry_g (ts := [2]) Try.func40 rfl rfl (by decide) (Nat.le_of_ble_eq_true rfl) fun C hC => ?_
  rw [Try.ntmps40]
  replace hC : C.nb = 0 := hC
  refine vc_seq fun K1 hK1 => ?_
  refine vc_region ?_
  refine vo_assign_pv rfl rfl ?_
  refine vo_nil ?_
  refine hK1 _ ?_
  refine vc_seq fun K2 hK2 => ?_
  refine vc_region ?_
  refine vo_assign_pv rfl rfl ?_
  refine vo_nil ?_
  refine hK2 _ ?_
  refine vc_seq fun K3 hK3 => ?_
  refine vc_seq fun K4 hK4 => ?_
  refine vc_region ?_
  refine vo_move_pv rfl rfl ?_
  refine vo_len_pv rfl rfl Try.underlying25 ?_
  refine vo_move_pv rfl rfl ?_
  refine vo_nil ?_
  refine hK4 _ ?_
  refine vc_block ?_
  refine vc_own_nil 3 E25 rfl ?_
  refine vc_stN ?_
  refine vc_loop [3, 6, 7, 8] (fun mz vs rows => ∃ (k : Nat) (acc : List Int), mz = list.length - k ∧ (k ≤ list.length) ∧ (onceF acc (list.drop k) = onceF [] list) ∧ (acc.length ≤ k) ∧ vs = [.ref 0, .pv false (.sl nl0 1 (list.map intP)), i64 (list.map intP).length, i64 k] ∧ rows = [Row.own 3 1 none true ((acc).map intP)]) (list.length) (le_len hC rfl) ⟨rfl, rfl⟩ ⟨0, [], rfl, Nat.zero_le _, rfl, (Nat.zero_le _), rfl, rfl⟩ ?_
  rintro mz vs rows - - ⟨k, acc, rfl, hk, hf, hl, rfl, rfl⟩
  refine vc_seq fun K5 hK5 => ?_
  refine vc_region ?_
  refine vo_binI rfl rfl rfl rfl trivial ?_
  refine vo_nil ?_
  refine hK5 _ ?_
  refine vc_seq fun K6 hK6 => ?_
  refine vc_cond rfl (fun hc1 => ?_) (fun hc1 => ?_)
  · try simp only [decide_eq_true_eq, decide_eq_false_iff_not, beq_iff_eq, bne_iff_ne, beq_eq_false_iff_ne, bne_eq_false_iff_eq, Bool.not_eq_true, Bool.not_eq_false, Bool.not_eq_eq_eq_not, Bool.not_true, Bool.not_false, List.length_map, Int.not_lt, Int.not_le, ne_eq, Decidable.not_not] at hc1
    refine vc_skip ?_
    refine hK6 _ ?_
    refine vc_seq fun K7 hK7 => ?_
    refine vc_block ?_
    refine vc_seq fun K8 hK8 => ?_
    refine vc_region ?_
    refine vo_index_pv (.int .i64 0) rfl rfl rfl E25.und inf3 sz3 sd sd ?_
    simp only [Int.toNat_natCast, Int.toNat_zero, getD_ints, getD_intss, getD_bools, getD_bytes, PV.cells]
    refine vo_load_adr rfl rfl Try.underlying3 rfl ?_
    refine vo_assign_pv rfl rfl ?_
    refine vo_nil ?_
    refine hK8 _ ?_
    refine vc_seq fun K9 hK9 => ?_
    refine vc_region ?_
    refine vo_move_ref rfl rfl ?_
    refine vo_move_pv rfl rfl ?_
    refine vo_call0 Try.func50 rfl rfl rfl rfl (Contains_sat (by omega)) ?_
    rintro _ _ ⟨rfl, rfl⟩
    refine ⟨rfl, rfl, .inr rfl, ?_⟩
    refine vo_not rfl rfl ?_
    refine vo_nil ?_
    refine hK9 _ ?_
    refine vc_cond rfl (fun hc2 => ?_) (fun hc2 => ?_)
    · try simp only [decide_eq_true_eq, decide_eq_false_iff_not, beq_iff_eq, bne_iff_ne, beq_eq_false_iff_ne, bne_eq_false_iff_eq, Bool.not_eq_true, Bool.not_eq_false, Bool.not_eq_eq_eq_not, Bool.not_true, Bool.not_false, List.length_map, Int.not_lt, Int.not_le, ne_eq, Decidable.not_not] at hc2
      refine vc_region ?_
      refine vo_move_ref rfl rfl ?_
      refine vo_move_pv rfl rfl ?_
      refine vo_buildSlice E25 rfl rfl rfl rfl rfl ?_
      refine vo_append E25 rfl (by omega) rfl rfl rfl sd sd ?_
      refine vo_stN ?_
      try simp only [app_ints, app_intss, app_bools]
      refine vo_assign_ref rfl rfl ?_
      refine vo_nil ?_
      refine hK7 _ ?_
      refine vc_region ?_
      refine vo_binI rfl rfl rfl rfl sd ?_
      refine vo_move_pv rfl rfl ?_
      refine vo_nil ?_
      change again _ _ _ _ _ _
      refine again_mk rfl rfl rfl rfl ⟨_, ?_, k + 1, acc ++ [list.getD k 0], rfl, ?_, ?_, ?_, rfl, rfl⟩
      · omega
      · omega
      · exact ((onceF_drop acc list k (by omega)).trans (by rw [if_neg hc2])).symm.trans hf
      · rw [List.length_append, List.length_singleton]; omega
    · try simp only [decide_eq_true_eq, decide_eq_false_iff_not, beq_iff_eq, bne_iff_ne, beq_eq_false_iff_ne, bne_eq_false_iff_eq, Bool.not_eq_true, Bool.not_eq_false, Bool.not_eq_eq_eq_not, Bool.not_true, Bool.not_false, List.length_map, Int.not_lt, Int.not_le, ne_eq, Decidable.not_not] at hc2
      refine vc_skip ?_
      refine hK7 _ ?_
      refine vc_region ?_
      refine vo_binI rfl rfl rfl rfl sd ?_
      refine vo_move_pv rfl rfl ?_
      refine vo_nil ?_
      change again _ _ _ _ _ _
      refine again_mk rfl rfl rfl rfl ⟨_, ?_, k + 1, acc, rfl, ?_, ?_, ?_, rfl, rfl⟩
      · omega
      · omega
      · exact ((onceF_drop acc list k (by omega)).trans (by rw [if_pos hc2])).symm.trans hf
      · omega
  · try simp only [decide_eq_true_eq, decide_eq_false_iff_not, beq_iff_eq, bne_iff_ne, beq_eq_false_iff_ne, bne_eq_false_iff_eq, Bool.not_eq_true, Bool.not_eq_false, Bool.not_eq_eq_eq_not, Bool.not_true, Bool.not_false, List.length_map, Int.not_lt, Int.not_le, ne_eq, Decidable.not_not] at hc1
    refine vc_exit ?_
    refine hK3 _ ?_
    refine vc_seq fun K10 hK10 => ?_
    refine vc_region ?_
    refine vo_move_ref rfl rfl ?_
    refine vo_assign_ref rfl rfl ?_
    refine vo_nil ?_
    refine hK10 _ ?_
    refine vc_ret ?_
    change retG _ _ _ _ _
    refine retG_one 0 hC rfl rfl rfl rfl rfl ?_
    exact ⟨_, rfl, rows_eq (g := intP) (by rw [← hf, List.drop_of_length_le (by omega)]; rfl)⟩


theorem heads_sat {nl0 : Option Bool} {lists : List (List Int)} (hlists : lists.length < 1000000000) (hllists : ∀ l ∈ lists, l.length < 1000000000)  : SatAt Try.prog 23 [.pv false (.sl nl0 1 (lists.map ints))] [] (fun res rows => ∃ nl, res = [.ref 0] ∧ rows = [Row.own 3 1 nl true ((onceF [] (hds lists)).map intP)]) := by
  refine sat_entry_g (ts := [2]) Try.func23 rfl rfl (by decide) (Nat.le_of_ble_eq_true rfl) fun C hC => ?_
  rw [Try.ntmps23]
  replace hC : C.nb = 0 := hC
  refine vc_seq fun K1 hK1 => ?_
  refine vc_region ?_
  refine vo_assign_pv rfl rfl ?_
  refine vo_nil ?_
  refine hK1 _ ?_
  refine vc_seq fun K2 hK2 => ?_
  refine vc_region ?_
  refine vo_assign_pv rfl rfl ?_
  refine vo_nil ?_
  refine hK2 _ ?_
  refine vc_seq fun K3 hK3 => ?_
  refine vc_seq fun K4 hK4 => ?_
  refine vc_region ?_
  refine vo_move_pv rfl rfl ?_
  refine vo_len_pv rfl rfl Try.underlying23 ?_
  refine vo_move_pv rfl rfl ?_
  refine vo_nil ?_
  refine hK4 _ ?_
  refine vc_block ?_
  refine vc_own_nil 3 E25 rfl ?_
  refine vc_stN ?_
  refine vc_loop [3, 6, 7, 8] (fun mz vs rows => ∃ (k : Nat), mz = lists.length - k ∧ (k ≤ lists.length) ∧ vs = [.ref 0, .pv false (.sl nl0 1 (lists.map ints)), i64 (lists.map ints).length, i64 k] ∧ rows = [Row.own 3 1 none true ((hds (lists.take k)).map intP)]) (lists.length) (le_len hC rfl) ⟨rfl, rfl⟩ ⟨0, rfl, Nat.zero_le _, rfl, rfl⟩ ?_
  rintro mz vs rows - - ⟨k, rfl, hk, rfl, rfl⟩
  have hL := hdsL lists k
  refine vc_seq fun K5 hK5 => ?_
  refine vc_region ?_
  refine vo_binI rfl rfl rfl rfl trivial ?_
  refine vo_nil ?_
  refine hK5 _ ?_
  refine vc_seq fun K6 hK6 => ?_
  refine vc_cond rfl (fun hc1 => ?_) (fun hc1 => ?_)
  · try simp only [decide_eq_true_eq, decide_eq_false_iff_not, beq_iff_eq, bne_iff_ne, beq_eq_false_iff_ne, bne_eq_false_iff_eq, Bool.not_eq_true, Bool.not_eq_false, Bool.not_eq_eq_eq_not, Bool.not_true, Bool.not_false, List.length_map, Int.not_lt, Int.not_le, ne_eq, Decidable.not_not] at hc1
    refine vc_skip ?_
    refine hK6 _ ?_
    refine vc_seq fun K7 hK7 => ?_
    refine vc_block ?_
    refine vc_seq fun K8 hK8 => ?_
    refine vc_region ?_
    refine vo_index_pv (.sl none 1 []) rfl rfl rfl E23.und inf25 sz25 sd sd ?_
    simp only [Int.toNat_natCast, Int.toNat_zero, getD_ints, getD_intss, getD_bools, getD_bytes, PV.cells]
    refine vo_load_adr rfl rfl Try.underlying25 rfl ?_
    refine vo_assign_pv rfl rfl ?_
    refine vo_nil ?_
    refine hK8 _ ?_
    refine vc_seq fun K9 hK9 => ?_
    refine vc_region ?_
    refine vo_move_pv rfl rfl ?_
    refine vo_len_pv rfl rfl Try.underlying25 ?_
    refine vo_binI rfl rfl rfl rfl trivial ?_
    refine vo_nil ?_
    refine hK9 _ ?_
    refine vc_cond rfl (fun hc2 => ?_) (fun hc2 => ?_)
    · try simp only [decide_eq_true_eq, decide_eq_false_iff_not, beq_iff_eq, bne_iff_ne, beq_eq_false_iff_ne, bne_eq_false_iff_eq, Bool.not_eq_true, Bool.not_eq_false, Bool.not_eq_eq_eq_not, Bool.not_true, Bool.not_false, List.length_map, Int.not_lt, Int.not_le, ne_eq, Decidable.not_not] at hc2
      refine vc_region ?_
      refine vo_move_ref rfl rfl ?_
      refine vo_move_pv rfl rfl ?_
      refine vo_index_pv (.int .i64 0) rfl rfl rfl E25.und inf3 sz3 sd sd ?_
      simp only [Int.toNat_natCast, Int.toNat_zero, getD_ints, getD_intss, getD_bools, getD_bytes, PV.cells]
      refine vo_load_adr rfl rfl Try.underlying3 rfl ?_
      refine vo_buildSlice E25 rfl rfl rfl rfl rfl ?_
      refine vo_append E25 rfl (by omega) rfl rfl rfl sd sd ?_
      refine vo_stN ?_
      try simp only [app_ints, app_intss, app_bools]
      refine vo_assign_ref rfl rfl ?_
      refine vo_nil ?_
      refine hK7 _ ?_
      refine vc_region ?_
      refine vo_binI rfl rfl rfl rfl sd ?_
      refine vo_move_pv rfl rfl ?_
      refine vo_nil ?_
      change again _ _ _ _ _ _
      refine again_mk rfl rfl rfl rfl ⟨_, ?_, k + 1, rfl, ?_, rfl, (congrArg (fun l => [Row.own 3 1 none true (List.map intP l)]) (show hds (lists.take k) ++ [(lists.getD k []).getD 0 0] = hds (lists.take (k+1)) by rw [hds_snoc (by omega), hd1_t (by omega)]))⟩
      · omega
      · omega
    · try simp only [decide_eq_true_eq, decide_eq_false_iff_not, beq_iff_eq, bne_iff_ne, beq_eq_false_iff_ne, bne_eq_false_iff_eq, Bool.not_eq_true, Bool.not_eq_false, Bool.not_eq_eq_eq_not, Bool.not_true, Bool.not_false, List.length_map, Int.not_lt, Int.not_le, ne_eq, Decidable.not_not] at hc2
      refine vc_skip ?_
      refine hK7 _ ?_
      refine vc_region ?_
      refine vo_binI rfl rfl rfl rfl sd ?_
      refine vo_move_pv rfl rfl ?_
      refine vo_nil ?_
      change again _ _ _ _ _ _
      refine again_mk rfl rfl rfl rfl ⟨_, ?_, k + 1, rfl, ?_, rfl, (congrArg (fun l => [Row.own 3 1 none true (List.map intP l)]) (show hds (lists.take k) = hds (lists.take (k+1)) by rw [hds_snoc (by omega), hd1_f (by omega), List.append_nil]))⟩
      · omega
      · omega
  · try simp only [decide_eq_true_eq, decide_eq_false_iff_not, beq_iff_eq, bne_iff_ne, beq_eq_false_iff_ne, bne_eq_false_iff_eq, Bool.not_eq_true, Bool.not_eq_false, Bool.not_eq_eq_eq_not, Bool.not_true, Bool.not_false, List.length_map, Int.not_lt, Int.not_le, ne_eq, Decidable.not_not] at hc1
    refine vc_exit ?_
    refine hK3 _ ?_
    refine vc_seq fun K10 hK10 => ?_
    refine vc_region ?_
    refine vo_move_ref rfl rfl ?_
    refine vo_expose 0 (by omega) rfl ?_
    refine vo_weaken 22 rfl ?_
    refine vo_stN ?_
    refine vo_call [] Try.func40 rfl rfl rfl rfl rfl rfl rfl (eachOnce_sat (list := hds (lists.take k)) (by have := hdsL lists k; omega)) ?_
    rintro _ _ ⟨nl9, rfl, rfl⟩
    refine ⟨Nat.le_of_ble_eq_true rfl, ⟨rfl, rfl, rfl⟩, .inl rfl, ?_⟩
    refine vo_stN ?_
    refine vo_assign_ref rfl rfl ?_
    refine vo_nil ?_
    refine hK10 _ ?_
    refine vc_ret ?_
    change retG _ _ _ _ _
    refine retG_one 1 hC rfl rfl rfl rfl rfl ?_
    exact ⟨_, rfl, rows_eq (g := intP) (by rw [take_all (by omega)])⟩


theorem empty_sat {nl0 : Option Bool} {lists : List (List Int)} (hlists : lists.length < 1000000000) (hllists : ∀ l ∈ lists, l.length < 1000000000)  : SatAt Try.prog 26 [.pv false (.sl nl0 1 (lists.map ints))] [] (fun res rows => res = [bo (decide (hds lists = []))] ∧ rows = []) := by
  refine sat_entry (ts := [2]) Try.func26 rfl rfl (by decide) (Nat.le_of_ble_eq_true rfl) fun C hC => ?_
  rw [Try.ntmps26]
  replace hC : C.nb = 0 := hC
  refine vc_seq fun K1 hK1 => ?_
  refine vc_region ?_
  refine vo_assign_pv rfl rfl ?_
  refine vo_nil ?_
  refine hK1 _ ?_
  refine vc_seq fun K2 hK2 => ?_
  refine vc_seq fun K3 hK3 => ?_
  refine vc_region ?_
  refine vo_assign_pv rfl rfl ?_
  refine vo_nil ?_
  refine hK3 _ ?_
  refine vc_block ?_
  refine vc_stN ?_
  refine vc_loopF [0] [3] [.pv false (.sl nl0 1 (lists.map ints))] _ (fun mz vs => ∃ (k : Nat), mz = lists.length - k ∧ (k ≤ lists.length) ∧ (hds (lists.take k) = []) ∧ vs = [i64 k]) (lists.length) rfl rfl (le_len hC rfl) ⟨rfl, rfl, rfl⟩ ⟨0, rfl, Nat.zero_le _, rfl, rfl⟩ ?_
  rintro mz vs - ⟨k, rfl, hk, hf, rfl⟩
  refine vc_stN ?_
  refine vc_seq fun K4 hK4 => ?_
  refine vc_seq fun K5 hK5 => ?_
  refine vc_region ?_
  refine vo_move_pv rfl rfl ?_
  refine vo_move_pv rfl rfl ?_
  refine vo_len_pv rfl rfl Try.underlying23 ?_
  refine vo_binI rfl rfl rfl rfl trivial ?_
  refine vo_nil ?_
  refine hK5 _ ?_
  refine vc_cond rfl (fun hc1 => ?_) (fun hc1 => ?_)
  · try simp only [decide_eq_true_eq, decide_eq_false_iff_not, beq_iff_eq, bne_iff_ne, beq_eq_false_iff_ne, bne_eq_false_iff_eq, Bool.not_eq_true, Bool.not_eq_false, Bool.not_eq_eq_eq_not, Bool.not_true, Bool.not_false, List.length_map, Int.not_lt, Int.not_le, ne_eq, Decidable.not_not] at hc1
    refine vc_skip ?_
    refine hK4 _ ?_
    refine vc_seq fun K6 hK6 => ?_
    refine vc_block ?_
    refine vc_seq fun K7 hK7 => ?_
    refine vc_region ?_
    refine vo_move_pv rfl rfl ?_
    refine vo_move_pv rfl rfl ?_
    refine vo_index_pv (.sl none 1 []) rfl rfl rfl E23.und inf25 sz25 sd sd ?_
    simp only [Int.toNat_natCast, Int.toNat_zero, getD_ints, getD_intss, getD_bools, getD_bytes, PV.cells]
    refine vo_load_adr rfl rfl Try.underlying25 rfl ?_
    refine vo_len_pv rfl rfl Try.underlying25 ?_
    refine vo_binI rfl rfl rfl rfl trivial ?_
    refine vo_nil ?_
    refine hK7 _ ?_
    refine vc_cond rfl (fun hc2 => ?_) (fun hc2 => ?_)
    · try simp only [decide_eq_true_eq, decide_eq_false_iff_not, beq_iff_eq, bne_iff_ne, beq_eq_false_iff_ne, bne_eq_false_iff_eq, Bool.not_eq_true, Bool.not_eq_false, Bool.not_eq_eq_eq_not, Bool.not_true, Bool.not_false, List.length_map, Int.not_lt, Int.not_le, ne_eq, Decidable.not_not] at hc2
      refine vc_seq fun K8 hK8 => ?_
      refine vc_region ?_
      refine vo_assign_pv rfl rfl ?_
      refine vo_nil ?_
      refine hK8 _ ?_
      refine vc_ret ?_
      change retPv _ _ _ _ _
      refine retPv_mk rfl rfl rfl ⟨?_, rfl⟩
      refine (congrArg (fun b => [bo b]) (?_ : _ = _) : [bo _] = [bo _])
      exact bF (hds_ne (k := k) (by omega) (by omega))
    · try simp only [decide_eq_true_eq, decide_eq_false_iff_not, beq_iff_eq, bne_iff_ne, beq_eq_false_iff_ne, bne_eq_false_iff_eq, Bool.not_eq_true, Bool.not_eq_false, Bool.not_eq_eq_eq_not, Bool.not_true, Bool.not_false, List.length_map, Int.not_lt, Int.not_le, ne_eq, Decidable.not_not] at hc2
      refine vc_skip ?_
      refine hK6 _ ?_
      refine vc_region ?_
      refine vo_move_pv rfl rfl ?_
      refine vo_binI rfl rfl rfl rfl sd ?_
      refine vo_assign_pv rfl rfl ?_
      refine vo_nil ?_
      change againF _ _ _ _ _ _ _ _ _
      refine againF_mk rfl rfl rfl rfl rfl rfl ⟨_, ?_, k + 1, rfl, ?_, ?_, rfl⟩
      · omega
      · omega
      · exact hds_take0 (by omega) hf (by omega)
  · try simp only [decide_eq_true_eq, decide_eq_false_iff_not, beq_iff_eq, bne_iff_ne, beq_eq_false_iff_ne, bne_eq_false_iff_eq, Bool.not_eq_true, Bool.not_eq_false, Bool.not_eq_eq_eq_not, Bool.not_true, Bool.not_false, List.length_map, Int.not_lt, Int.not_le, ne_eq, Decidable.not_not] at hc1
    refine vc_exit ?_
    refine hK2 _ ?_
    refine vc_seq fun K9 hK9 => ?_
    refine vc_region ?_
    refine vo_assign_pv rfl rfl ?_
    refine vo_nil ?_
    refine hK9 _ ?_
    refine vc_ret ?_
    change retPv _ _ _ _ _
    refine retPv_mk rfl rfl rfl ⟨?_, rfl⟩
    refine (congrArg (fun b => [bo b]) (?_ : _ = _) : [bo _] = [bo _])
    rw [take_all (by omega)] at hf; exact bT hf

end Go.Vl

namespace Go.Vl
set_option linter.unusedVariables false
set_option linter.unusedSimpArgs false
open Go.Proofs
theorem onceF_snoc : ∀ (l acc : List Int) (x : Int), onceF acc (l ++ [x]) = if x ∈ onceF acc l then onceF acc l else onceF acc l ++ [x]
  | [], acc, x => rfl
  | y :: l, acc, x => onceF_snoc l (if y ∈ acc then acc else acc ++ [y]) x
theorem mgR_no {ls : List (List Int)} (h : ¬ mgOK ls) : mgR ls = [] := if_neg h
theorem mgR_yes {ls : List (List Int)} (h : mgOK ls) : mgR ls = (mergeM ls).1 := if_pos h
theorem skR_no {ls : List (List Int)} (h : ¬ OKLs ls) : skR ls = [] := if_neg h
theorem skR_yes {ls : List (List Int)} (h : OKLs ls) : skR ls = onceF [] (hds (mergeM ls).2) := if_pos h
theorem mgL_all {ls : List (List Int)} {N : Nat} (h : ∀ l ∈ ls, l.length < N) : ∀ l ∈ (mergeM ls).2, l.length < N := mgL_mem _ _ h
theorem mgO_len (ls : List (List Int)) : (mergeM ls).1.length ≤ tot ls := by have := mergeF_tot (tot ls) ls; unfold mergeM; omega
theorem mgR_len {ls : List (List Int)} : (mgR ls).length < 1000000000 := by
  by_cases h : mgOK ls
  · rw [mgR_yes h]; exact Nat.lt_of_le_of_lt (mgO_len ls) h.1.tot
  · rw [mgR_no h]; simp
theorem once0 {l : List Int} (h : ¬ 0 < (onceF [] l).length) : l = [] := once_nil.1 (List.eq_nil_of_length_eq_zero (by omega))
theorem once1 {l : List Int} (h : 0 < (onceF [] l).length) : l ≠ [] := fun e => by rw [e] at h; simp [onceF] at h
theorem skR_len {ls : List (List Int)} (hl : ls.length < 1000000000) : (skR ls).length < 1000000000 := by
  by_cases h : OKLs ls
  · rw [skR_yes h]
    have h1 := onceL_len (hds (mergeM ls).2)
    have h2 := hds_len (mergeM ls).2
    rw [mgL_len] at h2
    omega
  · rw [skR_no h]; simp
theorem once_take {ls : List (List Int)} {k : Nat} (h : k < ls.length) (h1 : 0 < (ls.getD k []).length) : onceF [] (hds (ls.take (k+1))) = if (ls.getD k []).getD 0 0 ∈ onceF [] (hds (ls.take k)) then onceF [] (hds (ls.take k)) else onceF [] (hds (ls.take k)) ++ [(ls.getD k []).getD 0 0] := by
  rw [hds_snoc h, hd1_t h1, onceF_snoc]
theorem once_keep {ls : List (List Int)} {k : Nat} (h : k < ls.length) (h1 : ¬ 0 < (ls.getD k []).length) : onceF [] (hds (ls.take (k+1))) = onceF [] (hds (ls.take k)) := by rw [hds_snoc h, hd1_f h1, List.append_nil]

theorem implMergeLists_sat {nl0 : Option Bool} {lists : List (List Int)} (hlists : lists.length < 1000000000) (hllists : ∀ l ∈ lists, l.length < 1000000000) : SatAt Try.prog 6 [.pv false (.sl nl0 1 (lists.map ints))] [] (fun res rows => ∃ nl, res = [.ref 0, bo (decide (mgOK lists))] ∧ rows = [Row.own 3 1 nl true ((mgR lists).map intP)]) := by
  refine sat_entry_g (ts := [2, 3]) Try.func6 rfl rfl (by decide) (Nat.le_of_ble_eq_true rfl) fun C hC => ?_
  rw [Try.ntmps6]
  replace hC : C.nb = 0 := hC
  refine vc_seq fun K1 hK1 => ?_
  refine vc_region ?_
  refine vo_assign_pv rfl rfl ?_
  refine vo_assign_pv rfl rfl ?_
  refine vo_nil ?_
  refine hK1 _ ?_
  refine vc_seq fun K2 hK2 => ?_
  refine vc_seq fun K3 hK3 => ?_
  refine vc_region ?_
  refine vo_move_pv rfl rfl ?_
  refine vo_call0 Try.func21 rfl rfl rfl rfl (canMerge_sat hlists hllists) ?_
  rintro _ _ ⟨rfl, rfl⟩
  refine ⟨rfl, rfl, .inl rfl, ?_⟩
  refine vo_not rfl rfl ?_
  refine vo_nil ?_
  refine hK3 _ ?_
  refine vc_cond rfl (fun hc1 => ?_) (fun hc1 => ?_)
  · try simp only [decide_eq_true_eq, decide_eq_false_iff_not, beq_iff_eq, bne_iff_ne, beq_eq_false_iff_ne, bne_eq_false_iff_eq, Bool.not_eq_true, Bool.not_eq_false, Bool.not_eq_eq_eq_not, Bool.not_true, Bool.not_false, List.length_map, Int.not_lt, Int.not_le, ne_eq, Decidable.not_not] at hc1
    refine vc_seq fun K4 hK4 => ?_
    refine vc_region ?_
    refine vo_assign_pv rfl rfl ?_
    refine vo_assign_pv rfl rfl ?_
    refine vo_nil ?_
    refine hK4 _ ?_
    refine vc_own_nil 2 E25 rfl ?_
    refine vc_ret ?_
    change retG _ _ _ _ _
    refine retG_one 0 hC rfl rfl rfl rfl rfl ?_
    exact ⟨_, congrArg (fun b => [SV.ref 0, bo b]) (bF fun h => hc1 h.1), rows_eq (g := intP) ((mgR_no fun h => hc1 h.1).symm)⟩
  · try simp only [decide_eq_true_eq, decide_eq_false_iff_not, beq_iff_eq, bne_iff_ne, beq_eq_false_iff_ne, bne_eq_false_iff_eq, Bool.not_eq_true, Bool.not_eq_false, Bool.not_eq_eq_eq_not, Bool.not_true, Bool.not_false, List.length_map, Int.not_lt, Int.not_le, ne_eq, Decidable.not_not] at hc1
    refine vc_skip ?_
    refine hK2 _ ?_
    refine vc_seq fun K5 hK5 => ?_
    refine vc_region ?_
    refine vo_move_pv rfl rfl ?_
    refine vo_call [] Try.func22 rfl rfl rfl rfl rfl rfl rfl (mergeAll_sat hlists hllists hc1.tot) ?_
    rintro _ _ ⟨rfl, rfl⟩
    refine ⟨Nat.le_of_ble_eq_true rfl, ⟨rfl, rfl, rfl⟩, .inl rfl, ?_⟩
    refine vo_stN ?_
    refine vo_move rfl ?_
    refine vo_extract rfl rfl rfl ?_
    refine vo_extract rfl rfl rfl ?_
    refine vo_assign_ref rfl rfl ?_
    refine vo_assign_pv rfl rfl ?_
    refine vo_nil ?_
    refine hK5 _ ?_
    refine vc_seq fun K6 hK6 => ?_
    refine vc_seq fun K7 hK7 => ?_
    refine vc_region ?_
    refine vo_move_pv rfl rfl ?_
    refine vo_call [] Try.func23 rfl rfl rfl rfl rfl rfl rfl (heads_sat (lists := (mergeM lists).2) (by rw [mgL_len]; omega) (mgL_all hllists)) ?_
    rintro _ _ ⟨nl9, rfl, rfl⟩
    refine ⟨Nat.le_of_ble_eq_true rfl, ⟨rfl, rfl, rfl⟩, .inl rfl, ?_⟩
    refine vo_stN ?_
    refine vo_len_ref rfl rfl rfl Try.underlying25 ?_
    refine vo_binI rfl rfl rfl rfl trivial ?_
    refine vo_nil ?_
    refine hK7 _ ?_
    refine vc_cond rfl (fun hc2 => ?_) (fun hc2 => ?_)
    · try simp only [decide_eq_true_eq, decide_eq_false_iff_not, beq_iff_eq, bne_iff_ne, beq_eq_false_iff_ne, bne_eq_false_iff_eq, Bool.not_eq_true, Bool.not_eq_false, Bool.not_eq_eq_eq_not, Bool.not_true, Bool.not_false, List.length_map, Int.not_lt, Int.not_le, ne_eq, Decidable.not_not] at hc2
      refine vc_seq fun K8 hK8 => ?_
      refine vc_region ?_
      refine vo_assign_pv rfl rfl ?_
      refine vo_assign_pv rfl rfl ?_
      refine vo_nil ?_
      refine hK8 _ ?_
      refine vc_own_nil 2 E25 rfl ?_
      refine vc_ret ?_
      change retG _ _ _ _ _
      refine retG_one 2 hC rfl rfl rfl rfl rfl ?_
      exact ⟨_, congrArg (fun b => [SV.ref 0, bo b]) (bF fun h => once1 (by omega) h.2), rows_eq (g := intP) ((mgR_no fun h => once1 (by omega) h.2).symm)⟩
    · try simp only [decide_eq_true_eq, decide_eq_false_iff_not, beq_iff_eq, bne_iff_ne, beq_eq_false_iff_ne, bne_eq_false_iff_eq, Bool.not_eq_true, Bool.not_eq_false, Bool.not_eq_eq_eq_not, Bool.not_true, Bool.not_false, List.length_map, Int.not_lt, Int.not_le, ne_eq, Decidable.not_not] at hc2
      refine vc_skip ?_
      refine hK6 _ ?_
      refine vc_seq fun K9 hK9 => ?_
      refine vc_region ?_
      refine vo_move_ref rfl rfl ?_
      refine vo_assign_ref rfl rfl ?_
      refine vo_assign_pv rfl rfl ?_
      refine vo_nil ?_
      refine hK9 _ ?_
      refine vc_ret ?_
      change retG _ _ _ _ _
      refine retG_one 0 hC rfl rfl rfl rfl rfl ?_
      exact ⟨_, congrArg (fun b => [SV.ref 0, bo b]) (bT ⟨hc1, once0 (by omega)⟩), rows_eq (g := intP) ((mgR_yes ⟨hc1, once0 (by omega)⟩).symm)⟩


theorem specMergeLists_sat {nl0 : Option Bool} {lists : List (List Int)} (hlists : lists.length < 1000000000) (hllists : ∀ l ∈ lists, l.length < 1000000000) : SatAt Try.prog 7 [.pv false (.sl nl0 1 (lists.map ints))] [] (fun res rows => ∃ nl, res = [.ref 0, bo (decide (mgOK lists))] ∧ rows = [Row.own 3 1 nl true ((mgR lists).map intP)]) := by
  refine sat_entry_g (ts := [2, 3]) Try.func7 rfl rfl (by decide) (Nat.le_of_ble_eq_true rfl) fun C hC => ?_
  rw [Try.ntmps7]
  replace hC : C.nb = 0 := hC
  refine vc_seq fun K1 hK1 => ?_
  refine vc_region ?_
  refine vo_assign_pv rfl rfl ?_
  refine vo_assign_pv rfl rfl ?_
  refine vo_nil ?_
  refine hK1 _ ?_
  refine vc_seq fun K2 hK2 => ?_
  refine vc_seq fun K3 hK3 => ?_
  refine vc_region ?_
  refine vo_move_pv rfl rfl ?_
  refine vo_call0 Try.func24 rfl rfl rfl rfl (validLists_sat hlists hllists) ?_
  rintro _ _ ⟨rfl, rfl⟩
  refine ⟨rfl, rfl, .inl rfl, ?_⟩
  refine vo_not rfl rfl ?_
  refine vo_nil ?_
  refine hK3 _ ?_
  refine vc_cond rfl (fun hc1 => ?_) (fun hc1 => ?_)
  · try simp only [decide_eq_true_eq, decide_eq_false_iff_not, beq_iff_eq, bne_iff_ne, beq_eq_false_iff_ne, bne_eq_false_iff_eq, Bool.not_eq_true, Bool.not_eq_false, Bool.not_eq_eq_eq_not, Bool.not_true, Bool.not_false, List.length_map, Int.not_lt, Int.not_le, ne_eq, Decidable.not_not] at hc1
    refine vc_seq fun K4 hK4 => ?_
    refine vc_region ?_
    refine vo_assign_pv rfl rfl ?_
    refine vo_assign_pv rfl rfl ?_
    refine vo_nil ?_
    refine hK4 _ ?_
    refine vc_own_nil 2 E25 rfl ?_
    refine vc_ret ?_
    change retG _ _ _ _ _
    refine retG_one 0 hC rfl rfl rfl rfl rfl ?_
    exact ⟨_, congrArg (fun b => [SV.ref 0, bo b]) (bF fun h => hc1 h.1), rows_eq (g := intP) ((mgR_no fun h => hc1 h.1).symm)⟩
  · try simp only [decide_eq_true_eq, decide_eq_false_iff_not, beq_iff_eq, bne_iff_ne, beq_eq_false_iff_ne, bne_eq_false_iff_eq, Bool.not_eq_true, Bool.not_eq_false, Bool.not_eq_eq_eq_not, Bool.not_true, Bool.not_false, List.length_map, Int.not_lt, Int.not_le, ne_eq, Decidable.not_not] at hc1
    refine vc_skip ?_
    refine hK2 _ ?_
    refine vc_seq fun K5 hK5 => ?_
    refine vc_region ?_
    refine vo_move_pv rfl rfl ?_
    refine vo_call [] Try.func25 rfl rfl rfl rfl rfl rfl rfl (merge_sat hlists hllists hc1.tot) ?_
    rintro _ _ ⟨rfl, rfl⟩
    refine ⟨Nat.le_of_ble_eq_true rfl, ⟨rfl, rfl, rfl⟩, .inl rfl, ?_⟩
    refine vo_stN ?_
    refine vo_move rfl ?_
    refine vo_extract rfl rfl rfl ?_
    refine vo_extract rfl rfl rfl ?_
    refine vo_assign_ref rfl rfl ?_
    refine vo_assign_pv rfl rfl ?_
    refine vo_nil ?_
    refine hK5 _ ?_
    refine vc_seq fun K6 hK6 => ?_
    refine vc_seq fun K7 hK7 => ?_
    refine vc_region ?_
    refine vo_move_pv rfl rfl ?_
    refine vo_call0 Try.func26 rfl rfl rfl rfl (empty_sat (lists := (mergeM lists).2) (by rw [mgL_len]; omega) (mgL_all hllists)) ?_
    rintro _ _ ⟨rfl, rfl⟩
    refine ⟨rfl, rfl, .inl rfl, ?_⟩
    refine vo_not rfl rfl ?_
    refine vo_nil ?_
    refine hK7 _ ?_
    refine vc_cond rfl (fun hc2 => ?_) (fun hc2 => ?_)
    · try simp only [decide_eq_true_eq, decide_eq_false_iff_not, beq_iff_eq, bne_iff_ne, beq_eq_false_iff_ne, bne_eq_false_iff_eq, Bool.not_eq_true, Bool.not_eq_false, Bool.not_eq_eq_eq_not, Bool.not_true, Bool.not_false, List.length_map, Int.not_lt, Int.not_le, ne_eq, Decidable.not_not] at hc2
      refine vc_seq fun K8 hK8 => ?_
      refine vc_region ?_
      refine vo_assign_pv rfl rfl ?_
      refine vo_assign_pv rfl rfl ?_
      refine vo_nil ?_
      refine hK8 _ ?_
      refine vc_own_nil 2 E25 rfl ?_
      refine vc_ret ?_
      change retG _ _ _ _ _
      refine retG_one 1 hC rfl rfl rfl rfl rfl ?_
      exact ⟨_, congrArg (fun b => [SV.ref 0, bo b]) (bF fun h => hc2 h.2), rows_eq (g := intP) ((mgR_no fun h => hc2 h.2).symm)⟩
    · try simp only [decide_eq_true_eq, decide_eq_false_iff_not, beq_iff_eq, bne_iff_ne, beq_eq_false_iff_ne, bne_eq_false_iff_eq, Bool.not_eq_true, Bool.not_eq_false, Bool.not_eq_eq_eq_not, Bool.not_true, Bool.not_false, List.length_map, Int.not_lt, Int.not_le, ne_eq, Decidable.not_not] at hc2
      refine vc_skip ?_
      refine hK6 _ ?_
      refine vc_seq fun K9 hK9 => ?_
      refine vc_region ?_
      refine vo_move_ref rfl rfl ?_
      refine vo_assign_ref rfl rfl ?_
      refine vo_assign_pv rfl rfl ?_
      refine vo_nil ?_
      refine hK9 _ ?_
      refine vc_ret ?_
      change retG _ _ _ _ _
      refine retG_one 0 hC rfl rfl rfl rfl rfl ?_
      exact ⟨_, congrArg (fun b => [SV.ref 0, bo b]) (bT ⟨hc1, hc2⟩), rows_eq (g := intP) ((mgR_yes ⟨hc1, hc2⟩).symm)⟩

end Go.Vl

namespace Go.Vl
set_option linter.unusedVariables false
set_option linter.unusedSimpArgs false
open Go.Proofs

end Go.Vl

namespace Go.Vl
set_option linter.unusedVariables false
set_option linter.unusedSimpArgs false
open Go.Proofs
theorem fM_ge (x : Int) : ∀ (l : List Int) (i : Int), 0 ≤ i → x ∈ l → i ≤ fM x l i
  | [], _, _, h => by cases h
  | y :: l, i, hi, h => by
    unfold fM
    split
    · exact Int.le_refl _
    · rename_i hy
      rcases List.mem_cons.1 h with h | h
      · exact absurd h.symm hy
      · have := fM_ge x l (i+1) (by omega) h
        omega
theorem tk_not {x : Int} {l : List Int} (h : l.Nodup) (hb : ¬ bhd x l) : x ∉ tk x l := by
  cases l with
  | nil => simp [tk]
  | cons y l =>
    by_cases hy : y = x
    · rw [tk_t (by simp) (by simpa using hy), ← hy]
      exact (List.nodup_cons.1 h).1
    · rw [tk_f (by simpa using hy)]
      intro hm
      rcases List.mem_cons.1 hm with h1 | h1
      · exact hy h1.symm
      · apply hb
        unfold bhd fM
        rw [if_neg hy]
        have := fM_ge x l (0+1) (by omega) h1
        omega
theorem tk_nodup {x : Int} {l : List Int} (h : l.Nodup) : (tk x l).Nodup := by
  unfold tk; split
  · exact (List.drop_sublist 1 l).nodup h
  · exact h
theorem tk_sub {x y : Int} {l : List Int} (h : y ∈ tk x l) : y ∈ l := by
  unfold tk at h; split at h
  · exact List.mem_of_mem_drop h
  · exact h
theorem mergeF_mem : ∀ (n : Nat) (ls : List (List Int)) (x : Int), x ∈ (mergeF n ls).1 → ∃ l ∈ ls, x ∈ l
  | 0, ls, x, h => by simp [mergeF] at h
  | n+1, ls, x, h => by
    unfold mergeF at h
    split at h
    · simp at h
    · rename_i y hy
      rcases List.mem_cons.1 h with h | h
      · obtain ⟨l, h1, h2, h3, _⟩ := fhF_some hy
        exact ⟨l, h1, by rw [h, ← h3]; exact getD_mem h2 0⟩
      · obtain ⟨l', h1, h2⟩ := mergeF_mem n _ x h
        obtain ⟨l, h3, rfl⟩ := List.mem_map.1 h1
        exact ⟨l, h3, tk_sub h2⟩
theorem mergeF_nodup : ∀ (n : Nat) (ls : List (List Int)), (∀ l ∈ ls, l.Nodup) → (mergeF n ls).1.Nodup
  | 0, ls, h => by simp [mergeF]
  | n+1, ls, h => by
    unfold mergeF
    split
    · exact List.nodup_nil
    · rename_i x hx
      obtain ⟨_, _, _, _, hb⟩ := fhF_some hx
      refine List.nodup_cons.2 ⟨fun hm => ?_, mergeF_nodup n _ fun l' hl' => ?_⟩
      · obtain ⟨l', h1, h2⟩ := mergeF_mem n _ x hm
        obtain ⟨l, h3, rfl⟩ := List.mem_map.1 h1
        exact tk_not (h _ h3) (fun hbl => hb ⟨l, h3, hbl⟩) h2
      · obtain ⟨l, h3, rfl⟩ := List.mem_map.1 hl'
        exact tk_nodup (h _ h3)
/-- Orders. -/
def ordL (o : List (List Int)) (l : List Int) : List (List Int) := l.map (fun x => o.getD x.toNat [])
def ordS (o : List (List Int)) (l : List Int) (c : Int) : List Int :=
  if ∃ x ∈ l, o.getD x.toNat [] = [] then [] else if hds (mergeM (ordL o l ++ [l])).2 = [] then c :: (mergeM (ordL o l ++ [l])).1 else []
def ordT (b : List (List Int)) : Nat → List (List Int)
  | 0 => []
  | n+1 => ordT b n ++ [ordS (ordT b n) (b.getD n []) n]
def ordM (b : List (List Int)) (c : Nat) : List Int := ordS (ordT b c) (b.getD c []) c
theorem ordT_len (b : List (List Int)) : ∀ n, (ordT b n).length = n
  | 0 => rfl
  | n+1 => by rw [ordT, List.length_append, ordT_len b n]; rfl
theorem ordT_get (b : List (List Int)) : ∀ (n k : Nat), k < n → (ordT b n).getD k [] = ordM b k
  | n+1, k, h => by
    rw [ordT]
    by_cases hk : k < n
    · rw [← ordT_get b n k hk]; simp only [List.getD]; rw [List.getElem?_append_left (by rw [ordT_len]; exact hk)]
    · have : k = n := by omega
      subst this
      simp only [List.getD]; rw [List.getElem?_append_right (by rw [ordT_len]; exact Nat.le_refl _), ordT_len, Nat.sub_self]; rfl
def OKord (o : List Int) (c : Nat) : Prop := o.Nodup ∧ ∀ x ∈ o, 0 ≤ x ∧ x ≤ c
theorem pig : ∀ (n : Nat) (o : List Int), o.Nodup → (∀ x ∈ o, 0 ≤ x ∧ x < n) → o.length ≤ n
  | 0, [], _, _ => Nat.le_refl _
  | 0, x :: o, _, h => by have := h x List.mem_cons_self; omega
  | n+1, o, h, hx => by
    by_cases hm : (n : Int) ∈ o
    · have h1 := pig n (o.erase n) (h.erase _) fun x h2 => by
        obtain ⟨h3, h4⟩ := (h.mem_erase_iff).1 h2
        have := hx x h4
        omega
      rw [List.length_erase_of_mem hm] at h1
      omega
    · have h1 := pig n o h fun x h2 => by
        have := hx x h2
        have : x ≠ n := fun e => hm (e ▸ h2)
        omega
      omega
theorem nodup_len {o : List Int} {c : Nat} (h : OKord o c) : o.length ≤ c + 1 := pig (c+1) o h.1 fun x hx => by have := h.2 x hx; omega
theorem VB.at {b : List (List Int)} (h : VB b) {c : Nat} (hc : c < b.length) : (b.getD c []).length ≤ 4 ∧ (b.getD c []).Nodup ∧ ∀ x ∈ b.getD c [], 0 ≤ x ∧ x ≤ (c : Int) - 1 := ((vb_iff b).1 h).2 c hc |>.2
theorem ordL_ok {b : List (List Int)} (hv : VB b) {c : Nat} (hc : c < b.length) (ih : ∀ k < c, OKord (ordM b k) k) : ∀ l ∈ ordL (ordT b c) (b.getD c []) ++ [b.getD c []], l.Nodup ∧ l.length ≤ 12 ∧ ∀ x ∈ l, 0 ≤ x ∧ x ≤ (c : Int) - 1 := by
  have h12 := hv.2.1
  obtain ⟨h4, hn, hx⟩ := hv.at hc
  intro l hl
  rcases List.mem_append.1 hl with h1 | h1
  · obtain ⟨x, h2, rfl⟩ := List.mem_map.1 h1
    have h3 := hx x h2
    have e := ordT_get b c x.toNat (by omega)
    have h5 := ih x.toNat (by omega)
    have h6 := nodup_len h5
    rw [e]
    exact ⟨h5.1, by omega, fun y hy => by have := h5.2 y hy; omega⟩
  · rw [List.mem_singleton.1 h1]
    exact ⟨hn, by omega, hx⟩
theorem ordM_ok {b : List (List Int)} (hv : VB b) : ∀ c, c < b.length → OKord (ordM b c) c := by
  intro c
  induction c using Nat.strongRecOn with
  | ind c ih =>
    intro hc
    have hL := ordL_ok hv hc (fun k hk => ih k hk (by omega))
    unfold ordM ordS
    split
    · exact ⟨List.nodup_nil, by simp⟩
    · split
      · refine ⟨List.nodup_cons.2 ⟨fun hm => ?_, mergeF_nodup _ _ fun l hl => (hL l hl).1⟩, fun x hx => ?_⟩
        · obtain ⟨l, h1, h2⟩ := mergeF_mem _ _ _ hm
          have := (hL l h1).2.2 _ h2
          omega
        · rcases List.mem_cons.1 hx with h | h
          · omega
          · obtain ⟨l, h1, h2⟩ := mergeF_mem _ _ _ h
            have := (hL l h1).2.2 _ h2
            omega
      · exact ⟨List.nodup_nil, by simp⟩
theorem ordM_len {b : List (List Int)} (hv : VB b) {c : Nat} (hc : c < b.length) : (ordM b c).length ≤ 12 := by
  have := nodup_len (ordM_ok hv c hc)
  have := hv.2.1
  omega
theorem ordL_OKLs {b : List (List Int)} (hv : VB b) {c : Nat} (hc : c < b.length) : OKLs (ordL (ordT b c) (b.getD c []) ++ [b.getD c []]) := by
  have hL := ordL_ok hv hc (fun k hk => ordM_ok hv k (by omega))
  obtain ⟨h4, _, _⟩ := hv.at hc
  refine ⟨fun l hl => ⟨?_, (hL l hl).1⟩, ?_⟩
  · have := (hL l hl).2.1; omega
  · simp only [ordL, List.length_append, List.length_map, List.length_singleton]; omega

end Go.Vl

namespace Go.Vl
set_option linter.unusedVariables false
set_option linter.unusedSimpArgs false
open Go.Proofs
theorem ordL_snoc (o : List (List Int)) {l : List Int} {k : Nat} (h : k < l.length) : ordL o (l.take k) ++ [o.getD (l.getD k 0).toNat []] = ordL o (l.take (k+1)) := by
  have e : l.getD k 0 = l[k] := by simp [List.getD, List.getElem?_eq_getElem h]
  unfold ordL
  rw [List.take_succ_eq_append_getElem h, List.map_append, e]; rfl
theorem ordL_len (o : List (List Int)) (l : List Int) : (ordL o l).length = l.length := List.length_map ..
theorem ordM_stuck {b : List (List Int)} {c : Nat} {x : Int} (hv : VB b) (hc : c < b.length) (hx : x ∈ b.getD c []) (h : ordM b x.toNat = []) : ordM b c = [] := by
  have := (hv.at hc).2.2 x hx
  unfold ordM ordS
  rw [if_pos ⟨x, hx, by rw [ordT_get b c _ (by omega)]; exact h⟩]
theorem ordM_go {b : List (List Int)} {c : Nat} (h : ∀ x ∈ b.getD c [], (ordT b c).getD x.toNat [] ≠ []) : ordM b c = if hds (mergeM (ordL (ordT b c) (b.getD c []) ++ [b.getD c []])).2 = [] then (c : Int) :: (mergeM (ordL (ordT b c) (b.getD c []) ++ [b.getD c []])).1 else [] := by
  unfold ordM ordS
  rw [if_neg (fun ⟨x, h1, h2⟩ => h x h1 h2)]
theorem ordT_at {b : List (List Int)} (hv : VB b) {c : Nat} (hc : c < b.length) {x : Int} (hx : x ∈ b.getD c []) : (ordT b c).getD x.toNat [] = ordM b x.toNat := by
  have := (hv.at hc).2.2 x hx
  exact ordT_get b c _ (by omega)
theorem row1_eqF {el : TypeId} {e : Nat} {nl : Option Bool} {f : Bool} {a b : List PV} (h : a = b) : [Row.own el e nl f a] = [Row.own el e nl f b] := by rw [h]

theorem orderOf_step {nl0 : Option Bool} {bases : List (List Int)} {c : Nat} (hbases : bases.length < 1000000000) (hlbases : ∀ l ∈ bases, l.length < 1000000000) (hv : VB bases) (hc : c < bases.length) (ih : ∀ x : Int, 0 ≤ x → x < c → SatAt Try.prog 19 [.pv false (.sl nl0 1 (bases.map ints)), i64 x] [] (fun res rows => ∃ nl, res = [.ref 0] ∧ rows = [Row.own 3 1 nl true ((ordM bases x.toNat).map intP)])) : SatAt Try.prog 19 [.pv false (.sl nl0 1 (bases.map ints)), i64 c] [] (fun res rows => ∃ nl, res = [.ref 0] ∧ rows = [Row.own 3 1 nl true ((ordM bases c).map intP)]) := by
  refine sat_entry_g (ts := [4]) Try.func19 rfl rfl (by decide) (Nat.le_of_ble_eq_true rfl) fun C hC => ?_
  rw [Try.ntmps19]
  replace hC : C.nb = 0 := hC
  refine vc_seq fun K1 hK1 => ?_
  refine vc_region ?_
  refine vo_assign_pv rfl rfl ?_
  refine vo_nil ?_
  refine hK1 _ ?_
  refine vc_seq fun K2 hK2 => ?_
  refine vc_region ?_
  refine vo_buildSlice E23 rfl rfl rfl rfl rfl ?_
  refine vo_assign_ref rfl rfl ?_
  refine vo_nil ?_
  refine hK2 _ ?_
  refine vc_seq fun K3 hK3 => ?_
  refine vc_seq fun K4 hK4 => ?_
  refine vc_region ?_
  refine vo_assign_pv rfl rfl ?_
  refine vo_nil ?_
  refine hK4 _ ?_
  refine vc_block ?_
  refine vc_flagrow 0 rfl ?_
  refine vc_stN ?_
  refine vc_loop [0, 1, 5, 6] (fun mz vs rows => ∃ (k : Nat), mz = (bases.getD c []).length - k ∧ (k ≤ (bases.getD c []).length) ∧ (∀ x ∈ (bases.getD c []).take k, (ordT bases c).getD x.toNat [] ≠ []) ∧ vs = [.pv false (.sl nl0 1 (bases.map ints)), i64 c, .ref 0, i64 k] ∧ rows = [Row.own 25 1 (some false) false ((ordL (ordT bases c) ((bases.getD c []).take k)).map ints)]) ((bases.getD c []).length) (le_len hC rfl) ⟨rfl, rfl⟩ ⟨0, rfl, Nat.zero_le _, (by simp), rfl, rfl⟩ ?_
  rintro mz vs rows - - ⟨k, rfl, hk, hf, rfl, rfl⟩
  have hll := ordL_len (ordT bases c) ((bases.getD c []).take k)
  rw [List.length_take] at hll
  have h4 := (hv.at hc).1
  refine vc_seq fun K5 hK5 => ?_
  refine vc_seq fun K6 hK6 => ?_
  refine vc_region ?_
  refine vo_move_pv rfl rfl ?_
  refine vo_move_pv rfl rfl ?_
  refine vo_move_pv rfl rfl ?_
  refine vo_index_pv (.sl none 1 []) rfl rfl rfl E23.und inf25 sz25 sd sd ?_
  simp only [Int.toNat_natCast, Int.toNat_zero, getD_ints, getD_intss, getD_bools, getD_bytes, PV.cells]
  refine vo_load_adr rfl rfl Try.underlying25 rfl ?_
  refine vo_len_pv rfl rfl Try.underlying25 ?_
  refine vo_binI rfl rfl rfl rfl trivial ?_
  refine vo_nil ?_
  refine hK6 _ ?_
  refine vc_cond rfl (fun hc1 => ?_) (fun hc1 => ?_)
  · try simp only [decide_eq_true_eq, decide_eq_false_iff_not, beq_iff_eq, bne_iff_ne, beq_eq_false_iff_ne, bne_eq_false_iff_eq, Bool.not_eq_true, Bool.not_eq_false, Bool.not_eq_eq_eq_not, Bool.not_true, Bool.not_false, List.length_map, Int.not_lt, Int.not_le, ne_eq, Decidable.not_not] at hc1
    have hm := getD_mem (show k < (bases.getD c []).length by omega) 0
    have hb := (hv.at hc).2.2 _ hm
    have he := ordT_at hv hc hm
    have hle := ordM_len hv (show ((bases.getD c []).getD k 0).toNat < bases.length by omega)
    refine vc_skip ?_
    refine hK5 _ ?_
    refine vc_seq fun K7 hK7 => ?_
    refine vc_block ?_
    refine vc_seq fun K8 hK8 => ?_
    refine vc_region ?_
    refine vo_move_pv rfl rfl ?_
    refine vo_move_pv rfl rfl ?_
    refine vo_move_pv rfl rfl ?_
    refine vo_index_pv (.sl none 1 []) rfl rfl rfl E23.und inf25 sz25 sd sd ?_
    simp only [Int.toNat_natCast, Int.toNat_zero, getD_ints, getD_intss, getD_bools, getD_bytes, PV.cells]
    refine vo_load_adr rfl rfl Try.underlying25 rfl ?_
    refine vo_move_pv rfl rfl ?_
    refine vo_index_pv (.int .i64 0) rfl rfl rfl E25.und inf3 sz3 sd sd ?_
    simp only [Int.toNat_natCast, Int.toNat_zero, getD_ints, getD_intss, getD_bools, getD_bytes, PV.cells]
    refine vo_load_adr rfl rfl Try.underlying3 rfl ?_
    refine vo_call [] Try.func19 rfl rfl rfl rfl rfl rfl rfl (ih _ hb.1 (by omega)) ?_
    rintro _ _ ⟨nl9, rfl, rfl⟩
    refine ⟨Nat.le_of_ble_eq_true rfl, ⟨rfl, rfl, rfl⟩, .inl rfl, ?_⟩
    refine vo_stN ?_
    refine vo_expose 1 (by omega) rfl ?_
    refine vo_stN ?_
    refine vo_weaken 28 rfl ?_
    refine vo_flag 28 rfl ?_
    refine vo_stN ?_
    refine vo_assign_pv rfl rfl ?_
    refine vo_nil ?_
    refine hK8 _ ?_
    refine vc_seq fun K9 hK9 => ?_
    refine vc_seq fun K10 hK10 => ?_
    refine vc_region ?_
    refine vo_move_pv rfl rfl ?_
    refine vo_len_pv rfl rfl Try.underlying25 ?_
    refine vo_binI rfl rfl rfl rfl trivial ?_
    refine vo_nil ?_
    refine hK10 _ ?_
    refine vc_cond rfl (fun hc2 => ?_) (fun hc2 => ?_)
    · try simp only [decide_eq_true_eq, decide_eq_false_iff_not, beq_iff_eq, bne_iff_ne, beq_eq_false_iff_ne, bne_eq_false_iff_eq, Bool.not_eq_true, Bool.not_eq_false, Bool.not_eq_eq_eq_not, Bool.not_true, Bool.not_false, List.length_map, Int.not_lt, Int.not_le, ne_eq, Decidable.not_not] at hc2
      refine vc_seq fun K11 hK11 => ?_
      refine vc_region ?_
      refine vo_buildSlice E25 rfl rfl rfl rfl rfl ?_
      refine vo_assign_ref rfl rfl ?_
      refine vo_nil ?_
      refine hK11 _ ?_
      refine vc_ret ?_
      change retG _ _ _ _ _
      refine retG_one 2 hC rfl rfl rfl rfl rfl ?_
      exact ⟨_, rfl, rows_eq (g := intP) ((ordM_stuck hv hc hm (List.eq_nil_of_length_eq_zero (by omega))).symm)⟩
    · try simp only [decide_eq_true_eq, decide_eq_false_iff_not, beq_iff_eq, bne_iff_ne, beq_eq_false_iff_ne, bne_eq_false_iff_eq, Bool.not_eq_true, Bool.not_eq_false, Bool.not_eq_eq_eq_not, Bool.not_true, Bool.not_false, List.length_map, Int.not_lt, Int.not_le, ne_eq, Decidable.not_not] at hc2
      refine vc_skip ?_
      refine hK9 _ ?_
      refine vc_region ?_
      refine vo_move_ref rfl rfl ?_
      refine vo_move_pv rfl rfl ?_
      refine vo_weaken 34 rfl ?_
      refine vo_buildSlice E23 rfl rfl rfl rfl rfl ?_
      refine vo_append E23 rfl (by omega) rfl rfl rfl sd sd ?_
      refine vo_stN ?_
      try simp only [app_ints, app_intss, app_bools]
      refine vo_assign_ref rfl rfl ?_
      refine vo_nil ?_
      refine hK7 _ ?_
      refine vc_region ?_
      refine vo_move_pv rfl rfl ?_
      refine vo_binI rfl rfl rfl rfl sd ?_
      refine vo_assign_pv rfl rfl ?_
      refine vo_nil ?_
      change again _ _ _ _ _ _
      refine again_mk rfl rfl rfl rfl ⟨_, ?_, k + 1, rfl, ?_, ?_, rfl, (congrArg (fun l => [Row.own 25 1 (some false) false (List.map ints l)]) (show ordL (ordT bases c) ((bases.getD c []).take k) ++ [ordM bases ((bases.getD c []).getD k 0).toNat] = ordL (ordT bases c) ((bases.getD c []).take (k+1)) by rw [← he, ordL_snoc _ (by omega)]))⟩
      · omega
      · omega
      · exact (all_take_succ (by omega) 0).2 ⟨hf, fun e => by rw [he] at e; rw [e] at hc2; simp at hc2⟩
  · try simp only [decide_eq_true_eq, decide_eq_false_iff_not, beq_iff_eq, bne_iff_ne, beq_eq_false_iff_ne, bne_eq_false_iff_eq, Bool.not_eq_true, Bool.not_eq_false, Bool.not_eq_eq_eq_not, Bool.not_true, Bool.not_false, List.length_map, Int.not_lt, Int.not_le, ne_eq, Decidable.not_not] at hc1
    have hk2 : k = (bases.getD c []).length := by omega
    subst hk2
    rw [take_all (Nat.le_refl _)]
    rw [take_all (Nat.le_refl _)] at hf
    have hO := ordL_OKLs hv hc
    have hmo := Nat.lt_of_le_of_lt (mgO_len (ordL (ordT bases c) (bases.getD c []) ++ [(bases.getD c [])])) hO.tot
    have h4 := (hv.at hc).1
    have hll := ordL_len (ordT bases c) (bases.getD c [])
    refine vc_exit ?_
    refine hK3 _ ?_
    refine vc_seq fun K12 hK12 => ?_
    refine vc_region ?_
    refine vo_move_ref rfl rfl ?_
    refine vo_move_pv rfl rfl ?_
    refine vo_move_pv rfl rfl ?_
    refine vo_index_pv (.sl none 1 []) rfl rfl rfl E23.und inf25 sz25 sd sd ?_
    simp only [Int.toNat_natCast, Int.toNat_zero, getD_ints, getD_intss, getD_bools, getD_bytes, PV.cells]
    refine vo_load_adr rfl rfl Try.underlying25 rfl ?_
    refine vo_weaken 42 rfl ?_
    refine vo_buildSlice E23 rfl rfl rfl rfl rfl ?_
    refine vo_append E23 rfl (by omega) rfl rfl rfl sd sd ?_
    refine vo_stN ?_
    try simp only [app_ints, app_intss, app_bools]
    refine vo_expose 0 (by omega) rfl ?_
    refine vo_weaken 44 rfl ?_
    refine vo_stN ?_
    refine vo_call [] Try.func25 rfl rfl rfl rfl rfl rfl rfl (merge_sat (lists := ordL (ordT bases c) (bases.getD c []) ++ [(bases.getD c [])]) (by have := hO.2; omega) (fun l hl => by have := (hO.1 l hl).1; omega) hO.tot) ?_
    rintro _ _ ⟨rfl, rfl⟩
    refine ⟨Nat.le_of_ble_eq_true rfl, ⟨rfl, rfl, rfl⟩, .inl rfl, ?_⟩
    refine vo_stN ?_
    refine vo_move rfl ?_
    refine vo_extract rfl rfl rfl ?_
    refine vo_extract rfl rfl rfl ?_
    refine vo_assign_ref rfl rfl ?_
    refine vo_assign_pv rfl rfl ?_
    refine vo_nil ?_
    refine hK12 _ ?_
    refine vc_seq fun K13 hK13 => ?_
    refine vc_seq fun K14 hK14 => ?_
    refine vc_region ?_
    refine vo_move_pv rfl rfl ?_
    refine vo_call0 Try.func26 rfl rfl rfl rfl (empty_sat (by rw [mgL_len]; have := hO.2; omega) (mgL_all (fun l hl => by have := (hO.1 l hl).1; omega))) ?_
    rintro _ _ ⟨rfl, rfl⟩
    refine ⟨rfl, rfl, .inl rfl, ?_⟩
    refine vo_not rfl rfl ?_
    refine vo_nil ?_
    refine hK14 _ ?_
    refine vc_cond rfl (fun hc3 => ?_) (fun hc3 => ?_)
    · try simp only [decide_eq_true_eq, decide_eq_false_iff_not, beq_iff_eq, bne_iff_ne, beq_eq_false_iff_ne, bne_eq_false_iff_eq, Bool.not_eq_true, Bool.not_eq_false, Bool.not_eq_eq_eq_not, Bool.not_true, Bool.not_false, List.length_map, Int.not_lt, Int.not_le, ne_eq, Decidable.not_not] at hc3
      refine vc_seq fun K15 hK15 => ?_
      refine vc_region ?_
      refine vo_buildSlice E25 rfl rfl rfl rfl rfl ?_
      refine vo_assign_ref rfl rfl ?_
      refine vo_nil ?_
      refine hK15 _ ?_
      refine vc_ret ?_
      change retG _ _ _ _ _
      refine retG_one 3 hC rfl rfl rfl rfl rfl ?_
      exact ⟨_, rfl, row1_eqF (by rw [ordM_go hf, if_neg hc3]; rfl)⟩
    · try simp only [decide_eq_true_eq, decide_eq_false_iff_not, beq_iff_eq, bne_iff_ne, beq_eq_false_iff_ne, bne_eq_false_iff_eq, Bool.not_eq_true, Bool.not_eq_false, Bool.not_eq_eq_eq_not, Bool.not_true, Bool.not_false, List.length_map, Int.not_lt, Int.not_le, ne_eq, Decidable.not_not] at hc3
      refine vc_skip ?_
      refine hK13 _ ?_
      refine vc_seq fun K16 hK16 => ?_
      refine vc_region ?_
      refine vo_move_pv rfl rfl ?_
      refine vo_buildSlice E25 rfl rfl rfl rfl rfl ?_
      refine vo_move_ref rfl rfl ?_
      refine vo_append E25 rfl (by omega) rfl rfl rfl sd sd ?_
      refine vo_stN ?_
      try simp only [app_ints, app_intss, app_bools]
      refine vo_assign_ref rfl rfl ?_
      refine vo_nil ?_
      refine hK16 _ ?_
      refine vc_ret ?_
      change retG _ _ _ _ _
      refine retG_one 3 hC rfl rfl rfl rfl rfl ?_
      exact ⟨_, rfl, row1_eqF (by rw [ordM_go hf, if_pos hc3]; rfl)⟩

theorem orderOf_sat {nl0 : Option Bool} {bases : List (List Int)} (hbases : bases.length < 1000000000) (hlbases : ∀ l ∈ bases, l.length < 1000000000) (hv : VB bases) : ∀ (n : Nat), n < bases.length → SatAt Try.prog 19 [.pv false (.sl nl0 1 (bases.map ints)), i64 n] [] (fun res rows => ∃ nl, res = [.ref 0] ∧ rows = [Row.own 3 1 nl true ((ordM bases n).map intP)]) := by
  intro n
  induction n using Nat.strongRecOn with
  | ind n ih =>
    intro hn
    refine orderOf_step hbases hlbases hv hn fun x h0 h1 => ?_
    obtain ⟨k, rfl⟩ := Int.eq_ofNat_of_zero_le h0
    exact ih k (by omega) (by omega)

end Go.Vl

namespace Go.Vl
set_option linter.unusedVariables false
set_option linter.unusedSimpArgs false
open Go.Proofs
abbrev ordP (l : List Int) : PV := .sl (some l.isEmpty) 1 (l.map intP)
def orOK (b : List (List Int)) (c : Int) : Prop := (VB b ∧ 0 ≤ c ∧ c < b.length) ∧ ordM b c.toNat ≠ []
instance {b : List (List Int)} {c : Int} : Decidable (orOK b c) := by unfold orOK; infer_instance
def orR (b : List (List Int)) (c : Int) : List Int := if orOK b c then ordM b c.toNat else []
theorem orR_no {b : List (List Int)} {c : Int} (h : ¬ orOK b c) : orR b c = [] := if_neg h
theorem orR_yes {b : List (List Int)} {c : Int} (h : orOK b c) : orR b c = ordM b c.toNat := if_pos h
theorem orR_len {b : List (List Int)} {c : Int} : (orR b c).length < 1000000000 := by
  by_cases h : orOK b c
  · rw [orR_yes h]
    have := ordM_len h.1.1 (show c.toNat < b.length by have := h.1; omega)
    omega
  · rw [orR_no h]; simp
theorem getD_ordP (o : List (List Int)) (k : Nat) : (o.map ordP).getD k (.sl (some true) 1 []) = .sl (some (o.getD k []).isEmpty) 1 ((o.getD k []).map intP) := by
  simp only [List.getD, List.getElem?_map]
  cases o[k]? <;> rfl
theorem isE {l : List Int} (h : l ≠ []) : l.isEmpty = false := by cases l with | nil => exact absurd rfl h | cons => rfl
theorem ordS_stuck {o : List (List Int)} {l : List Int} {c x : Int} (hx : x ∈ l) (h : o.getD x.toNat [] = []) : ordS o l c = [] := if_pos ⟨x, hx, h⟩
theorem ordS_go {o : List (List Int)} {l : List Int} {c : Int} (h : ∀ x ∈ l, o.getD x.toNat [] ≠ []) : ordS o l c = if hds (mergeM (ordL o l ++ [l])).2 = [] then c :: (mergeM (ordL o l ++ [l])).1 else [] := by
  unfold ordS
  rw [if_neg (fun ⟨x, h1, h2⟩ => h x h1 h2)]
theorem row1_eqN {el : TypeId} {e : Nat} {nl nl' : Option Bool} {f : Bool} {a b : List PV} (hn : nl = nl') (h : a = b) : [Row.own el e nl f a] = [Row.own el e nl' f b] := by rw [hn, h]
theorem bEmp {l : List Int} {b : Bool} (h1 : (some l.isEmpty = some true) → b = true) (h2 : (some l.isEmpty = some false) → b = false) : b = l.isEmpty := by cases l <;> simp_all
theorem fill_ord {o : List (List Int)} {n k : Nat} (h : k < n) (ho : o.length = k) (v : List Int) : ((o ++ List.replicate (n - k) []).map ordP).set k (ordP v) = ((o ++ [v]) ++ List.replicate (n - (k+1)) []).map ordP := by
  rw [show n - k = (n - (k+1)) + 1 by omega, List.replicate_succ, ← List.map_set, List.set_append_right _ _ (by omega), ho, Nat.sub_self, List.set_cons_zero, List.append_assoc]; rfl

theorem specOrderOf_sat {nl0 : Option Bool} {bases : List (List Int)} {c : Int} (hbases : bases.length < 1000000000) (hlbases : ∀ l ∈ bases, l.length < 1000000000) : SatAt Try.prog 12 [.pv false (.sl nl0 1 (bases.map ints)), i64 c] [] (fun res rows => ∃ nl, res = [.ref 0, bo (decide (orOK bases c))] ∧ rows = [Row.own 3 1 nl true ((orR bases c).map intP)]) := by
  refine sat_entry_g (ts := [4, 5]) Try.func12 rfl rfl (by decide) (Nat.le_of_ble_eq_true rfl) fun C hC => ?_
  rw [Try.ntmps12]
  replace hC : C.nb = 0 := hC
  refine vc_seq fun K1 hK1 => ?_
  refine vc_region ?_
  refine vo_assign_pv rfl rfl ?_
  refine vo_assign_pv rfl rfl ?_
  refine vo_nil ?_
  refine hK1 _ ?_
  refine vc_seq fun K2 hK2 => ?_
  refine vc_seq fun K3 hK3 => ?_
  refine vc_region ?_
  refine vo_move_pv rfl rfl ?_
  refine vo_move_pv rfl rfl ?_
  refine vo_call0 Try.func32 rfl rfl rfl rfl (validClass_sat hbases hlbases) ?_
  rintro _ _ ⟨rfl, rfl⟩
  refine ⟨rfl, rfl, .inl rfl, ?_⟩
  refine vo_not rfl rfl ?_
  refine vo_nil ?_
  refine hK3 _ ?_
  refine vc_cond rfl (fun hc1 => ?_) (fun hc1 => ?_)
  · try simp only [decide_eq_true_eq, decide_eq_false_iff_not, beq_iff_eq, bne_iff_ne, beq_eq_false_iff_ne, bne_eq_false_iff_eq, Bool.not_eq_true, Bool.not_eq_false, Bool.not_eq_eq_eq_not, Bool.not_true, Bool.not_false, List.length_map, Int.not_lt, Int.not_le, ne_eq, Decidable.not_not] at hc1
    refine vc_seq fun K4 hK4 => ?_
    refine vc_region ?_
    refine vo_assign_pv rfl rfl ?_
    refine vo_assign_pv rfl rfl ?_
    refine vo_nil ?_
    refine hK4 _ ?_
    refine vc_own_nil 4 E25 rfl ?_
    refine vc_ret ?_
    change retG _ _ _ _ _
    refine retG_one 0 hC rfl rfl rfl rfl rfl ?_
    exact ⟨_, congrArg (fun b => [SV.ref 0, bo b]) (bF fun h => hc1 h.1), rows_eq (g := intP) ((orR_no fun h => hc1 h.1).symm)⟩
  · try simp only [decide_eq_true_eq, decide_eq_false_iff_not, beq_iff_eq, bne_iff_ne, beq_eq_false_iff_ne, bne_eq_false_iff_eq, Bool.not_eq_true, Bool.not_eq_false, Bool.not_eq_eq_eq_not, Bool.not_true, Bool.not_false, List.length_map, Int.not_lt, Int.not_le, ne_eq, Decidable.not_not] at hc1
    obtain ⟨hv, h0, h1⟩ := hc1
    obtain ⟨n, rfl⟩ := Int.eq_ofNat_of_zero_le h0
    have hn : n < bases.length := by omega
    refine vc_skip ?_
    refine hK2 _ ?_
    refine vc_seq fun K5 hK5 => ?_
    refine vc_region ?_
    refine vo_move_pv rfl rfl ?_
    refine vo_move_pv rfl rfl ?_
    refine vo_call [] Try.func19 rfl rfl rfl rfl rfl rfl rfl (orderOf_sat hbases hlbases hv n hn) ?_
    rintro _ _ ⟨nl9, rfl, rfl⟩
    refine ⟨Nat.le_of_ble_eq_true rfl, ⟨rfl, rfl, rfl⟩, .inl rfl, ?_⟩
    refine vo_stN ?_
    refine vo_assign_ref rfl rfl ?_
    refine vo_nil ?_
    refine hK5 _ ?_
    refine vc_seq fun K6 hK6 => ?_
    refine vc_seq fun K7 hK7 => ?_
    refine vc_region ?_
    refine vo_move_ref rfl rfl ?_
    refine vo_len_ref rfl rfl rfl Try.underlying25 ?_
    refine vo_binI rfl rfl rfl rfl trivial ?_
    refine vo_nil ?_
    refine hK7 _ ?_
    refine vc_cond rfl (fun hc2 => ?_) (fun hc2 => ?_)
    · try simp only [decide_eq_true_eq, decide_eq_false_iff_not, beq_iff_eq, bne_iff_ne, beq_eq_false_iff_ne, bne_eq_false_iff_eq, Bool.not_eq_true, Bool.not_eq_false, Bool.not_eq_eq_eq_not, Bool.not_true, Bool.not_false, List.length_map, Int.not_lt, Int.not_le, ne_eq, Decidable.not_not] at hc2
      refine vc_seq fun K8 hK8 => ?_
      refine vc_region ?_
      refine vo_assign_pv rfl rfl ?_
      refine vo_assign_pv rfl rfl ?_
      refine vo_nil ?_
      refine hK8 _ ?_
      refine vc_own_nil 4 E25 rfl ?_
      refine vc_ret ?_
      change retG _ _ _ _ _
      refine retG_one 1 hC rfl rfl rfl rfl rfl ?_
      have e0 : ordM bases n = [] := List.eq_nil_of_length_eq_zero (by omega)
      exact ⟨_, congrArg (fun b => [SV.ref 0, bo b]) (bF fun h => h.2 e0), rows_eq (g := intP) ((orR_no fun h => h.2 e0).symm)⟩
    · try simp only [decide_eq_true_eq, decide_eq_false_iff_not, beq_iff_eq, bne_iff_ne, beq_eq_false_iff_ne, bne_eq_false_iff_eq, Bool.not_eq_true, Bool.not_eq_false, Bool.not_eq_eq_eq_not, Bool.not_true, Bool.not_false, List.length_map, Int.not_lt, Int.not_le, ne_eq, Decidable.not_not] at hc2
      refine vc_skip ?_
      refine hK6 _ ?_
      refine vc_seq fun K9 hK9 => ?_
      refine vc_region ?_
      refine vo_move_ref rfl rfl ?_
      refine vo_assign_ref rfl rfl ?_
      refine vo_assign_pv rfl rfl ?_
      refine vo_nil ?_
      refine hK9 _ ?_
      refine vc_ret ?_
      change retG _ _ _ _ _
      refine retG_one 0 hC rfl rfl rfl rfl rfl ?_
      have hok : orOK bases n := ⟨⟨hv, h0, h1⟩, fun e => by simp at e; rw [e] at hc2; simp at hc2⟩
      exact ⟨_, congrArg (fun b => [SV.ref 0, bo b]) (bT hok), rows_eq (g := intP) ((orR_yes hok).symm)⟩


theorem orderFrom_sat {nl0 nl1 : Option Bool} {o : List (List Int)} {list : List Int} {c : Int} (ho : o.length < 1000000000) (hl4 : list.length ≤ 4) (hlo : ∀ l ∈ o, l.length < 1000000000) (hx : ∀ x ∈ list, 0 ≤ x ∧ x < o.length) (hOK : (∀ x ∈ list, o.getD x.toNat [] ≠ []) → OKLs (ordL o list ++ [list])) : SatAt Try.prog 46 [.pv false (.sl nl0 1 (o.map ordP)), .pv false (.sl nl1 1 (list.map intP)), i64 c] [] (fun res rows => res = [.ref 0] ∧ rows = [Row.own 3 1 (some (ordS o list c).isEmpty) true ((ordS o list c).map intP)]) := by
  refine sat_entry_g (ts := [6]) Try.func46 rfl rfl (by decide) (Nat.le_of_ble_eq_true rfl) fun C hC => ?_
  rw [Try.ntmps46]
  replace hC : C.nb = 0 := hC
  refine vc_seq fun K1 hK1 => ?_
  refine vc_region ?_
  refine vo_assign_pv rfl rfl ?_
  refine vo_nil ?_
  refine hK1 _ ?_
  refine vc_seq fun K2 hK2 => ?_
  refine vc_region ?_
  refine vo_assign_pv rfl rfl ?_
  refine vo_nil ?_
  refine hK2 _ ?_
  refine vc_seq fun K3 hK3 => ?_
  refine vc_seq fun K4 hK4 => ?_
  refine vc_region ?_
  refine vo_move_pv rfl rfl ?_
  refine vo_len_pv rfl rfl Try.underlying25 ?_
  refine vo_move_pv rfl rfl ?_
  refine vo_nil ?_
  refine hK4 _ ?_
  refine vc_block ?_
  refine vc_own_nil 7 E23 rfl ?_
  refine vc_flagrow 0 rfl ?_
  refine vc_stN ?_
  refine vc_loop [0, 1, 2, 7, 12, 13, 14] (fun mz vs rows => ∃ (k : Nat), mz = list.length - k ∧ (k ≤ list.length) ∧ (∀ x ∈ list.take k, o.getD x.toNat [] ≠ []) ∧ vs = [.pv false (.sl nl0 1 (o.map ordP)), .pv false (.sl nl1 1 (list.map intP)), i64 c, .ref 0, .pv false (.sl nl1 1 (list.map intP)), i64 (list.map intP).length, i64 k] ∧ rows = [Row.own 25 1 none false ((ordL o (list.take k)).map ints)]) (list.length) (le_len hC rfl) ⟨rfl, rfl⟩ ⟨0, rfl, Nat.zero_le _, (by simp), rfl, rfl⟩ ?_
  rintro mz vs rows - - ⟨k, rfl, hk, hf, rfl, rfl⟩
  have hll := ordL_len o (list.take k)
  rw [List.length_take] at hll
  refine vc_seq fun K5 hK5 => ?_
  refine vc_region ?_
  refine vo_binI rfl rfl rfl rfl trivial ?_
  refine vo_nil ?_
  refine hK5 _ ?_
  refine vc_seq fun K6 hK6 => ?_
  refine vc_cond rfl (fun hc1 => ?_) (fun hc1 => ?_)
  · try simp only [decide_eq_true_eq, decide_eq_false_iff_not, beq_iff_eq, bne_iff_ne, beq_eq_false_iff_ne, bne_eq_false_iff_eq, Bool.not_eq_true, Bool.not_eq_false, Bool.not_eq_eq_eq_not, Bool.not_true, Bool.not_false, List.length_map, Int.not_lt, Int.not_le, ne_eq, Decidable.not_not] at hc1
    have hm := getD_mem (show k < list.length by omega) 0
    have hb := hx _ hm
    refine vc_skip ?_
    refine hK6 _ ?_
    refine vc_seq fun K7 hK7 => ?_
    refine vc_block ?_
    refine vc_seq fun K8 hK8 => ?_
    refine vc_region ?_
    refine vo_index_pv (.int .i64 0) rfl rfl rfl E25.und inf3 sz3 sd sd ?_
    simp only [Int.toNat_natCast, Int.toNat_zero, getD_ints, getD_intss, getD_bools, getD_bytes, PV.cells, getD_ordP]
    refine vo_load_adr rfl rfl Try.underlying3 rfl ?_
    refine vo_assign_pv rfl rfl ?_
    refine vo_nil ?_
    refine hK8 _ ?_
    refine vc_seq fun K9 hK9 => ?_
    refine vc_seq fun K10 hK10 => ?_
    refine vc_region ?_
    refine vo_move_pv rfl rfl ?_
    refine vo_move_pv rfl rfl ?_
    refine vo_index_pv (.sl (some true) 1 []) rfl rfl rfl E23.und inf25 sz25 sd sd ?_
    simp only [Int.toNat_natCast, Int.toNat_zero, getD_ints, getD_intss, getD_bools, getD_bytes, PV.cells, getD_ordP]
    refine vo_load_adr rfl rfl Try.underlying25 rfl ?_
    refine vo_eqnil rfl rfl Try.underlying25 fun bn1 hn1 hnt1 hnf1 => ?_
    refine vo_nil ?_
    refine hK10 _ ?_
    refine vc_cond rfl (fun hc2 => ?_) (fun hc2 => ?_)
    · try simp only [decide_eq_true_eq, decide_eq_false_iff_not, beq_iff_eq, bne_iff_ne, beq_eq_false_iff_ne, bne_eq_false_iff_eq, Bool.not_eq_true, Bool.not_eq_false, Bool.not_eq_eq_eq_not, Bool.not_true, Bool.not_false, List.length_map, Int.not_lt, Int.not_le, ne_eq, Decidable.not_not] at hc2
      have hE : (o.getD (list.getD k 0).toNat []) = [] := by have := bEmp hnt1 hnf1; simp_all
      refine vc_seq fun K11 hK11 => ?_
      refine vc_region ?_
      refine vo_assign_pv rfl rfl ?_
      refine vo_nil ?_
      refine hK11 _ ?_
      refine vc_own_nilT 6 E25 rfl ?_
      refine vc_ret ?_
      change retG _ _ _ _ _
      refine retG_one 1 hC rfl rfl rfl rfl rfl ?_
      have e := ordS_stuck (c := c) hm hE
      exact ⟨rfl, row1_eqN (by rw [e]; rfl) (by rw [e]; rfl)⟩
    · try simp only [decide_eq_true_eq, decide_eq_false_iff_not, beq_iff_eq, bne_iff_ne, beq_eq_false_iff_ne, bne_eq_false_iff_eq, Bool.not_eq_true, Bool.not_eq_false, Bool.not_eq_eq_eq_not, Bool.not_true, Bool.not_false, List.length_map, Int.not_lt, Int.not_le, ne_eq, Decidable.not_not] at hc2
      have hE : (o.getD (list.getD k 0).toNat []) ≠ [] := by have := bEmp hnt1 hnf1; simp_all
      refine vc_skip ?_
      refine hK9 _ ?_
      refine vc_region ?_
      refine vo_move_ref rfl rfl ?_
      refine vo_move_pv rfl rfl ?_
      refine vo_move_pv rfl rfl ?_
      refine vo_index_pv (.sl (some true) 1 []) rfl rfl rfl E23.und inf25 sz25 sd sd ?_
      simp only [Int.toNat_natCast, Int.toNat_zero, getD_ints, getD_intss, getD_bools, getD_bytes, PV.cells, getD_ordP]
      refine vo_load_adr rfl rfl Try.underlying25 rfl ?_
      refine vo_weaken 27 rfl ?_
      refine vo_buildSlice E23 rfl rfl rfl rfl rfl ?_
      refine vo_append E23 rfl (by omega) rfl rfl rfl sd sd ?_
      refine vo_stN ?_
      try simp only [app_ints, app_intss, app_bools]
      refine vo_assign_ref rfl rfl ?_
      refine vo_nil ?_
      refine hK7 _ ?_
      refine vc_region ?_
      refine vo_binI rfl rfl rfl rfl sd ?_
      refine vo_move_pv rfl rfl ?_
      refine vo_nil ?_
      change again _ _ _ _ _ _
      refine again_mk rfl rfl rfl rfl ⟨_, ?_, k + 1, rfl, ?_, ?_, rfl, (congrArg (fun l => [Row.own 25 1 none false (List.map ints l)]) (show ordL o (list.take k) ++ [o.getD (list.getD k 0).toNat []] = ordL o (list.take (k+1)) from ordL_snoc _ (by omega)))⟩
      · omega
      · omega
      · exact (all_take_succ (by omega) 0).2 ⟨hf, hE⟩
  · try simp only [decide_eq_true_eq, decide_eq_false_iff_not, beq_iff_eq, bne_iff_ne, beq_eq_false_iff_ne, bne_eq_false_iff_eq, Bool.not_eq_true, Bool.not_eq_false, Bool.not_eq_eq_eq_not, Bool.not_true, Bool.not_false, List.length_map, Int.not_lt, Int.not_le, ne_eq, Decidable.not_not] at hc1
    have hk2 : k = list.length := by omega
    subst hk2
    rw [take_all (Nat.le_refl _)]
    rw [take_all (Nat.le_refl _)] at hf
    have hO := hOK hf
    have hmo := Nat.lt_of_le_of_lt (mgO_len (ordL o list ++ [list])) hO.tot
    have hll2 := ordL_len o list
    have hmr := mgR_len (ls := ordL o list ++ [list])
    refine vc_exit ?_
    refine hK3 _ ?_
    refine vc_seq fun K12 hK12 => ?_
    refine vc_region ?_
    refine vo_move_ref rfl rfl ?_
    refine vo_move_pv rfl rfl ?_
    refine vo_weaken 33 rfl ?_
    refine vo_buildSlice E23 rfl rfl rfl rfl rfl ?_
    refine vo_append E23 rfl (by omega) rfl rfl rfl sd sd ?_
    refine vo_stN ?_
    try simp only [app_ints, app_intss, app_bools]
    refine vo_expose 0 (by omega) rfl ?_
    refine vo_weaken 35 rfl ?_
    refine vo_stN ?_
    refine vo_call [] Try.func6 rfl rfl rfl rfl rfl rfl rfl (implMergeLists_sat (lists := ordL o list ++ [list]) (by have := hO.2; omega) (fun l hl => by have := (hO.1 l hl).1; omega)) ?_
    rintro _ _ ⟨nlm, rfl, rfl⟩
    refine ⟨Nat.le_of_ble_eq_true rfl, ⟨rfl, rfl, rfl⟩, .inl rfl, ?_⟩
    refine vo_stN ?_
    refine vo_move rfl ?_
    refine vo_extract rfl rfl rfl ?_
    refine vo_extract rfl rfl rfl ?_
    refine vo_assign_ref rfl rfl ?_
    refine vo_assign_pv rfl rfl ?_
    refine vo_nil ?_
    refine hK12 _ ?_
    refine vc_seq fun K13 hK13 => ?_
    refine vc_seq fun K14 hK14 => ?_
    refine vc_region ?_
    refine vo_move_pv rfl rfl ?_
    refine vo_not rfl rfl ?_
    refine vo_nil ?_
    refine hK14 _ ?_
    refine vc_cond rfl (fun hc3 => ?_) (fun hc3 => ?_)
    · try simp only [decide_eq_true_eq, decide_eq_false_iff_not, beq_iff_eq, bne_iff_ne, beq_eq_false_iff_ne, bne_eq_false_iff_eq, Bool.not_eq_true, Bool.not_eq_false, Bool.not_eq_eq_eq_not, Bool.not_true, Bool.not_false, List.length_map, Int.not_lt, Int.not_le, ne_eq, Decidable.not_not] at hc3
      refine vc_seq fun K15 hK15 => ?_
      refine vc_region ?_
      refine vo_assign_pv rfl rfl ?_
      refine vo_nil ?_
      refine hK15 _ ?_
      refine vc_own_nilT 6 E25 rfl ?_
      refine vc_ret ?_
      change retG _ _ _ _ _
      refine retG_one 3 hC rfl rfl rfl rfl rfl ?_
      have e : ordS o list c = [] := by rw [ordS_go hf, if_neg fun h => hc3 ⟨hO, h⟩]
      exact ⟨rfl, row1_eqN (by rw [e]; rfl) (by rw [e]; rfl)⟩
    · try simp only [decide_eq_true_eq, decide_eq_false_iff_not, beq_iff_eq, bne_iff_ne, beq_eq_false_iff_ne, bne_eq_false_iff_eq, Bool.not_eq_true, Bool.not_eq_false, Bool.not_eq_eq_eq_not, Bool.not_true, Bool.not_false, List.length_map, Int.not_lt, Int.not_le, ne_eq, Decidable.not_not] at hc3
      refine vc_skip ?_
      refine hK13 _ ?_
      refine vc_seq fun K16 hK16 => ?_
      refine vc_region ?_
      refine vo_move_pv rfl rfl ?_
      refine vo_buildSlice E25 rfl rfl rfl rfl rfl ?_
      refine vo_move_ref rfl rfl ?_
      refine vo_append E25 rfl (by omega) rfl rfl rfl sd sd ?_
      refine vo_stN ?_
      try simp only [app_ints, app_intss, app_bools]
      refine vo_assign_ref rfl rfl ?_
      refine vo_nil ?_
      refine hK16 _ ?_
      refine vc_ret ?_
      change retG _ _ _ _ _
      refine retG_one 3 hC rfl rfl rfl rfl rfl ?_
      have e : ordS o list c = c :: mgR (ordL o list ++ [list]) := by rw [ordS_go hf, if_pos hc3.2, mgR_yes hc3]
      exact ⟨rfl, row1_eqN (by rw [e]; rfl) (by rw [e]; rfl)⟩

end Go.Vl

namespace Go.Vl
set_option linter.unusedVariables false
set_option linter.unusedSimpArgs false
open Go.Proofs
theorem ordS_pad {o r : List (List Int)} {l : List Int} {c : Int} (h : ∀ x ∈ l, 0 ≤ x ∧ x < o.length) : ordS (o ++ r) l c = ordS o l c ∧ ordL (o ++ r) l = ordL o l := by
  have e : ∀ x ∈ l, (o ++ r).getD x.toNat [] = o.getD x.toNat [] := fun x hx => by
    have := h x hx
    simp only [List.getD]
    rw [List.getElem?_append_left (by omega)]
  have e2 : ordL (o ++ r) l = ordL o l := List.map_congr_left e
  have e3 : (∃ x ∈ l, (o ++ r).getD x.toNat [] = []) ↔ (∃ x ∈ l, o.getD x.toNat [] = []) :=
    ⟨fun ⟨x, h1, h2⟩ => ⟨x, h1, by rw [← e x h1]; exact h2⟩, fun ⟨x, h1, h2⟩ => ⟨x, h1, by rw [e x h1]; exact h2⟩⟩
  refine ⟨?_, e2⟩
  unfold ordS
  rw [e2]
  by_cases hh : ∃ x ∈ l, o.getD x.toNat [] = []
  · rw [if_pos hh, if_pos (e3.2 hh)]
  · rw [if_neg hh, if_neg (fun h => hh (e3.1 h))]
theorem get_ord {o : List (List Int)} {k : Nat} (h : k < o.length) : (o.map ordP)[k]? = some (.sl (some (o.getD k []).isEmpty) 1 ((o.getD k []).map intP)) := by
  simp [List.getD, List.getElem?_eq_getElem h]
theorem ordT_step {b : List (List Int)} (hv : VB b) {k : Nat} (h : k < b.length) (r : List (List Int)) : ordS (ordT b k ++ r) (b.getD k []) k = ordM b k ∧ ordL (ordT b k ++ r) (b.getD k []) = ordL (ordT b k) (b.getD k []) :=
  ordS_pad fun x hx => by have := (hv.at h).2.2 x hx; rw [ordT_len]; omega
theorem pad_mem {b : List (List Int)} (hv : VB b) {k n : Nat} (hk : k ≤ b.length) : ∀ l ∈ ordT b k ++ List.replicate n [], l.length < 1000000000 := by
  intro l hl
  rcases List.mem_append.1 hl with h | h
  · obtain ⟨j, hj, e⟩ := List.getElem_of_mem h
    have h1 : l = (ordT b k).getD j [] := by rw [← e]; simp [List.getD, List.getElem?_eq_getElem hj]
    rw [ordT_len] at hj
    rw [h1, ordT_get b k j hj]
    have := ordM_len hv (show j < b.length by omega)
    omega
  · rw [(List.mem_replicate.1 h).2]; simp

theorem ordersUpTo_sat {nl0 : Option Bool} {bases : List (List Int)} {c : Nat} (hbases : bases.length < 1000000000) (hlbases : ∀ l ∈ bases, l.length < 1000000000) (hv : VB bases) (hc : c < bases.length) : SatAt Try.prog 31 [.pv false (.sl nl0 1 (bases.map ints)), i64 c] [] (fun res rows => res = [.ref 0] ∧ rows = [Row.tree 25 1 (some false) none ((ordT bases (c+1)).map ordP)]) := by
  refine sat_entry_g (ts := [4]) Try.func31 rfl rfl (by decide) (Nat.le_of_ble_eq_true rfl) fun C hC => ?_
  rw [Try.ntmps31]
  replace hC : C.nb = 0 := hC
  refine vc_seq fun K1 hK1 => ?_
  refine vc_region ?_
  refine vo_assign_pv rfl rfl ?_
  refine vo_nil ?_
  refine hK1 _ ?_
  refine vc_seq fun K2 hK2 => ?_
  refine vc_region ?_
  refine vo_move_pv rfl rfl ?_
  refine vo_binI rfl rfl rfl rfl sd ?_
  refine vo_make E23 rfl rfl rfl sd sd sd ?_
  refine vo_assign_ref rfl rfl ?_
  refine vo_nil ?_
  refine hK2 _ ?_
  refine vc_seq fun K3 hK3 => ?_
  refine vc_seq fun K4 hK4 => ?_
  refine vc_region ?_
  refine vo_move_ref rfl rfl ?_
  refine vo_len_ref rfl rfl rfl Try.underlying23 ?_
  refine vo_move_pv rfl rfl ?_
  refine vo_nil ?_
  refine hK4 _ ?_
  refine vc_block ?_
  refine vc_totree 0 rfl (plain_rep _ _) ?_
  refine vc_stN ?_
  refine vc_loop [0, 5, 11, 12] (fun mz vs rows => ∃ (k : Nat), mz = (c + 1) - k ∧ (k ≤ (c + 1)) ∧ vs = [.pv false (.sl nl0 1 (bases.map ints)), .ref 0, i64 ((List.replicate (((c : Nat) : Int) + 1).toNat (PV.sl (some true) 1 [])).length : Nat), i64 k] ∧ rows = [Row.tree 25 1 (some false) none ((ordT bases k ++ List.replicate (c + 1 - k) []).map ordP)]) ((c + 1)) (le_len hC rfl) ⟨rfl, rfl⟩ ⟨0, rfl, Nat.zero_le _, rfl, (row1_eqT (by simp [ordT]))⟩ ?_
  rintro mz vs rows - - ⟨k, rfl, hk, rfl, rfl⟩
  have hR : (List.replicate (((c : Nat) : Int) + 1).toNat (PV.sl (some true) 1 [])).length = c + 1 := by rw [List.length_replicate]; omega
  have hP : (ordT bases k ++ List.replicate (c + 1 - k) []).length = c + 1 := by rw [List.length_append, ordT_len, List.length_replicate]; omega
  refine vc_seq fun K5 hK5 => ?_
  refine vc_region ?_
  refine vo_binI rfl rfl rfl rfl trivial ?_
  refine vo_nil ?_
  refine hK5 _ ?_
  refine vc_seq fun K6 hK6 => ?_
  refine vc_cond rfl (fun hc1 => ?_) (fun hc1 => ?_)
  · try simp only [decide_eq_true_eq, decide_eq_false_iff_not, beq_iff_eq, bne_iff_ne, beq_eq_false_iff_ne, bne_eq_false_iff_eq, Bool.not_eq_true, Bool.not_eq_false, Bool.not_eq_eq_eq_not, Bool.not_true, Bool.not_false, List.length_map, Int.not_lt, Int.not_le, ne_eq, Decidable.not_not] at hc1
    have h4 := (hv.at (show k < bases.length by omega)).1
    have hst := ordT_step hv (show k < bases.length by omega) (List.replicate (c + 1 - k) [])
    have hbd := (hv.at (show k < bases.length by omega)).2.2
    refine vc_skip ?_
    refine hK6 _ ?_
    refine vc_seq fun K7 hK7 => ?_
    refine vc_block ?_
    refine vc_seq fun K8 hK8 => ?_
    refine vc_region ?_
    refine vo_move_pv rfl rfl ?_
    refine vo_assign_pv rfl rfl ?_
    refine vo_nil ?_
    refine hK8 _ ?_
    refine vc_region ?_
    refine vo_move_ref rfl rfl ?_
    refine vo_move_pv rfl rfl ?_
    refine vo_move_ref rfl rfl ?_
    refine vo_move_pv rfl rfl ?_
    refine vo_move_pv rfl rfl ?_
    refine vo_index_pv (.sl none 1 []) rfl rfl rfl E23.und inf25 sz25 sd sd ?_
    simp only [Int.toNat_natCast, Int.toNat_zero, getD_ints, getD_intss, getD_bools, getD_bytes, PV.cells]
    refine vo_load_adr rfl rfl Try.underlying25 rfl ?_
    refine vo_move_pv rfl rfl ?_
    refine vo_call [] Try.func46 rfl rfl rfl rfl rfl rfl rfl (orderFrom_sat (o := ordT bases k ++ List.replicate (c + 1 - k) []) (list := bases.getD k []) (c := k) (by omega) h4 (pad_mem hv (by omega)) (fun x hx => by have := hbd x hx; omega) (fun _ => by rw [hst.2]; exact ordL_OKLs hv (by omega))) ?_
    rintro _ _ ⟨rfl, rfl⟩
    refine ⟨Nat.le_of_ble_eq_true rfl, ⟨rfl, rfl, rfl⟩, .inr ⟨rfl, rfl⟩, ?_⟩
    refine vo_stN ?_
    refine vo_index_ref rfl rfl rfl rfl E23.und inf25 sz25 sd sd ?_
    try simp only [Int.toNat_natCast]
    refine vo_store_tree rfl rfl (.inl rfl) rfl rfl rfl (fits_of rfl) (fun _ _ _ _ _ h => (own_tp h (plain_ints _)).1) rfl (by omega) (by omega) inf25 sz25 sd ?_
    refine vo_stN ?_
    try simp only [set_intss, Int.toNat_natCast]
    refine vo_nil ?_
    refine hK7 _ ?_
    refine vc_region ?_
    refine vo_binI rfl rfl rfl rfl sd ?_
    refine vo_move_pv rfl rfl ?_
    refine vo_nil ?_
    change again _ _ _ _ _ _
    refine again_mk rfl rfl rfl rfl ⟨_, ?_, k + 1, rfl, ?_, rfl, (row1_eqT (by rw [hst.1]; exact fill_ord (by omega) (ordT_len bases k) _))⟩
    · omega
    · omega
  · try simp only [decide_eq_true_eq, decide_eq_false_iff_not, beq_iff_eq, bne_iff_ne, beq_eq_false_iff_ne, bne_eq_false_iff_eq, Bool.not_eq_true, Bool.not_eq_false, Bool.not_eq_eq_eq_not, Bool.not_true, Bool.not_false, List.length_map, Int.not_lt, Int.not_le, ne_eq, Decidable.not_not] at hc1
    refine vc_exit ?_
    refine hK3 _ ?_
    refine vc_seq fun K9 hK9 => ?_
    refine vc_region ?_
    refine vo_move_ref rfl rfl ?_
    refine vo_assign_ref rfl rfl ?_
    refine vo_nil ?_
    refine hK9 _ ?_
    refine vc_ret ?_
    change retG _ _ _ _ _
    refine retG_one 0 hC rfl rfl rfl rfl rfl ?_
    exact ⟨rfl, row1_eqT (by rw [show k = c + 1 by omega]; simp)⟩

end Go.Vl

namespace Go.Vl
set_option linter.unusedVariables false
set_option linter.unusedSimpArgs false
open Go.Proofs

theorem implOrderOf_sat {nl0 : Option Bool} {bases : List (List Int)} {c : Int} (hbases : bases.length < 1000000000) (hlbases : ∀ l ∈ bases, l.length < 1000000000) : SatAt Try.prog 11 [.pv false (.sl nl0 1 (bases.map ints)), i64 c] [] (fun res rows => ∃ (Rr : TypeId) (nl : Option Bool), res = [.ref 0, bo (decide (orOK bases c))] ∧ rows = [Row.own Rr 1 nl true ((orR bases c).map intP)]) := by
  refine sat_entry_g (ts := [4, 5]) Try.func11 rfl rfl (by decide) (Nat.le_of_ble_eq_true rfl) fun C hC => ?_
  rw [Try.ntmps11]
  replace hC : C.nb = 0 := hC
  refine vc_seq fun K1 hK1 => ?_
  refine vc_region ?_
  refine vo_assign_pv rfl rfl ?_
  refine vo_assign_pv rfl rfl ?_
  refine vo_nil ?_
  refine hK1 _ ?_
  refine vc_seq fun K2 hK2 => ?_
  refine vc_seq fun K3 hK3 => ?_
  refine vc_region ?_
  refine vo_move_pv rfl rfl ?_
  refine vo_move_pv rfl rfl ?_
  refine vo_call0 Try.func30 rfl rfl rfl rfl (hasClass_sat hbases hlbases) ?_
  rintro _ _ ⟨rfl, rfl⟩
  refine ⟨rfl, rfl, .inl rfl, ?_⟩
  refine vo_not rfl rfl ?_
  refine vo_nil ?_
  refine hK3 _ ?_
  refine vc_cond rfl (fun hc1 => ?_) (fun hc1 => ?_)
  · try simp only [decide_eq_true_eq, decide_eq_false_iff_not, beq_iff_eq, bne_iff_ne, beq_eq_false_iff_ne, bne_eq_false_iff_eq, Bool.not_eq_true, Bool.not_eq_false, Bool.not_eq_eq_eq_not, Bool.not_true, Bool.not_false, List.length_map, Int.not_lt, Int.not_le, ne_eq, Decidable.not_not] at hc1
    refine vc_seq fun K4 hK4 => ?_
    refine vc_region ?_
    refine vo_assign_pv rfl rfl ?_
    refine vo_assign_pv rfl rfl ?_
    refine vo_nil ?_
    refine hK4 _ ?_
    refine vc_own_nil 4 E25 rfl ?_
    refine vc_ret ?_
    change retG _ _ _ _ _
    refine retG_one 0 hC rfl rfl rfl rfl rfl ?_
    exact ⟨_, _, congrArg (fun b => [SV.ref 0, bo b]) (bF fun h => hc1 h.1), row1_eqF (by rw [orR_no fun h => hc1 h.1]; rfl)⟩
  · try simp only [decide_eq_true_eq, decide_eq_false_iff_not, beq_iff_eq, bne_iff_ne, beq_eq_false_iff_ne, bne_eq_false_iff_eq, Bool.not_eq_true, Bool.not_eq_false, Bool.not_eq_eq_eq_not, Bool.not_true, Bool.not_false, List.length_map, Int.not_lt, Int.not_le, ne_eq, Decidable.not_not] at hc1
    obtain ⟨hv, h0, h1⟩ := hc1
    obtain ⟨n, rfl⟩ := Int.eq_ofNat_of_zero_le h0
    have hn : n < bases.length := by omega
    have hTl := ordT_len bases (n+1)
    refine vc_skip ?_
    refine hK2 _ ?_
    refine vc_seq fun K5 hK5 => ?_
    refine vc_region ?_
    refine vo_move_pv rfl rfl ?_
    refine vo_move_pv rfl rfl ?_
    refine vo_call [] Try.func31 rfl rfl rfl rfl rfl rfl rfl (ordersUpTo_sat hbases hlbases hv hn) ?_
    rintro _ _ ⟨rfl, rfl⟩
    refine ⟨Nat.le_of_ble_eq_true rfl, ⟨rfl, rfl, rfl⟩, .inl rfl, ?_⟩
    refine vo_stN ?_
    refine vo_move_pv rfl rfl ?_
    refine vo_index_ref rfl rfl rfl rfl E23.und inf25 sz25 sd sd ?_
    try simp only [Int.toNat_natCast]
    refine vo_load_sub rfl rfl rfl Try.underlying25 rfl sd fun u1 => ?_
    refine vo_stN ?_
    try simp only [Int.toNat_natCast]
    refine vo_take 0 16 (by omega) rfl rfl (get_ord (by rw [ordT_len]; omega)) (plain_ints _) fun Rt => ?_
    refine vo_stN ?_
    refine vo_assign_ref rfl rfl ?_
    refine vo_nil ?_
    refine hK5 _ ?_
    refine vc_seq fun K6 hK6 => ?_
    refine vc_region ?_
    refine vo_move_ref rfl rfl ?_
    refine vo_move_ref rfl rfl ?_
    refine vo_neqnil_ref rfl rfl rfl Try.underlying25 fun bn1 hn1 hnt1 hnf1 => ?_
    refine vo_assign_ref rfl rfl ?_
    refine vo_assign_pv rfl rfl ?_
    refine vo_nil ?_
    refine hK6 _ ?_
    refine vc_ret ?_
    change retG _ _ _ _ _
    refine retG_one 1 hC rfl rfl rfl rfl rfl ?_
    have hg := ordT_get bases (n+1) n (by omega)
    rw [hg] at hn1 hnt1 hnf1 ⊢
    have hb := bEmp hnt1 hnf1
    by_cases he : ordM bases n = []
    · have hno : ¬ orOK bases n := fun h => h.2 he
      refine ⟨_, _, congrArg (fun b => [SV.ref 0, bo b]) (show (!bn1) = _ by rw [hb, he]; exact bF hno), row1_eqF (by rw [orR_no hno, he])⟩
    · have hok : orOK bases n := ⟨⟨hv, h0, h1⟩, he⟩
      refine ⟨_, _, congrArg (fun b => [SV.ref 0, bo b]) (show (!bn1) = _ by rw [hb, isE he]; exact bT hok), row1_eqF (by rw [orR_yes hok]; rfl)⟩

end Go.Vl

/- '!=' on structs of two numbers. -/
namespace Go.Vl
set_option linter.unusedVariables false
set_option linter.unusedSimpArgs false
open Go.RowKit

section
variable {P : Program} {C : Ctx} {Q : Go.Exit → St → Prop} {s : St} {ops : Array Oper} {rest : List Oper} {t : Nat} {ty : TypeId} {pos : String} {af : Array Edge}

theorem lt_neqS2 {xt yt : TypeId} {x y : Operand} {a1 a2 b1 b2 : Int} {f1 f2 : Bool} (h : EqI2 P xt) (hx : getO s.env x = .pv f1 (.agg [.int .i64 a1, .int .i64 a2])) (hy : getO s.env y = .pv f2 (.agg [.int .i64 b1, .int .i64 b2])) :
    Lt P C s ⟨some t, .binOp .neq xt x y yt, ty, pos, af, none⟩ (.pv true (.bool (!(a1 == b1 && a2 == b2)))) := by
  intro m a w hs
  have e1 := hs.get x
  rw [hx] at e1
  have e1 := e1.pv_inv.agg2
  have e2 := hs.get y
  rw [hy] at e2
  have e2 := e2.pv_inv.agg2
  refine ⟨_, fun w' _ => ?_, .pv _ _ _ (.bool _)⟩
  have hg : (eqGuard .neq xt x y (.agg #[.int .i64 a1, .int .i64 a2]) (.agg #[.int .i64 b1, .int .i64 b2])).run P w' = .ok () w' := run_eqGuard_agg w' .neq xt x y _ _ h.2
  have hb : (binOp .neq xt (.agg #[.int .i64 a1, .int .i64 a2]) (.agg #[.int .i64 b1, .int .i64 b2])).run P w' = .ok (.bool (!(a1 == b1 && a2 == b2))) w' := by
    rw [run_neq_struct, h.1]; rfl
  simp only [execOp, e1, e2, Sem.run_bind, hg, Result.andThen_ok, hb]
  rfl

theorem vo_neqS2 {xt yt : TypeId} {x y : Operand} {a1 a2 b1 b2 : Int} {f1 f2 : Bool} (h : EqI2 P xt) (ht : Nat.blt t s.n = true) (hx : getO s.env x = .pv f1 (.agg [.int .i64 a1, .int .i64 a2])) (hy : getO s.env y = .pv f2 (.agg [.int .i64 b1, .int .i64 b2]))
    (next : VO P C ops rest Q (s.put t (.pv true (.bool (!(a1 == b1 && a2 == b2)))))) : VO P C ops (⟨some t, .binOp .neq xt x y yt, ty, pos, af, none⟩ :: rest) Q s :=
  vo_pure ht (lt_neqS2 h hx hy) next
end
section
variable {P : Program}
theorem run_results5 {fn : Func} {ts : List Nat} (h : fn.results = (ts.map ResultVar.tmp).toArray) (hl : ts.length ≤ 5) (tmps : Array Value) (P : Program) (w : World) :
    (results fn tmps).run P w = .ok (pack (ts.map fun t => tmps.getD t undef).toArray) w := by
  match ts, hl with
  | [], _ => simp [results, h, pack]
  | [a], _ => simp [results, h, pack]
  | [a, b], _ => simp [results, h, pack]
  | [a, b, c], _ => simp [results, h, pack]
  | [a, b, c, d], _ => simp [results, h, pack]
  | [a, b, c, d, e], _ => simp [results, h, pack]

theorem sat_entry_g5 {f : FuncId} {fn : Func} {c : Code} {args : List SV} {rows : List Row} {R : List SV → List Row → Prop} {ts : List Nat} (hf : P.funcs[f]? = some fn) (hb : fn.body = some c)
    (hr : fn.results = (ts.map ResultVar.tmp).toArray) (hl : ts.length ≤ 5) (hn : args.length ≤ fn.ntmps)
    (h : ∀ C : Ctx, C.nb = rows.length → VC P C c (retG C ts R) ⟨fn.ntmps, enumE 0 args, rows⟩) : SatAt P f args rows R := by
  intro C m vals hnb hA hv hs
  refine calls_of_wp hf hb ?_
  have hs2 : SimM C ⟨fn.ntmps, enumE 0 args, rows⟩ m { tmps := vals ++ Array.replicate (fn.ntmps - vals.size) undef, defers := [] } C.w0 := by
    refine { hs with size := ?_, env := fun t => ?_, defs := rfl }
    · simp; omega
    · have := hs.env t
      show RS _ _ _ _ (look (enumE 0 args) t) _
      change RS _ _ _ _ (look (enumE 0 args) t) _ at this
      by_cases ht : t < vals.size
      · have e : (vals ++ Array.replicate (fn.ntmps - vals.size) undef).getD t undef = vals.getD t undef := by
          simp [Array.getD, ht]
          intro hh; omega
        rw [e]
        exact this
      · have e : look (enumE 0 args) t = .any := by
          rw [look_enumE]
          simp
          rw [List.getElem?_eq_none (by omega)]
          rfl
        rw [e]
        exact .any _
  refine wp_mono (h C hnb _ _ ⟨m, hs2⟩) ?_
  rintro e a w' ⟨s', ⟨m', hs'⟩, he, res, rows', hlen, hh, hR⟩
  obtain ⟨m2, hm2⟩ := hh m' a w' hs'
  have key : ∃ v, (results fn a.tmps).run P w' = .ok v w' ∧ (∃ (us : Array Value) (res : List SV) (rows' : List Row) (m' : Nat → MV), Ending.returned v = .returned (pack us) ∧ us.size = res.length ∧
      SimM C ⟨us.size, enumE 0 res, rows'⟩ m' ⟨us, []⟩ w' ∧ R res rows') := by
    refine ⟨_, run_results5 hr hl a.tmps P w', (ts.map fun t => a.tmps.getD t undef).toArray, res, rows', m2, rfl, by simp [hlen], ?_, hR⟩
    have e : (ts.map fun t => a.tmps.getD t undef).toArray.size = ts.length := by simp
    rw [e]
    exact hm2
  obtain ⟨v, hv1, hv2⟩ := key
  rcases he with rfl | rfl
  · exact ⟨hs'.defs, v, hv1, hv2⟩
  · exact ⟨hs'.defs, v, hv1, hv2⟩

end
end Go.Vl

/- What yields the same in every world may be taken first, whatever else comes. -/
namespace Go.Vl
set_option linter.unusedVariables false
set_option linter.unusedSimpArgs false
open Go.RowKit

section
variable {P : Program} {ops : Array Oper} {Q : Go.Exit → Act → World → Prop}

def yields0 (P : Program) (ops : Array Oper) (o : Oper) (v : Value) (a : Act) : Prop :=
  (Region.wanted o (yielded ops a.tmps) = true ∧ ∀ w, (execOp a.eval o).run P w = .ok (.value v) w) ∨ (Region.wanted o (yielded ops a.tmps) = false ∧ v = undef)

theorem yields0.step {o : Oper} {v : Value} {a a' : Act} (h : yields0 P ops o v a) (he : execOp a'.eval o = execOp a.eval o)
    (hw : Region.wanted o (yielded ops a'.tmps) = Region.wanted o (yielded ops a.tmps)) : yields0 P ops o v a' := by
  unfold yields0 at *
  rw [he, hw]
  exact h

theorem yields0.op {i : Nat} {o : Oper} {v : Value} {a : Act} {w : World} (hi : ops[i]? = some o) (hy : yields0 P ops o v a) {K : Act → World → Prop} (h : K (a.put o.dst v) w) : wpOp P ops Q i K a w := by
  unfold wpOp
  simp only [hi]
  rcases hy with ⟨hw, hv⟩ | ⟨hw, rfl⟩
  · simp only [hw, if_true, Oper.wp, hv w, Oper.upon]; exact .inl h
  · simp only [hw, Bool.false_eq_true, if_false]; exact h

theorem op_before0 {j : Nat} {oi oj : Oper} {v : Value} (hj : ops[j]? = some oj) (hap : oi.apart ops oj = true) (hsi : ∀ cs b, oi.op ≠ .select cs b) (hsj : ∀ cs b, oj.op ≠ .select cs b)
    (hQ : ∀ c a w, ¬ Q (.panic c) a w) {K : Act → World → Prop} {a : Act} {w : World} (hy : yields0 P ops oi v a) (h : wpOp P ops Q j K (a.put oi.dst v) w) :
    wpOp P ops Q j (fun a' w' => yields0 P ops oi v a' ∧ K (a'.put oi.dst v) w') a w := by
  obtain ⟨h1, h2, h3⟩ := Oper.apart_spec hap
  have keep : ∀ (u : Value), yields0 P ops oi v (a.put oj.dst u) := fun u => hy.step (execOp_put oi hsi a oj.dst u h3) (wanted_put oi a oj.dst u h3)
  have fin : ∀ (u : Value) (w' : World), K ((a.put oi.dst v).put oj.dst u) w' → yields0 P ops oi v (a.put oj.dst u) ∧ K ((a.put oj.dst u).put oi.dst v) w' := by
    intro u w' hk
    exact ⟨keep u, by rw [← Act.put_comm a v u h2]; exact hk⟩
  unfold wpOp at *
  simp only [hj] at *
  rw [wanted_put oj a oi.dst v h1] at h
  by_cases hw : Region.wanted oj (yielded ops a.tmps) = true
  · rw [if_pos hw] at h ⊢
    rcases h with h | ⟨hasks, hlets⟩
    · left
      unfold Oper.wp at *
      rw [execOp_put oj hsj a oi.dst v h1] at h
      generalize (execOp a.eval oj).run P w = r at *
      cases r with
      | ok n w' =>
        cases n with
        | value u => exact fin u w' h
        | skip => exact fin undef w' h
        | defer d =>
          simp only [Oper.upon] at h ⊢
          refine ⟨?_, by rw [← Act.put_comm _ v undef h2, ← Act.put_defers]; exact h⟩
          have hy1 : yields0 P ops oi v { a with defers := d :: a.defers } := hy.step rfl rfl
          exact hy1.step (execOp_put oi hsi _ oj.dst undef h3) (wanted_put oi _ oj.dst undef h3)
        | enter f args =>
          simp only [Oper.upon] at h ⊢
          refine h.mono fun e w'' he => ?_
          cases e with
          | returned u => exact fin u w'' he
          | panicked c => exact (hQ _ _ _ he).elim
          | outgrown => exact he
        | row row args => exact Rows.mono h fun u w'' he => fin u w'' he
        | _ => exact h
      | halt x w' =>
        cases x <;> simp only [Oper.upon] at h ⊢
        exact (hQ _ _ _ h).elim
    · right
      refine ⟨?_, hlets⟩
      unfold Oper.asks at *
      rw [execOp_put oj hsj a oi.dst v h1] at hasks
      exact hasks
  · rw [if_neg hw] at h ⊢
    exact fin undef w h

theorem anyL_first0 {late : List Nat} {i : Nat} {oi : Oper} {v : Value} (hi : ops[i]? = some oi) (hsel : ∀ (j : Nat) (o : Oper) cs b, ops[j]? = some o → o.op ≠ .select cs b) (hQ : ∀ c a w, ¬ Q (.panic c) a w) :
    ∀ (n : Nat) (listed : Array Bool) (a : Act) (w : World),
      (∀ j oj, ops[j]? = some oj → j ≠ i → listed.getD j true = false → (∀ e ∈ oj.after, Region.binds .any e = true → e.on ≠ i) → oi.apart ops oj = true) →
      i ∈ Region.ready .any ops listed → yields0 P ops oi v a → anyL late P ops Q n (listed.setIfInBounds i true) (a.put oi.dst v) w → anyL late P ops Q (n + 1) listed a w := by
  intro n
  induction n with
  | zero =>
    intro listed a w _ hr hy H
    refine ⟨fun h => (by rw [h] at hr; cases hr), fun j hj => ?_⟩
    by_cases hji : j = i
    · subst hji; exact hy.op hi ⟨.inl (ExtW.refl w), H⟩
    · have := ready_mono hj hji
      rw [H.1] at this
      cases this
  | succ n ih =>
    intro listed a w hfree hr hy H
    refine ⟨fun h => (by rw [h] at hr; cases hr), fun j hj => ?_⟩
    by_cases hji : j = i
    · subst hji; exact hy.op hi ⟨.inl (ExtW.refl w), H⟩
    · have g1 := H.2 j (ready_mono hj hji)
      obtain ⟨hjun, oj, hoj, hall⟩ := mem_ready.1 hj
      have hnot : ∀ e ∈ oj.after, Region.binds .any e = true → e.on ≠ i := by
        intro e he hb heq
        have l1 := hall e he hb
        have l0 := (mem_ready.1 hr).1
        rw [heq] at l1
        rcases Nat.lt_or_ge i listed.size with h' | h'
        · simp [h'] at l0 l1
          rw [l0] at l1
          cases l1
        · simp [Array.getElem?_eq_none h'] at l1
      have g2 := op_before0 hoj (hfree j oj hoj hji hjun hnot) (fun cs b => hsel i oi cs b hi) (fun cs b => hsel j oj cs b hoj) hQ hy g1
      have hfree' : ∀ k ok, ops[k]? = some ok → k ≠ i → (listed.setIfInBounds j true).getD k true = false → (∀ e ∈ ok.after, Region.binds .any e = true → e.on ≠ i) → oi.apart ops ok = true := by
        intro k ok hk hki hun hno
        refine hfree k ok hk hki ?_ hno
        by_cases hjk : j = k
        · subst hjk; exact hjun
        · rw [getD_set_ne true hjk] at hun; exact hun
      refine wpOp_mono (fun a' w' g3 => ⟨g3.2.1, ih (listed.setIfInBounds j true) a' w' hfree' (ready_mono hr (Ne.symm hji)) g3.1 ?_⟩) g2
      rw [Array.setIfInBounds_comm _ _ hji]
      exact g3.2.2
end

/-- The operation hands back a value that no world changes. -/
def Lt0 (P : Program) (C : Ctx) (s : St) (o : Oper) (sv : SV) : Prop :=
  ∀ m a w, SimM C s m a w → ∃ v, (∀ w', (execOp a.eval o).run P w' = .ok (.value v) w') ∧ RS w (Gd C s.rows m w) m s.rows.length sv v

section
variable {late : List Nat} {P : Program} {C : Ctx} {ops : Array Oper} {K : St → Prop} {s : St} {n : Nat} {listed : Array Bool} {t : Nat} {ty : TypeId} {pos : String} {af : Array Edge}

theorem l0_move {x : Operand} : Lt0 P C s ⟨some t, .move x, ty, pos, af, none⟩ (getO s.env x) := fun m a w hs => ⟨a.eval x, fun _ => rfl, hs.get x⟩
theorem l0_move_pv {x : Operand} {f : Bool} {p : PV} (hx : getO s.env x = .pv f p) : Lt0 P C s ⟨some t, .move x, ty, pos, af, none⟩ (.pv f p) := by rw [← hx]; exact l0_move
theorem l0_move_ref {x : Operand} {id : Nat} (hx : getO s.env x = .ref id) : Lt0 P C s ⟨some t, .move x, ty, pos, af, none⟩ (.ref id) := by rw [← hx]; exact l0_move
theorem l0_move_ptr {x : Operand} {id e i o : Nat} (hx : getO s.env x = .ptr id e i o) : Lt0 P C s ⟨some t, .move x, ty, pos, af, none⟩ (.ptr id e i o) := by rw [← hx]; exact l0_move

theorem vl_light0 (i : Nat) {o : Oper} {t : Nat} {sv : SV} (hi : ops[i]? = some o) (hd : o.dst = some t) (ht : Nat.blt t s.n = true) (hr : (Region.ready .any ops listed).contains i = true) (hns : Region.noSelect ops = true)
    (hf : Region.free .any ops listed i = true) (hw : Wnt C ops s o true) (hl : Lt0 P C s { o with guard := none } sv) (next : VL late P C ops n (listed.setIfInBounds i true) K (s.put t sv)) : VL late P C ops (n + 1) listed K s := by
  intro m a w hs
  obtain ⟨v, hrun, hv⟩ := hl m a w hs
  refine anyL_first0 hi (Region.noSelect_spec hns) post0_panic n listed a w (Region.free_spec hi hf) (by simpa using hr) (.inl ⟨hw m a w hs, hrun⟩) ?_
  rw [hd]
  exact next m _ _ (hs.put (blt_lt ht) hv)
end
end Go.Vl

/- A row that holds numbers alone points nowhere. -/
namespace Go.Vl
set_option linter.unusedVariables false
set_option linter.unusedSimpArgs false
open Go.RowKit

theorem clean_row {w : World} {G G' : Bool → Nat → Prop} {m m' : Nat → MV} {N N' : Nat} {mv : MV} {t : TypeId} {e : Nat} {nl : Option Bool} {f : Bool} {xs : List PV} (h : RowOK w G m N mv (.own t e nl f xs)) (hp : ∀ x ∈ xs, ∀ c ∈ x.cells, c.scal = true) :
    RowOK w G' m' N' mv (.own t e nl true xs) := by
  cases h with
  | own v t e nl f xs vs hown h1 h2 hw hr =>
    refine .own v t e nl true xs vs hown h1 h2 hw fun i x j c hx hc => ?_
    obtain ⟨u, hu, hq⟩ := hr i x j c hx hc
    exact ⟨u, hu, hq.scal_any (hp x (List.mem_of_getElem? hx) c (List.mem_of_getElem? hc))⟩

section
variable {P : Program} {C : Ctx} {Q : Go.Exit → St → Prop} {s : St} {ops : Array Oper}

theorem SimM.clean {m : Nat → MV} {a : Act} {w : World} (hs : SimM C s m a w) (id : Nat) {el e : Nat} {nl : Option Bool} {f : Bool} {xs : List PV} (hrow : s.rows[id]? = some (.own el e nl f xs)) (hp : ∀ x ∈ xs, ∀ c ∈ x.cells, c.scal = true) :
    SimM C ⟨s.n, s.env, s.rows.set id (.own el e nl true xs)⟩ m a w :=
  hs.storeRow (w' := w) (bo := none) ⟨_, hrow, rfl⟩ (fun _ e => by cases e) ⟨rfl, rfl, rfl, Nat.le_refl _, fun _ _ _ => rfl⟩ _ (fun hG => clean_row (hs.rows id _ hrow) hp)

theorem scal_ints (l : List Int) : ∀ x ∈ l.map intP, ∀ c ∈ x.cells, c.scal = true := by
  intro x hx c hc
  obtain ⟨n, _, rfl⟩ := List.mem_map.1 hx
  simp [PV.cells] at hc
  subst hc; rfl
theorem vo_clean {l : List Oper} (id : Nat) {el e : Nat} {nl : Option Bool} {f : Bool} {xs : List PV} (hrow : s.rows[id]? = some (.own el e nl f xs)) (hp : ∀ x ∈ xs, ∀ c ∈ x.cells, c.scal = true)
    (next : VO P C ops l Q ⟨s.n, s.env, s.rows.set id (.own el e nl true xs)⟩) : VO P C ops l Q s := fun a w ⟨m, hs⟩ => next a w ⟨m, hs.clean id hrow hp⟩
theorem vc_clean {code : Code} (id : Nat) {el e : Nat} {nl : Option Bool} {f : Bool} {xs : List PV} (hrow : s.rows[id]? = some (.own el e nl f xs)) (hp : ∀ x ∈ xs, ∀ c ∈ x.cells, c.scal = true)
    (next : VC P C code Q ⟨s.n, s.env, s.rows.set id (.own el e nl true xs)⟩) : VC P C code Q s := fun a w ⟨m, hs⟩ => next a w ⟨m, hs.clean id hrow hp⟩
theorem retG_norm {C : Ctx} {ts : List Nat} {R : List SV → List Row → Prop} {s : St} (h : retG C ts R .ret s) : retG C ts R .normal s := ⟨.inl rfl, h.2⟩
end
end Go.Vl

/- Statements at which two orders of evaluation are known: what holds in whatever order holds in both. -/
namespace Go.Vl
set_option linter.unusedVariables false
set_option linter.unusedSimpArgs false
open Go.RowKit

section
variable {P : Program} {ops : Array Oper} {Q : Go.Exit → Act → World → Prop}

theorem binds_sub {md : Region.Mode} {e : Edge} (h : Region.binds .any e = true) : Region.binds md e = true := by
  unfold Region.binds at *
  split at h <;> simp_all

theorem ready_sub {md : Region.Mode} {listed : Array Bool} {i : Nat} (h : i ∈ Region.ready md ops listed) : i ∈ Region.ready .any ops listed := by
  obtain ⟨h1, o, ho, h2⟩ := mem_ready.1 h
  exact mem_ready.2 ⟨h1, o, ho, fun e he hb => h2 e he (binds_sub hb)⟩

/-- An order in which all can come. -/
def orderB (md : Region.Mode) (ops : Array Oper) : List Nat → List Nat → Bool
  | seen, [] => (List.range ops.size).all fun j => seen.contains j
  | seen, i :: r => (match ops[i]? with
    | some o => o.after.all fun e => !Region.binds md e || seen.contains e.on
    | none => true) && orderB md ops (i :: seen) r

theorem order_spec {md : Region.Mode} {listed : Array Bool} (hsz : listed.size = ops.size) (hr : Region.ready md ops listed = []) : ∀ (perm seen : List Nat), (∀ j, seen.contains j = true → j < ops.size → listed.getD j false = true) → (∀ j, seen.contains j = true → j < ops.size) → (∀ i ∈ perm, i < ops.size) → orderB md ops seen perm = true → ∀ j, j < ops.size → listed.getD j false = true
  | [], seen, hs, _, _, h, j, hj => by
    simp only [orderB, List.all_eq_true, List.mem_range] at h
    exact hs j (h j hj) hj
  | i :: r, seen, hs, hlt, hp, h, j, hj => by
    simp only [orderB, Bool.and_eq_true] at h
    have hi := hp i List.mem_cons_self
    have hl : listed.getD i false = true := by
      have ho : ops[i]? = some ops[i] := Array.getElem?_eq_getElem hi
      rw [ho] at h
      have hi2 : i < listed.size := by omega
      by_cases hli : listed[i] = true
      · simp [Array.getD, hi2, hli]
      · exfalso
        have hm : i ∈ Region.ready md ops listed := mem_ready.2 ⟨by simp [Array.getD, hi2]; simpa using hli, _, ho, fun e he hb => by
          have h1 := Array.all_eq_true_iff_forall_mem.1 h.1 e he
          rw [hb] at h1
          have h2 : seen.contains e.on = true := by simpa using h1
          exact hs _ h2 (hlt _ h2)⟩
        rw [hr] at hm
        cases hm
    refine order_spec hsz hr r (i :: seen) (fun k hk hk2 => ?_) (fun k hk => ?_) (fun k hk => hp k (List.mem_cons_of_mem _ hk)) h.2 j hj
    · by_cases e : k = i
      · subst e; exact hl
      · refine hs k ?_ hk2
        simp only [List.contains_cons, Bool.or_eq_true, beq_iff_eq, e, false_or] at hk
        exact hk
    · by_cases e : k = i
      · subst e; exact hi
      · refine hlt k ?_
        simp only [List.contains_cons, Bool.or_eq_true, beq_iff_eq, e, false_or] at hk
        exact hk

theorem wpAny_md {md : Region.Mode} (H : ∀ listed : Array Bool, listed.size = ops.size → Region.ready md ops listed = [] → Region.ready .any ops listed = []) :
    ∀ (n : Nat) (listed : Array Bool) (a : Act) (w : World), listed.size = ops.size → wpAny P .any ops Q n listed a w → wpAny P md ops Q n listed a w
  | 0, listed, a, w, _, h => by
    refine ⟨?_, h.2⟩
    rw [List.eq_nil_iff_forall_not_mem]
    intro i hi
    have := ready_sub hi
    rw [h.1] at this
    cases this
  | n + 1, listed, a, w, hs, h => ⟨fun h0 => h.1 (H listed hs h0), fun i hi => wpOp_mono (fun a' w' h' => wpAny_md H n _ a' w' (by simpa using hs) h') (h.2 i (ready_sub hi))⟩

theorem order_any {md : Region.Mode} (perm : List Nat) (hp : perm.all (fun i => Nat.blt i ops.size) = true) (h : orderB md ops [] perm = true) (listed : Array Bool) (hsz : listed.size = ops.size) (hr : Region.ready md ops listed = []) : Region.ready .any ops listed = [] := by
  rw [List.all_eq_true] at hp
  have hall := order_spec hsz hr perm [] (fun j hj => by simp at hj) (fun j hj => by simp at hj) (fun i hi => blt_lt (hp i hi)) h
  rw [List.eq_nil_iff_forall_not_mem]
  intro i hi
  obtain ⟨h1, o, ho, _⟩ := mem_ready.1 hi
  have hi2 := (Array.getElem?_eq_some_iff.1 ho).1
  have := hall i hi2
  have hi3 : i < listed.size := by omega
  simp [Array.getD, hi3] at h1 this
  rw [h1] at this
  cases this
end

theorem vc_drawLD (late pt pg : List Nat) {P : Program} {C : Ctx} {ops : Array Oper} {s : St} {id : Nat} {Q : Go.Exit → St → Prop} (h1 : pt.all (fun i => Nat.blt i ops.size) = true) (h2 : orderB .text ops [] pt = true) (h3 : pg.all (fun i => Nat.blt i ops.size) = true) (h4 : orderB .gc ops [] pg = true)
    (h : VL late P C ops ops.size (Array.replicate ops.size false) (Q .normal) s) : VC P C (.region id ops true) Q s := by
  intro a w ⟨m, hs⟩
  refine wp_region_draw fun t => ?_
  have hany := any_of_anyL _ _ _ _ (h m a _ (hs.grow (w' := { w with drawn := w.drawn + 1 }) (ExtW.refl w) rfl rfl rfl))
  have hfin : ∀ e a' w', post0 C (Q .normal) e a' w' → post C Q e a' w' := by
    rintro e a' w' ⟨rfl, s', hs', hk⟩
    exact ⟨s', hs', hk⟩
  unfold Region.schedule
  split
  · exact wpOps_monoQ hfin _ _ _ (wpAny_sound ops.size t _ a _ hany)
  · split
    · exact wpOps_monoQ hfin _ _ _ (wpAny_sound ops.size _ _ a _ (wpAny_md (order_any pt h1 h2) _ _ _ _ (by simp) hany))
    · exact wpOps_monoQ hfin _ _ _ (wpAny_sound ops.size _ _ a _ (wpAny_md (order_any pg h3 h4) _ _ _ _ (by simp) hany))
end Go.Vl

/- Elements of several cells in a row of the call's own: one cell of them, or a part that is a struct, is read. -/
namespace Go.Vl
set_option linter.unusedVariables false
set_option linter.unusedSimpArgs false
open Go.RowKit

section
variable {P : Program} {C : Ctx} {Q : Go.Exit → St → Prop} {s : St} {ops : Array Oper} {rest : List Oper} {t : Nat} {ty : TypeId} {pos : String} {af : Array Edge}

/-- The cells of an element, as they lie. -/
theorem SimM.elem {m : Nat → MV} {a : Act} {w : World} (hs : SimM C s m a w) {x : Operand} {id R e i o : Nat} {nl : Option Bool} {fr : Bool} {xs : List PV} (hx : getO s.env x = .ptr id e i o) (hrow : s.rows[id]? = some (.own R e nl fr xs)) {p : PV} (hget : xs[i]? = some p) :
    ∃ (b : Nat) (f : Nat → Value), a.eval x = .pointer (some ⟨b, i * e + o, none⟩) ∧ p.fits e ∧ ∀ (j : Nat) (c : PV), p.cells[j]? = some c → w.cell? ⟨b, i * e + j, none⟩ = some (f j) ∧ RP w (Gd C s.rows m w fr) c (f j) := by
  obtain ⟨b, hv, hb, hid⟩ := hs.ptr hx
  have hR := hs.rows id _ hrow
  have hi := (List.getElem?_eq_some_iff.1 hget).1
  generalize hmv : m id = v at *
  cases hR with
  | own v t' e nl fr xs vs hown h1 h2 hw hr =>
    rcases hown.2 with ⟨rfl, hn0⟩ | ⟨g, cap, cur, rfl, _, hh, hle, hmx, hcs, htk⟩
    · omega
    · simp only [MV.of, blk, Option.some.injEq] at hb
      subst hb
      refine ⟨g, fun j => (vs[i * e + j]?).getD undef, hv, hw i p hget, fun j c hc => ?_⟩
      obtain ⟨u, hu, hpu⟩ := hr i p j c hget hc
      refine ⟨?_, by simp only [hu, Option.getD_some]; exact hpu⟩
      simp only [hu, Option.getD_some]; rw [cell_of_row w g _ cur R (0, 0) hh]
      rw [← htk, List.getElem?_take] at hu
      split at hu
      · simpa using hu
      · cases hu

/-- One cell of an element is read. -/
theorem lt_load_ownC {x : Operand} {T id R e i o : Nat} {nl : Option Bool} {fr : Bool} {xs : List PV} {p c d : PV} {D : TypeDesc} (hx : getO s.env x = .ptr id e i o) (hrow : s.rows[id]? = some (.own R e nl fr xs))
    (hT : P.underlying T = some D) (hD : (match D with | .struct _ | .array _ _ => true | _ => false) = false) (hi : i < xs.length) (hp : xs.getD i d = p) (hc : p.cells[o]? = some c) : Lt P C s ⟨some t, .load T x, ty, pos, af, none⟩ (.pv (fr || c.scal) c) := by
  intro m a w hs
  have hget : xs[i]? = some p := by rw [← hp]; simp [List.getD, List.getElem?_eq_getElem hi]
  obtain ⟨b, f, hv, hfit, hcl⟩ := hs.elem hx hrow hget
  obtain ⟨h1, h2⟩ := hcl o c hc
  refine ⟨f o, fun w' hw' => ?_, ?_⟩
  · have hcell := hw'.cell h1
    have hagg : (isAgg T).run P w' = .ok false w' := by
      cases D <;> simp_all [isAgg, run_underlying hT]
    simp [execOp, Instr.loadAt, hv, Instr.sureAddr, loadVar, hagg, load, Sem.run, hcell]
  · cases hsc : c.scal with
    | true => simp only [Bool.or_true]; exact .pv _ _ _ (h2.scal_any hsc)
    | false => simp only [Bool.or_false]; exact .pv _ _ _ h2

theorem vo_load_ownC {x : Operand} {T id R e i o : Nat} {nl : Option Bool} {fr : Bool} {xs : List PV} {p c d : PV} {D : TypeDesc} (ht : Nat.blt t s.n = true) (hx : getO s.env x = .ptr id e i o) (hrow : s.rows[id]? = some (.own R e nl fr xs))
    (hT : P.underlying T = some D) (hD : (match D with | .struct _ | .array _ _ => true | _ => false) = false) (hi : i < xs.length) (hp : xs.getD i d = p) (hc : p.cells[o]? = some c)
    (next : VO P C ops rest Q (s.put t (.pv (fr || c.scal) c))) : VO P C ops (⟨some t, .load T x, ty, pos, af, none⟩ :: rest) Q s :=
  vo_pure ht (lt_load_ownC hx hrow hT hD hi hp hc) next

/-- A struct in an element is read. -/
theorem lt_load_ownS {x : Operand} {T id R e i o n : Nat} {nl : Option Bool} {fr : Bool} {xs : List PV} {p d : PV} {D : TypeDesc} {inf : TypeInfo} (hx : getO s.env x = .ptr id e i o) (hrow : s.rows[id]? = some (.own R e nl fr xs))
    (hT : P.underlying T = some D) (hD : D.isRow = true) (hinf : P.info? T = some inf) (hsz : inf.size = n) (hi : i < xs.length) (hp : xs.getD i d = p) (hle : o + n ≤ p.cells.length) :
    Lt P C s ⟨some t, .load T x, ty, pos, af, none⟩ (.pv fr (.agg ((p.cells.drop o).take n))) := by
  intro m a w hs
  have hget : xs[i]? = some p := by rw [← hp]; simp [List.getD, List.getElem?_eq_getElem hi]
  obtain ⟨b, f, hv, hfit, hcl⟩ := hs.elem hx hrow hget
  have hlen : ((List.range n).map fun j => f (o + j)).length = n := by simp
  refine ⟨.agg ((List.range n).map fun j => f (o + j)).toArray, fun w' hw' => ?_, ?_⟩
  · have := run_loadAt_mid (P := P) w' b (i * e + o) T ((List.range n).map fun j => f (o + j)) D (fun j u hj => ?_) hT hD (by rw [hinf]; simp [hsz])
    · simp [execOp, hv, this]
    · have hjn : j < n := by rw [← hlen]; exact (List.getElem?_eq_some_iff.1 hj).1
      simp [hjn] at hj
      subst hj
      have := (hcl (o + j) _ (List.getElem?_eq_getElem (by omega))).1
      rw [show i * e + o + j = i * e + (o + j) by omega]
      exact hw'.cell this
  · refine .pv _ _ _ (.agg _ _ (by simp; omega) (fun j c hj => ?_) (fun j c u hj hu => ?_))
    · rw [List.getElem?_take] at hj
      split at hj
      · rw [List.getElem?_drop] at hj; exact hfit.2 _ c hj
      · cases hj
    · rw [List.getElem?_take] at hj
      split at hj
      · rename_i hjn
        rw [List.getElem?_drop] at hj
        simp [hjn] at hu
        subst hu
        exact (hcl _ c hj).2
      · cases hj

theorem vo_load_ownS {x : Operand} {T id R e i o n : Nat} {nl : Option Bool} {fr : Bool} {xs : List PV} {p d : PV} {D : TypeDesc} {inf : TypeInfo} (ht : Nat.blt t s.n = true) (hx : getO s.env x = .ptr id e i o) (hrow : s.rows[id]? = some (.own R e nl fr xs))
    (hT : P.underlying T = some D) (hD : D.isRow = true) (hinf : P.info? T = some inf) (hsz : inf.size = n) (hi : i < xs.length) (hp : xs.getD i d = p) (hle : o + n ≤ p.cells.length)
    (next : VO P C ops rest Q (s.put t (.pv fr (.agg ((p.cells.drop o).take n))))) : VO P C ops (⟨some t, .load T x, ty, pos, af, none⟩ :: rest) Q s :=
  vo_pure ht (lt_load_ownS hx hrow hT hD hinf hsz hi hp hle) next
end
end Go.Vl

/- A row takes another one in and may move: 'append' of a slice that is the program's own to a row whose slices are its own. -/
namespace Go.Vl
set_option linter.unusedVariables false
set_option linter.unusedSimpArgs false
open Go.RowKit

theorem SimM.joinRow {C : Ctx} {s : St} {m : Nat → MV} {a : Act} {w w' : World} (h : SimM C s m a w) {id j : Nat} (hne : id ≠ j) (hid : liveAt s.rows id) (hj : liveAt s.rows j) (hnb : C.nb ≤ id) (hnj : C.nb ≤ j)
    {bo : Option Nat} (hbo : ∀ b, bo = some b → (m id).S b) (hg : w.grownBy w' bo) (r : Row) (v : MV)
    (hb : ∀ b, v.S b → (m id).S b ∨ (m j).S b ∨ w.heap.size ≤ b)
    (hr : (∀ fr b, Gd C s.rows m w fr b → Gd C (((s.rows.map (Row.kill id)).set j .dead).set id r) (updM m id v) w' fr b ∧ w'.heap[b]? = w.heap[b]?) →
      RowOK w' (Gd C (((s.rows.map (Row.kill id)).set j .dead).set id r) (updM m id v) w') (updM m id v) s.rows.length v r) :
    SimM C ⟨s.n, killE id s.env, ((s.rows.map (Row.kill id)).set j .dead).set id r⟩ (updM m id v) a w' := by
  have hidl : id < s.rows.length := by
    obtain ⟨q, hq, _⟩ := hid
    exact (List.getElem?_eq_some_iff.1 hq).1
  have hjl : j < s.rows.length := by
    obtain ⟨q, hq, _⟩ := hj
    exact (List.getElem?_eq_some_iff.1 hq).1
  have hlive : ∀ i, liveAt (((s.rows.map (Row.kill id)).set j .dead).set id r) i → i ≠ j ∧ liveAt s.rows i := by
    intro i ⟨q, hq, hv⟩
    rw [List.getElem?_set] at hq
    split at hq
    · rename_i e; subst e; exact ⟨hne, hid⟩
    · rw [List.getElem?_set] at hq
      split at hq
      · simp [hjl] at hq; subst hq; cases hv
      · rename_i e; exact ⟨Ne.symm e, liveAt_kill ⟨q, hq, hv⟩⟩
  have hSof : ∀ i b, i ≠ j → liveAt s.rows i → (updM m id v i).S b → w.heap.size ≤ b ∨ ∃ k, liveAt s.rows k ∧ (m k).S b ∧ (k = i ∨ (i = id ∧ k = j)) := by
    intro i b hij hl hb1
    by_cases e : i = id
    · subst e
      rw [updM_same] at hb1
      rcases hb b hb1 with h1 | h1 | h1
      · exact .inr ⟨i, hl, h1, .inl rfl⟩
      · exact .inr ⟨j, hj, h1, .inr ⟨rfl, rfl⟩⟩
      · exact .inl h1
    · rw [updM_ne _ _ e] at hb1
      exact .inr ⟨i, hl, hb1, .inl rfl⟩
  have hbig : ∀ i b, i ≠ j → liveAt s.rows i → (updM m id v i).S b → w.heap.size ≤ b → i = id := by
    intro i b hij hl hb1 hsz
    by_cases e : i = id
    · exact e
    · rw [updM_ne _ _ e] at hb1
      have := h.lt hl hb1
      omega
  have hG : ∀ fr b, Gd C s.rows m w fr b → Gd C (((s.rows.map (Row.kill id)).set j .dead).set id r) (updM m id v) w' fr b ∧ w'.heap[b]? = w.heap[b]? := by
    refine Gd.step (fun b => (m id).S b) hg.size (fun k hk hn => hg.block k hk (fun e => hn (hbo k e.symm))) (fun k hk => ⟨id, hid, hk⟩) (fun b hlt ⟨i, hl, hbk⟩ => ?_)
    obtain ⟨h1, h2⟩ := hlive i hl
    rcases hSof i b h1 h2 hbk with h3 | ⟨k, h3, h4, _⟩
    · omega
    · exact ⟨k, h3, h4⟩
  have hlen : (((s.rows.map (Row.kill id)).set j .dead).set id r).length = s.rows.length := by simp
  exact {
    defs := h.defs
    size := h.size
    os := hg.os.trans h.os
    tape := hg.tape.trans h.tape
    output := hg.output.trans h.output
    hsz := Nat.le_trans h.hsz hg.size
    old := fun k hk hn => (hg.block k (by have := h.hsz; omega) (fun e => by have := h.newb id k hnb hid (hbo k e.symm); omega)).trans (h.old k hk hn)
    bor := fun i hi => by rw [updM_ne _ _ (by omega)]; exact h.bor i hi
    nbl := by have := h.nbl; show C.nb ≤ (((s.rows.map (Row.kill id)).set j .dead).set id r).length; rw [hlen]; exact this
    newb := fun i b hi hl hbk => by
      obtain ⟨h1, h2⟩ := hlive i hl
      rcases hSof i b h1 h2 hbk with h3 | ⟨k, h3, h4, h5⟩
      · have := h.hsz; omega
      · exact h.newb k b (by rcases h5 with rfl | ⟨_, rfl⟩ <;> omega) h3 h4
    dist := fun i1 i2 b h1 h2 hb1 hb2 => by
      obtain ⟨a1, a2⟩ := hlive i1 h1
      obtain ⟨c1, c2⟩ := hlive i2 h2
      rcases hSof i1 b a1 a2 hb1 with hz | ⟨k1, k2, k3, k4⟩
      · rw [hbig i1 b a1 a2 hb1 hz, hbig i2 b c1 c2 hb2 hz]
      · rcases hSof i2 b c1 c2 hb2 with hz | ⟨l1, l2, l3, l4⟩
        · rw [hbig i1 b a1 a2 hb1 hz, hbig i2 b c1 c2 hb2 hz]
        · have e := h.dist k1 l1 b k2 l2 k3 l3
          rcases k4 with rfl | ⟨rfl, rfl⟩ <;> rcases l4 with rfl | ⟨rfl, rfl⟩
          · exact e
          · exact absurd e a1
          · exact absurd e.symm c1
          · rfl
    rows := fun i q hq => by
      change (((s.rows.map (Row.kill id)).set j .dead).set id r)[i]? = some q at hq
      show RowOK w' _ _ (((s.rows.map (Row.kill id)).set j .dead).set id r).length _ q
      rw [hlen]
      rw [List.getElem?_set] at hq
      split at hq
      · rename_i e
        subst e
        simp [hidl] at hq
        subst hq
        rw [updM_same]
        exact hr hG
      · rename_i e
        rw [List.getElem?_set] at hq
        split at hq
        · simp [hjl] at hq; subst hq; exact .dead _
        · rename_i e2
          rw [getElem?_killRows] at hq
          simp only [Option.map_eq_some_iff] at hq
          obtain ⟨q', hq', rfl⟩ := hq
          rw [updM_ne _ _ (Ne.symm e)]
          exact RowOK.kill hG (fun k hk => updM_ne _ _ hk) (h.rows i q' hq') (fun hd b hbk => hg.block b (h.lt ⟨q', hq', hd⟩ hbk) (fun eb => e (h.dist id i b hid ⟨q', hq', hd⟩ (hbo b eb.symm) hbk)))
    env := fun u => by
      show RS w' _ _ (((s.rows.map (Row.kill id)).set j .dead).set id r).length (look (killE id s.env) u) _
      rw [hlen, look_killE]
      exact (h.env u).kill hG (fun k hk => updM_ne _ _ hk) }
end Go.Vl

/- Rows whose slices are their own: a slice literal of one such slice, and 'append'. -/
namespace Go.Vl
set_option linter.unusedVariables false
set_option linter.unusedSimpArgs false
open Go.RowKit

section
variable {P : Program} {C : Ctx} {Q : Go.Exit → St → Prop} {s : St} {ops : Array Oper} {rest : List Oper} {t : Nat} {ty : TypeId} {pos : String} {af : Array Edge}

/-- A slice of one element, which takes a row in. -/
theorem vo_build_tree {T el by' j : Nat} {d p : PV} {y : Operand} {rj : Row} (hI : ElInfo P T el 1 by' d) (ht : Nat.blt t s.n = true) (hy : getO s.env y = .ref j) (hrj : s.rows[j]? = some rj) (hlj : rj.live = true)
    (hp : p.fits 1) (hch : ∀ w G m N mv, RowOK w G m N mv rj → TP w p mv.v mv.S) (hnj : C.nb ≤ j)
    (next : VO P C ops rest Q ⟨s.n, (t, .ref s.rows.length) :: killE j s.env, (s.rows.map (Row.kill j)).set j .dead ++ [Row.tree el 1 (some false) none [p]]⟩) :
    VO P C ops (⟨some t, .buildSlice T 1 #[(0, y)], ty, pos, af, none⟩ :: rest) Q s := by
  obtain ⟨hT, ⟨inf, z, hinf, hsz, hbytes, hz, hzs, hzr⟩, hdf, he⟩ := hI
  refine vo_value (s1 := ⟨s.n, killE j s.env, (s.rows.map (Row.kill j)).set j .dead ++ [Row.tree el 1 (some false) none [p]]⟩) (sv := .ref s.rows.length) ht (fun m a w hs => ?_) next
  obtain ⟨hvy, hjl⟩ := hs.row hy
  have hTj := hch _ _ _ _ _ (hs.rows j _ hrj)
  have hone := hTj.oneCell
  have hljv : liveAt s.rows j := ⟨_, hrj, hlj⟩
  have hcells : (m j).v.cells.toList = [(m j).v] := oneCell_cells hone
  have hcs1 : (m j).v.cells.size = 1 := by
    have := congrArg List.length hcells
    simpa using this
  let w1 := w.alloc (.cells #[(m j).v] el)
  have hrun : (execOp a.eval ⟨some t, .buildSlice T 1 #[(0, y)], ty, pos, af, none⟩).run P w = .ok (.value (.slice (some ⟨w.heap.size, 0, none⟩) 1 1)) w1 := by
    have hf := Great.fill_whole he [(m j).v] ((Array.range (1 * 1)).map (z.cells[· % z.cells.size]!)) (by intro v hv; rw [List.mem_singleton.1 hv]; exact hcs1) (by simp)
    have hpl : (#[(0, y)].map fun (i, x) => (i, a.eval x)).toList = ([(m j).v].zipIdx 0).map fun x => (x.2, x.1) := by
      simp [hvy]
    have := run_buildSlice (P := P) w T el 1 (#[(0, y)].map fun (i, x) => (i, a.eval x)) #[(m j).v] inf z hT hinf hz (by rw [hsz]; omega) (by rw [hsz]; omega) (by rw [hsz, hpl]; rw [hf]; simp [hcells])
    simp only [execOp, Sem.run_bind, this, Result.andThen_ok]
    rfl
  have hheap : w1.heap[w.heap.size]? = some (.cells #[(m j).v] el (0, 0)) := heap_alloc_new w _
  have hown1 : w1.ownsRow 0 el 1 (.slice (some ⟨w.heap.size, 0, none⟩) 1 1) 1 [(m j).v] := ⟨rfl, .inr ⟨w.heap.size, 1, #[(m j).v], rfl, Nat.zero_le _, hheap, Nat.le_refl _, by simp [maxLen], rfl, rfl⟩⟩
  have hfits : ∀ (i : Nat) (x : PV), [p][i]? = some x → x.fits 1 := by
    intro i x hx
    match i, hx with
    | 0, hx => cases hx; exact hp
  have hadd := hs.addRow (w' := w1) (World.grownBy_alloc w _ none) (.tree el 1 (some false) (some (0, none)) [p]) ⟨.slice (some ⟨w.heap.size, 0, none⟩) 1 1, fun b => b = w.heap.size⟩
    (fun b hb => by rw [hb]; exact Nat.le_refl _) (fun hG => by
      refine .tree ⟨.slice (some ⟨w.heap.size, 0, none⟩) 1 1, fun b => b = w.heap.size⟩ el 1 (some false) (some (0, none)) [p] [(m j).v] (fun _ _ => False) hown1 (fun h => by cases h) (fun _ h => by cases h) hfits ?_ (fun _ _ _ h => h.elim) (fun _ _ h => h.elim) (fun _ _ _ h => h) ?_ (fun _ _ h => by cases h)
      · intro i x jj c u hx hc hu
        have hi : i = 0 := by
          have := (List.getElem?_eq_some_iff.1 hx).1
          simp at this; exact this
        subst hi
        have hjj : jj = 0 := by
          have hf := hfits 0 x hx
          have := (List.getElem?_eq_some_iff.1 hc).1
          rw [hf.1] at this; omega
        subst hjj
        simp at hu
        exact .inr ⟨rfl, fun b h => h, by rw [← hu]; exact hone⟩
      · intro b
        constructor
        · intro h; left; show blk _ = some b; rw [show b = w.heap.size from h]; rfl
        · rintro (h | ⟨_, h⟩)
          · simp [blk] at h; exact h.symm
          · exact h.elim)
  obtain ⟨hs1, _⟩ := hadd
  have hne : s.rows.length ≠ j := by omega
  have hlid : liveAt (s.rows ++ [Row.tree el 1 (some false) (some (0, none)) [p]]) s.rows.length := ⟨Row.tree el 1 (some false) (some (0, none)) [p], by simp, rfl⟩
  have hlj1 : liveAt (s.rows ++ [Row.tree el 1 (some false) (some (0, none)) [p]]) j := ⟨rj, by rw [List.getElem?_append_left hjl]; exact hrj, hlj⟩
  have hmj : updM m s.rows.length ⟨.slice (some ⟨w.heap.size, 0, none⟩) 1 1, fun b => b = w.heap.size⟩ j = m j := updM_ne _ _ (Ne.symm hne)
  have hjb : ∀ b', (m j).S b' → b' < w.heap.size := fun b' h => hs.lt hljv h
  have hab := hs1.absorb (w' := w1) (id := s.rows.length) (j := j) hne hlid hlj1 hs.nbl hnj (b0 := w.heap.size) (by rw [updM_same]) ⟨rfl, rfl, rfl, Nat.le_refl _, fun _ _ _ => rfl⟩
    (fun b => b = w.heap.size ∨ (m j).S b) (fun b hb => by rw [updM_same, hmj]; exact hb) (.tree el 1 (some false) none [p]) (fun hG => by
      rw [updM_same]
      refine .tree ⟨.slice (some ⟨w.heap.size, 0, none⟩) 1 1, fun b => b = w.heap.size ∨ (m j).S b⟩ el 1 (some false) none [p] [(m j).v] (fun q b => q = 0 ∧ (m j).S b) hown1 (fun h => by cases h) (fun _ h => by cases h) hfits ?_ (fun q q' b h h' => by rw [h.1, h'.1]) (fun q b h h2 => ?_) (fun q b h h2 => ?_) ?_ (fun _ _ h => by cases h)
      · intro i x jj c u hx hc hu
        have hi : i = 0 := by
          have := (List.getElem?_eq_some_iff.1 hx).1
          simp at this; exact this
        subst hi
        have hjj : jj = 0 := by
          have hf := hfits 0 x hx
          have := (List.getElem?_eq_some_iff.1 hc).1
          rw [hf.1] at this; omega
        subst hjj
        simp at hu hx
        subst hu
        subst hx
        have hc1 : c = p := by
          rw [hTj.cells1] at hc
          simpa using hc.symm
        subst hc1
        refine .inl ?_
        have hSi : (fun b' => (0 * 1 + 0 = 0) ∧ (m j).S b') = (m j).S := by funext b'; simp
        show TP w1 c (m j).v (fun b' => (0 * 1 + 0 = 0) ∧ (m j).S b')
        rw [hSi]
        exact hTj.mono fun b' h => (World.grownBy_alloc w (.cells #[(m j).v] el) none).block b' (hjb b' h) (by simp)
      · simp [blk] at h2
        have := hjb b h.2
        omega
      · simp at h
        omega
      · intro b
        constructor
        · rintro (h | h)
          · left; rw [h]; rfl
          · exact .inr ⟨0, rfl, h⟩
        · rintro (h | ⟨_, _, h⟩)
          · simp [blk] at h; exact .inl h.symm
          · exact .inr h)
  have hrows : (((s.rows ++ [Row.tree el 1 (some false) (some (0, none)) [p]]).map (Row.kill j)).set j .dead).set s.rows.length (.tree el 1 (some false) none [p]) = (s.rows.map (Row.kill j)).set j .dead ++ [Row.tree el 1 (some false) none [p]] := by
    rw [List.map_append, List.set_append_left _ _ (by simpa using hjl), List.set_append_right _ _ (by simp)]
    simp
  rw [hrows] at hab
  refine ⟨_, _, _, hrun, hab, ?_⟩
  have := RS.ref (w := w1) (G := Gd C ((s.rows.map (Row.kill j)).set j .dead ++ [Row.tree el 1 (some false) none [p]]) (updM (updM m s.rows.length ⟨.slice (some ⟨w.heap.size, 0, none⟩) 1 1, fun b => b = w.heap.size⟩) s.rows.length ⟨((updM m s.rows.length ⟨.slice (some ⟨w.heap.size, 0, none⟩) 1 1, fun b => b = w.heap.size⟩) s.rows.length).v, fun b => b = w.heap.size ∨ (m j).S b⟩) w1)
    (m := updM (updM m s.rows.length ⟨.slice (some ⟨w.heap.size, 0, none⟩) 1 1, fun b => b = w.heap.size⟩) s.rows.length ⟨((updM m s.rows.length ⟨.slice (some ⟨w.heap.size, 0, none⟩) 1 1, fun b => b = w.heap.size⟩) s.rows.length).v, fun b => b = w.heap.size ∨ (m j).S b⟩)
    (N := ((s.rows.map (Row.kill j)).set j .dead ++ [Row.tree el 1 (some false) none [p]]).length) s.rows.length (by simp)
  rw [updM_same] at this
  simpa [updM_same] using this

/-- 'append' of such a slice to a row whose slices are its own. -/
theorem vo_append_tree {x y : Operand} {id k T el by' : Nat} {nl nly : Option Bool} {xs ys : List PV} {d : PV} (hI : ElInfo P T el 1 by' d) (ht : Nat.blt t s.n = true) (hnb : C.nb ≤ id) (hnk : C.nb ≤ k) (hne : Nat.beq id k = false)
    (hx : getO s.env x = .ref id) (hrow : s.rows[id]? = some (.tree el 1 nl none xs)) (hy : getO s.env y = .ref k) (hrk : s.rows[k]? = some (.tree el 1 nly none ys))
    (hby : (xs.length + ys.length) * by' ≤ 140737488355328) (hmx : xs.length + ys.length ≤ 9223372036854775807) (hys : 0 < ys.length)
    (next : VO P C ops rest Q ⟨s.n, (t, .ref id) :: killE id s.env, ((s.rows.map (Row.kill id)).set k .dead).set id (Row.tree el 1 (if nl = some false then some false else none) none (xs ++ ys))⟩) :
    VO P C ops (⟨some t, .call ⟨.builtin .append, #[x, y], #[T, T]⟩, ty, pos, af, none⟩ :: rest) Q s := by
  obtain ⟨hT, ⟨inf, z, hinf, hsz, hbytes, hz, hzs, hzr⟩, hdf, he⟩ := hI
  refine vo_value (s1 := ⟨s.n, killE id s.env, ((s.rows.map (Row.kill id)).set k .dead).set id (Row.tree el 1 (if nl = some false then some false else none) none (xs ++ ys))⟩) (sv := .ref id) ht (fun m a w hs => ?_) next
  have hne : id ≠ k := fun e => by subst e; rw [Nat.beq_refl] at hne; cases hne
  obtain ⟨hvx, hidl⟩ := hs.row hx
  obtain ⟨hvy, hkl⟩ := hs.row hy
  have hlid : liveAt s.rows id := ⟨_, hrow, rfl⟩
  have hlk : liveAt s.rows k := ⟨_, hrk, rfl⟩
  have hR := hs.rows id _ hrow
  have hK := hs.rows k _ hrk
  have hdist := hs.dist
  have hlti : ∀ b, (m id).S b → b < w.heap.size := fun b h => hs.lt hlid h
  have hltk : ∀ b, (m k).S b → b < w.heap.size := fun b h => hs.lt hlk h
  generalize hmi : m id = vi at *
  generalize hmk : m k = vk at *
  cases hR with
  | tree vi t1 e1 nl1 h1' xs1 vals Sf hown h1 h2 hw hr hd hn hz1 hS hkn =>
    cases hK with
    | tree vk t2 e2 nl2 h2' ys1 vals2 Sf2 hown2 k1 k2 hw2 hr2 hd2 hn2 hz2 hS2 hkn2 =>
      have hl1 : vals.length = xs.length := by have := hown.1; omega
      have hl2 : vals2.length = ys.length := by have := hown2.1; omega
      rcases hown2.2 with ⟨ey, hn0⟩ | ⟨g2, cap2, cur2, ey, h02, hh2, hle2, hmx2, hsz2, htk2⟩
      · omega
      · have hcell2 := World.ownsRow.cells hown2 (show vk.v.ownBlock = some g2 by rw [ey]; rfl)
        have hone2 : ∀ u ∈ vals2, u.oneCell' = true := by
          intro u hu
          obtain ⟨q, hq⟩ := List.getElem?_of_mem hu
          have hq1 : q < ys.length := by rw [← hl2]; exact (List.getElem?_eq_some_iff.1 hq).1
          have hxq : ys[q]? = some ys[q] := List.getElem?_eq_getElem hq1
          have hf := hw2 q _ hxq
          have h0 : 0 < ys[q].cells.length := by rw [hf.1]; omega
          have hc : ys[q].cells[0]? = some (ys[q].cells[0]'h0) := List.getElem?_eq_getElem h0
          exact (hr2 q _ 0 _ u hxq hc (by simpa using hq)).oneCell
        obtain ⟨v', w', hrun, hown', hg, hnil, hblk⟩ := run_append_own_at (P := P) w 0 T ty el inf z 1 by' hT hinf hz hsz hbytes hzs he vi.v xs.length vals hown ⟨g2, 0, none⟩ ys.length cap2 vals2 (by omega) hcell2 hone2
          (by simpa [maxLen] using hmx) hby (Nat.zero_le _)
        have hvb : vi.v.ownBlock = blk vi.v := by
          rcases hown.2 with ⟨e, _⟩ | ⟨g, cp, cur, e, _⟩ <;> rw [e] <;> rfl
        have hv'b : v'.ownBlock = blk v' := by
          rcases hown'.2 with ⟨e, _⟩ | ⟨g, cp, cur, e, _⟩ <;> rw [e] <;> rfl
        have hrun' : (Builtin.append_ #[T, T] ty #[a.eval x, a.eval y]).run P w = .ok v' w' := by
          rw [hvx, hvy, ey]; exact hrun
        have hblk2 : ∀ b, blk v' = some b → vi.S b ∨ w.heap.size ≤ b := by
          intro b hb
          rw [← hv'b] at hb
          rcases hblk with h3 | h3
          · left; refine (hS b).2 (.inl ?_); rw [← hvb, ← h3]; exact hb
          · right; rw [h3] at hb; cases hb; exact Nat.le_refl _
        have hdisj : ∀ b, vi.S b → vk.S b → False := fun b h3 h4 => hne (hdist id k b hlid hlk (by rw [hmi]; exact h3) (by rw [hmk]; exact h4))
        let Sf' : Nat → Nat → Prop := fun q b => if q < xs.length then Sf q b else Sf2 (q - xs.length) b
        have hSfi : ∀ q b, Sf q b → vi.S b := fun q b h => (hS b).2 (.inr ⟨q, h⟩)
        have hSfk : ∀ q b, Sf2 q b → vk.S b := fun q b h => (hS2 b).2 (.inr ⟨q, h⟩)
        have hj := hs.joinRow (w' := w') (bo := blk vi.v) hne hlid hlk hnb hnk (fun b hb => by rw [hmi]; exact (hS b).2 (.inl hb)) (by rw [← hvb]; exact hg) (.tree el 1 (if nl = some false then some false else none) none (xs ++ ys)) ⟨v', fun b => blk v' = some b ∨ ∃ q, Sf' q b⟩
          (fun b hb => by
            rw [hmi, hmk]
            rcases hb with hb | ⟨q, hb⟩
            · rcases hblk2 b hb with h3 | h3
              · exact .inl h3
              · exact .inr (.inr h3)
            · simp only [Sf'] at hb
              split at hb
              · exact .inl (hSfi _ _ hb)
              · exact .inr (.inl (hSfk _ _ hb))) (fun hG => by
            refine .tree ⟨v', fun b => blk v' = some b ∨ ∃ q, Sf' q b⟩ el 1 _ none (xs ++ ys) (vals ++ vals2) Sf' (by simpa using hown') (fun h => by split at h <;> simp at h) (fun h => ?_) (fits_append hw hw2) ?_ ?_ ?_ ?_ (fun b => Iff.rfl) (fun _ _ h => by cases h)
            · split at h
              · rename_i hnl
                intro hv'
                exact h2 hnl (hnil.1 hv').1
              · simp at h
            · intro i x jj c u hx hc hu
              have hjj : jj = 0 := by
                have hf := fits_append hw hw2 i x hx
                have := (List.getElem?_eq_some_iff.1 hc).1
                rw [hf.1] at this; omega
              subst hjj
              simp only [Nat.mul_one, Nat.add_zero] at hu ⊢
              rw [List.getElem?_append] at hx hu
              refine .inl ?_
              rcases Nat.lt_or_ge i xs.length with hi | hi
              · rw [if_pos hi] at hx
                rw [if_pos (by omega)] at hu
                have hSi : Sf' i = Sf i := by funext b; simp [Sf', hi]
                rw [hSi]
                have h3 := (hr i x 0 c u hx hc (by simpa using hu)).tp
                simp only [Nat.mul_one, Nat.add_zero] at h3
                exact h3.mono fun b hb => hg.block b (hlti b (hSfi _ _ hb)) (fun e => hn i b hb (by rw [← hvb]; exact e.symm))
              · rw [if_neg (by omega)] at hx
                rw [if_neg (by omega)] at hu
                have hSi : Sf' i = Sf2 (i - xs.length) := by funext b; simp [Sf', Nat.not_lt.2 hi]
                rw [hSi]
                rw [hl1] at hu
                have h3 := (hr2 (i - xs.length) x 0 c u hx hc (by simpa using hu)).tp
                simp only [Nat.mul_one, Nat.add_zero] at h3
                exact h3.mono fun b hb => hg.block b (hltk b (hSfk _ _ hb)) (fun e => hdisj b ((hS b).2 (.inl (by rw [← hvb]; exact e.symm))) (hSfk _ _ hb))
            · intro q q' b h3 h4
              simp only [Sf'] at h3 h4
              split at h3 <;> split at h4
              · exact hd q q' b h3 h4
              · exact (hdisj b (hSfi _ _ h3) (hSfk _ _ h4)).elim
              · exact (hdisj b (hSfi _ _ h4) (hSfk _ _ h3)).elim
              · have := hd2 _ _ b h3 h4; omega
            · intro q b h3 h4
              have h5 : b < w.heap.size := by
                simp only [Sf'] at h3
                split at h3
                · exact hlti b (hSfi _ _ h3)
                · exact hltk b (hSfk _ _ h3)
              rw [← hv'b] at h4
              rcases hblk with h6 | h6
              · rw [h6, hvb] at h4
                simp only [Sf'] at h3
                split at h3
                · exact hn q b h3 h4
                · exact hdisj b ((hS b).2 (.inl h4)) (hSfk _ _ h3)
              · rw [h6] at h4; cases h4; omega
            · intro q b h3 h4
              simp only [Sf'] at h4
              rw [List.length_append] at h3
              split at h4
              · omega
              · exact hz2 _ b (by omega) h4)
        refine ⟨v', w', _, by simp [execOp, resolve, invoke, builtin, hrun'], hj, ?_⟩
        have := RS.ref (w := w') (G := Gd C (((s.rows.map (Row.kill id)).set k .dead).set id (Row.tree el 1 (if nl = some false then some false else none) none (xs ++ ys))) (updM m id ⟨v', fun b => blk v' = some b ∨ ∃ q, Sf' q b⟩) w') (m := updM m id ⟨v', fun b => blk v' = some b ∨ ∃ q, Sf' q b⟩)
          (N := (((s.rows.map (Row.kill id)).set k .dead).set id (Row.tree el 1 (if nl = some false then some false else none) none (xs ++ ys))).length) id (by simpa using hidl)
        rw [updM_same] at this
        exact this
end
end Go.Vl

namespace Go.Vl
set_option linter.unusedVariables false
set_option linter.unusedSimpArgs false
open Go.Proofs

theorem row1_tree {el : TypeId} {e : Nat} {nl : Option Bool} {h : Option (Nat × Option Value)} {a b : List (List Int)} (hh : a = b) : [Row.tree el e nl h (a.map ints)] = [Row.tree el e nl h (b.map ints)] := by rw [hh]
theorem snoc_take {L : List (List Int)} {k : Nat} (h : k < L.length) : L.take k ++ [L.getD k []] = L.take (k+1) := by
  rw [List.take_succ_eq_append_getElem h]
  simp [List.getD, List.getElem?_eq_getElem h]
theorem row2_tree {r : Row} {el : TypeId} {e : Nat} {nl : Option Bool} {h : Option (Nat × Option Value)} {a b : List (List Int)} (hh : a = b) : [Row.tree el e nl h (a.map ints), r] = [Row.tree el e nl h (b.map ints), r] := by rw [hh]
theorem row_ints {el : TypeId} {e : Nat} {nl : Option Bool} {f : Bool} {a b : List Int} (h : a = b) : [Row.own el e nl f (a.map intP)] = [Row.own el e nl f (b.map intP)] := by rw [h]

end Go.Vl

namespace Go.Vl
set_option linter.unusedVariables false
set_option linter.unusedSimpArgs false
open Go.Proofs

def acOK (b : List (List Int)) (l : List Int) : Prop := VB b ∧ VB (b ++ [l]) ∧ ordM (b ++ [l]) b.length ≠ []
instance {b : List (List Int)} {l : List Int} : Decidable (acOK b l) := by unfold acOK; infer_instance
def acR (b : List (List Int)) (l : List Int) : List (List Int) := if acOK b l then b ++ [l] else []
theorem acR_no {b : List (List Int)} {l : List Int} (h : ¬ acOK b l) : acR b l = [] := if_neg h
theorem acR_yes {b : List (List Int)} {l : List Int} (h : acOK b l) : acR b l = b ++ [l] := if_pos h
theorem acOK_imp {b : List (List Int)} {l : List Int} (h1 : VB b) (h2 : orOK (b ++ [l]) (b.map ints).length) : acOK b l := by
  rw [List.length_map] at h2
  exact ⟨h1, h2.1.1, h2.2⟩
theorem acOK_or {b : List (List Int)} {l : List Int} (h : acOK b l) : orOK (b ++ [l]) (b.map ints).length := by
  rw [List.length_map]
  exact ⟨⟨h.2.1, by omega, by rw [List.length_append, List.length_singleton]; omega⟩, h.2.2⟩
theorem acOK_cb {b : List (List Int)} {l : List Int} (h : acOK b l) : CB l (b.map ints).length := by
  have h1 := h.2.1.2.2.2 b.length (by rw [List.length_append, List.length_singleton]; omega) (by have := h.1.1; omega)
  rw [List.length_map]
  simpa [List.getD] using h1
theorem len_app1 {b : List (List Int)} {l : List Int} {n : Nat} (h : b.length < n) : (b ++ [l]).length < n + 1 := by rw [List.length_append, List.length_singleton]; omega
theorem lens_app1 {b : List (List Int)} {l : List Int} {n : Nat} (h : ∀ x ∈ b, x.length < n) (h2 : l.length < n) : ∀ x ∈ b ++ [l], x.length < n := by
  intro x hx
  rcases List.mem_append.1 hx with h3 | h3
  · exact h x h3
  · rw [List.mem_singleton.1 h3]; exact h2
theorem rac_no {b : List (List Int)} {l : List Int} (h : ¬ acOK b l) {el : TypeId} {e : Nat} {nl : Option Bool} {hh : Option (Nat × Option Value)} {B : Bool} (hB : B = false) :
    [SV.ref 0, bo B] = [SV.ref 0, bo (decide (acOK b l))] ∧ [Row.tree el e nl hh []] = [Row.tree el e nl hh ((acR b l).map ints)] := by
  rw [acR_no h, hB, decide_eq_false h]; exact ⟨rfl, rfl⟩
theorem rac_yes {b : List (List Int)} {l : List Int} (h : acOK b l) {el : TypeId} {e : Nat} {nl : Option Bool} {hh : Option (Nat × Option Value)} {B : Bool} (hB : B = true) :
    [SV.ref 0, bo B] = [SV.ref 0, bo (decide (acOK b l))] ∧ [Row.tree el e nl hh ((b ++ [l]).map ints)] = [Row.tree el e nl hh ((acR b l).map ints)] := by
  rw [acR_yes h, hB, decide_eq_true h]; exact ⟨rfl, rfl⟩

end Go.Vl

namespace Go.Vl
set_option linter.unusedVariables false
set_option linter.unusedSimpArgs false
open Go.Proofs

def mkLL : Int → List (List Int) → List (List Int)
  | _, [] => []
  | k, l :: r => markL k l.length :: mkLL (k + l.length) r
def mkE : Int → List (List Int) → Int
  | k, [] => k
  | k, l :: r => mkE (k + l.length) r
theorem mkE_snoc : ∀ (a : List (List Int)) (k : Int) (l : List Int), mkE k (a ++ [l]) = mkE k a + l.length
  | [], _, _ => rfl
  | _ :: a, _, l => mkE_snoc a _ l
theorem mkLL_snoc : ∀ (a : List (List Int)) (k : Int) (l : List Int), mkLL k (a ++ [l]) = mkLL k a ++ [markL (mkE k a) l.length]
  | [], _, _ => rfl
  | x :: a, k, l => by show markL k x.length :: mkLL _ (a ++ [l]) = _; rw [mkLL_snoc a]; rfl
theorem mkLL_len : ∀ (a : List (List Int)) (k : Int), (mkLL k a).length = a.length
  | [], _ => rfl
  | _ :: a, k => by show (mkLL _ a).length + 1 = a.length + 1; rw [mkLL_len a]
theorem mkLL_get : ∀ (a : List (List Int)) (k : Int) (i : Nat), i < a.length → (mkLL k a).getD i [] = markL (mkE k (a.take i)) (a.getD i []).length
  | [], _, _, h => by simp at h
  | x :: a, k, 0, _ => rfl
  | x :: a, k, i + 1, h => mkLL_get a _ i (by simpa using h)
theorem mkE_bd : ∀ (a : List (List Int)) (k : Int), (∀ l ∈ a, l.length ≤ 2000000) → k ≤ mkE k a ∧ mkE k a ≤ k + 2000000 * a.length
  | [], k, _ => by show k ≤ k ∧ k ≤ k + 2000000 * ((0 : Nat) : Int); omega
  | x :: a, k, h => by
    have h1 := mkE_bd a (k + x.length) fun l hl => h l (List.mem_cons_of_mem _ hl)
    have h2 := h x List.mem_cons_self
    show k ≤ mkE (k + x.length) a ∧ mkE (k + x.length) a ≤ k + 2000000 * ((a.length + 1 : Nat) : Int)
    omega
theorem mkE_tk {a : List (List Int)} {k : Int} {i : Nat} (h : i < a.length) : mkE k (a.take (i+1)) = mkE k (a.take i) + (a.getD i []).length := by rw [← snoc_take h, mkE_snoc]
theorem mkLL_tk {a : List (List Int)} {k : Int} {i : Nat} (h : i < a.length) : mkLL k (a.take (i+1)) = mkLL k (a.take i) ++ [markL (mkE k (a.take i)) (a.getD i []).length] := by rw [← snoc_take h, mkLL_snoc]
theorem mkL2_get {a : List (List Int)} {k : Int} {i : Nat} (h : i < a.length) : (mkLL k (a.take i) ++ a.drop i).getD i [] = a.getD i [] := by
  have e : (mkLL k (a.take i)).length = i := by rw [mkLL_len, List.length_take]; omega
  simp [List.getD, List.getElem?_append_right (show (mkLL k (a.take i)).length ≤ i by omega), e]
theorem mkL2_set {a : List (List Int)} {k : Int} {i : Nat} (h : i < a.length) : (mkLL k (a.take i) ++ a.drop i).set i (markL (mkE k (a.take i)) (a.getD i []).length) = mkLL k (a.take (i+1)) ++ a.drop (i+1) := by
  have e : (mkLL k (a.take i)).length = i := by rw [mkLL_len, List.length_take]; omega
  rw [List.set_append_right _ _ (by omega), e, Nat.sub_self, List.drop_eq_getElem_cons h, List.set_cons_zero, mkLL_tk h, List.append_assoc]; rfl
theorem acR_len {b : List (List Int)} {l : List Int} : (acR b l).length ≤ 12 := by
  by_cases h : acOK b l
  · rw [acR_yes h]; exact h.2.1.2.1
  · rw [acR_no h]; decide
theorem acR_lens {b : List (List Int)} {l : List Int} {n : Nat} (h : ∀ x ∈ b, x.length < n) (h2 : l.length < n) : ∀ x ∈ acR b l, x.length < n := by
  by_cases h3 : acOK b l
  · rw [acR_yes h3]; exact lens_app1 h h2
  · rw [acR_no h3]; intro x hx; cases hx

end Go.Vl

/- A row whose slices are its own becomes a row of slices that are read alone. -/
namespace Go.Vl
set_option linter.unusedVariables false
set_option linter.unusedSimpArgs false
open Go.RowKit
section
variable {P : Program} {C : Ctx} {Q : Go.Exit → St → Prop} {s : St} {ops : Array Oper}

theorem SimM.treeown {m : Nat → MV} {a : Act} {w : World} (h : SimM C s m a w) (id : Nat) (hnb : C.nb ≤ id) {el e : Nat} {nl : Option Bool} {xs : List PV} (hrow : s.rows[id]? = some (.tree el e nl none xs)) :
    SimM C ⟨s.n, s.env, s.rows.set id (.own el e nl false xs)⟩ (updM m id (.of (m id).v)) a w := by
  have hidl : id < s.rows.length := (List.getElem?_eq_some_iff.1 hrow).1
  have hid : liveAt s.rows id := ⟨_, hrow, rfl⟩
  have hlv : ∀ j, liveAt (s.rows.set id (.own el e nl false xs)) j → liveAt s.rows j := by
    intro j ⟨q, hq, hv⟩
    rw [List.getElem?_set] at hq
    split at hq
    · rename_i e; subst e; exact hid
    · exact ⟨q, hq, hv⟩
  have hblk : ∀ b, blk (m id).v = some b → (m id).S b := by
    have := h.rows id _ hrow
    generalize m id = v at *
    cases this with
    | tree mv t e nl h xs vals Sf hown h1 h2 hw hr hd hn hz hS hkn => exact fun b hb => (hS b).2 (.inl hb)
  have hsub : ∀ j b, (updM m id (.of (m id).v) j).S b → (m j).S b := by
    intro j b hb
    by_cases e : j = id
    · subst e; rw [updM_same] at hb; exact hblk b hb
    · rwa [updM_ne _ _ e] at hb
  have hv : ∀ j, (updM m id (.of (m id).v) j).v = (m j).v := by
    intro j
    by_cases e : j = id
    · subst e; rw [updM_same]; rfl
    · rw [updM_ne _ _ e]
  have hG : ∀ f b, Gd C s.rows m w f b → Gd C (s.rows.set id (.own el e nl false xs)) (updM m id (.of (m id).v)) w f b ∧ w.heap[b]? = w.heap[b]? := fun f b hb =>
    Gd.step (fun _ => False) (Nat.le_refl _) (fun _ _ _ => rfl) (fun _ hf => hf.elim) (fun b _ ⟨j, hl, hbk⟩ => ⟨j, hlv j hl, hsub j b hbk⟩) f b hb
  exact {
    defs := h.defs
    size := h.size
    os := h.os
    tape := h.tape
    output := h.output
    hsz := h.hsz
    old := h.old
    bor := fun j hj => by rw [updM_ne _ _ (by omega)]; exact h.bor j hj
    nbl := by have := h.nbl; simp; omega
    newb := fun j b hj hl hb => h.newb j b hj (hlv j hl) (hsub j b hb)
    dist := fun i j b hi hj hbi hbj => h.dist i j b (hlv i hi) (hlv j hj) (hsub i b hbi) (hsub j b hbj)
    rows := fun j q hq => by
      change (s.rows.set id (.own el e nl false xs))[j]? = some q at hq
      rw [List.getElem?_set] at hq
      split at hq
      · rename_i e0
        subst e0
        simp [hidl] at hq
        subst hq
        rw [updM_same]
        have hR := h.rows id _ hrow
        have hTP := TP.of_tree hR
        have hlt : ∀ b, (m id).S b → b < w.heap.size := TP.lt hTP
        have hnewb := fun b => h.newb id b hnb hid
        have hdist := h.dist
        generalize hmv : m id = v at *
        cases hR with
        | tree mv t e nl hh xs vals Sf hown h1 h2 hw hr hd hn hz hS hkn =>
          refine .own v.v el e nl false xs vals hown h1 h2 hw (fun i x j c hx hc => ?_)
          have hcl : c ∈ x.cells := List.mem_of_getElem? hc
          have hil : i < xs.length := (List.getElem?_eq_some_iff.1 hx).1
          have hjl : j < e := by
            have h9 := (List.getElem?_eq_some_iff.1 hc).1
            rwa [(hw i x hx).1] at h9
          have hvl : vals.length = xs.length * e := hown.1
          have hq : i * e + j < vals.length := by
            rw [hvl]
            calc i * e + j < i * e + e := by omega
              _ = (i + 1) * e := by rw [Nat.succ_mul]
              _ ≤ xs.length * e := Nat.mul_le_mul_right _ hil
          refine ⟨vals[i * e + j], List.getElem?_eq_getElem hq, ?_⟩
          refine ((hr i x j c _ hx hc (List.getElem?_eq_getElem hq)).tp).rp fun b hb => ?_
          have hSb : v.S b := (hS b).2 (.inr ⟨_, hb⟩)
          refine ⟨hlt b hSb, fun ⟨k, hl, hbk⟩ => ?_, fun _ => .inr (hnewb b hSb), fun h => by cases h⟩
          have hk : k = id := by
            have h5 := hsub k b hbk
            exact hdist k id b (hlv k hl) hid h5 (by rw [hmv]; exact hSb)
          subst hk
          rw [updM_same] at hbk
          exact hn _ _ hb hbk
      · rename_i e0
        rw [updM_ne _ _ (Ne.symm e0)]
        simpa using (h.rows j q hq).monoV hG (Nat.le_refl _) (fun j _ => hv j) (fun _ _ _ => rfl)
    env := fun t => by simpa using (h.env t).monoV hG (Nat.le_refl _) (fun j _ => hv j) }

theorem vo_treeown {l : List Oper} (id : Nat) (hnb : C.nb ≤ id) {el e : Nat} {nl : Option Bool} {xs : List PV} (hrow : s.rows[id]? = some (.tree el e nl none xs))
    (next : VO P C ops l Q ⟨s.n, s.env, s.rows.set id (.own el e nl false xs)⟩) : VO P C ops l Q s := fun a w ⟨m, hs⟩ => next a w ⟨_, hs.treeown id hnb hrow⟩
theorem vc_treeown {code : Code} (id : Nat) (hnb : C.nb ≤ id) {el e : Nat} {nl : Option Bool} {xs : List PV} (hrow : s.rows[id]? = some (.tree el e nl none xs))
    (next : VC P C code Q ⟨s.n, s.env, s.rows.set id (.own el e nl false xs)⟩) : VC P C code Q s := fun a w ⟨m, hs⟩ => next a w ⟨_, hs.treeown id hnb hrow⟩
end
end Go.Vl

namespace Go.Vl
set_option linter.unusedVariables false
set_option linter.unusedSimpArgs false
open Go.Proofs

/-- A reader that has given p numbers. -/
abbrev rdr (nl : Option Bool) (c : List (Fin 256)) (p : Nat) : Row := .var 50 [.pv false (.sl nl 1 (c.map byteP)), i64 p]
/-- Bases as the readers make them. -/
def SB (B : List (List Int)) : Prop := 1 ≤ B.length ∧ B.getD 0 [] = [] ∧ ∀ i, i < B.length → 0 < i → B.getD i [] ≠ [] ∧ (B.getD i []).length ≤ 3 ∧ (B.getD i []).Nodup ∧ ∀ x ∈ B.getD i [], 0 ≤ x ∧ x < i
theorem getD_app {α : Type} {l l' : List α} {i : Nat} (h : i < l.length) (d : α) : (l ++ l').getD i d = l.getD i d := by simp [List.getD, List.getElem?_append_left h]
theorem getD_end {α : Type} {l : List α} {x : α} (d : α) : (l ++ [x]).getD l.length d = x := by simp [List.getD]
theorem nodup_snoc {l : List Int} {x : Int} (h : l.Nodup) (hx : x ∉ l) : (l ++ [x]).Nodup := by
  rw [List.nodup_append]; exact ⟨h, by simp, fun a ha b hb e => hx (by rw [List.mem_singleton.1 hb] at e; exact e ▸ ha)⟩
theorem SB.snoc {B : List (List Int)} {l : List Int} (h : SB B) (h1 : l ≠ []) (h2 : l.length ≤ 3) (h3 : l.Nodup) (h4 : ∀ x ∈ l, 0 ≤ x ∧ x < B.length) : SB (B ++ [l]) := by
  obtain ⟨a1, a2, a3⟩ := h
  refine ⟨by simp, by rw [getD_app (by omega)]; exact a2, fun i hi h0 => ?_⟩
  rcases Nat.lt_or_ge i B.length with hb | hb
  · rw [getD_app hb]; exact a3 i hb h0
  · have : i = B.length := by simp at hi; omega
    subst this
    rw [getD_end]
    exact ⟨h1, h2, h3, h4⟩
theorem SB.lens {B : List (List Int)} (h : SB B) : ∀ l ∈ B, l.length ≤ 3 := by
  intro l hl
  obtain ⟨i, hi, rfl⟩ := List.getElem_of_mem hl
  have e : B[i] = B.getD i [] := by simp [List.getD, List.getElem?_eq_getElem hi]
  rw [e]
  rcases Nat.eq_zero_or_pos i with rfl | h0
  · rw [h.2.1]; simp
  · exact (h.2.2 i hi h0).2.1

theorem newReader_sat {nl : Option Bool} {c : List (Fin 256)} (hl : c.length < 1000000000) : SatAt Try.prog 16 [.pv false (.sl nl 1 (c.map byteP))] [] (fun res rows => ∃ nl2 c2, c2.length ≤ 2000 ∧ res = [.ptr 0 0 0 0] ∧ rows = [rdr nl2 c2 0]) := by
  refine sat_entry_g (ts := [2]) Try.func16 rfl rfl (by decide) (Nat.le_of_ble_eq_true rfl) fun C hC => ?_
  rw [Try.ntmps16]
  replace hC : C.nb = 0 := hC
  refine vc_seq fun K1 hK1 => ?_
  refine vc_region ?_
  refine vo_assign rfl ?_
  refine vo_nil ?_
  refine hK1 _ ?_
  refine vc_seq fun K2 hK2 => ?_
  refine vc_seq fun K3 hK3 => ?_
  refine vc_region ?_
  refine vo_move_pv rfl rfl ?_
  refine vo_len_pv rfl rfl Try.underlying22 ?_
  refine vo_binI rfl rfl rfl rfl trivial ?_
  refine vo_nil ?_
  refine hK3 _ ?_
  refine vc_cond rfl (fun hc1 => ?_) (fun hc1 => ?_)
  · try simp only [decide_eq_true_eq, decide_eq_false_iff_not, beq_iff_eq, bne_iff_ne, beq_eq_false_iff_ne, bne_eq_false_iff_eq, Bool.not_eq_true, Bool.not_eq_false, Bool.not_eq_eq_eq_not, Bool.not_true, Bool.not_false, List.length_map, Int.not_lt, Int.not_le, ne_eq, Decidable.not_not] at hc1
    refine vc_region ?_
    refine vo_move_pv rfl rfl ?_
    refine vo_slice_pv rfl rfl rfl rfl E22.und inf5 sz5 sd sd sd ?_
    simp only [Int.toNat_natCast, Int.toNat_zero, List.drop_zero, Nat.sub_zero, ← List.map_drop, ← List.map_take]
    refine vo_assign_pv rfl rfl ?_
    refine vo_nil ?_
    refine hK2 _ ?_
    refine vc_seq fun K4 hK4 => ?_
    refine vc_region ?_
    refine vo_move_pv rfl rfl ?_
    refine vo_build S50 rfl rfl rfl ?_
    refine vo_box rfl rfl ?_
    refine vo_assign_ptr rfl rfl ?_
    refine vo_nil ?_
    refine hK4 _ ?_
    refine vc_ret ?_
    change retG _ _ _ _ _
    refine retG_one 0 hC rfl rfl rfl rfl rfl ?_
    refine ⟨_, _, ?_, rfl, rfl⟩
    first | omega | (simp; omega)
  · try simp only [decide_eq_true_eq, decide_eq_false_iff_not, beq_iff_eq, bne_iff_ne, beq_eq_false_iff_ne, bne_eq_false_iff_eq, Bool.not_eq_true, Bool.not_eq_false, Bool.not_eq_eq_eq_not, Bool.not_true, Bool.not_false, List.length_map, Int.not_lt, Int.not_le, ne_eq, Decidable.not_not] at hc1
    refine vc_skip ?_
    refine hK2 _ ?_
    refine vc_seq fun K5 hK5 => ?_
    refine vc_region ?_
    refine vo_move_pv rfl rfl ?_
    refine vo_build S50 rfl rfl rfl ?_
    refine vo_box rfl rfl ?_
    refine vo_assign_ptr rfl rfl ?_
    refine vo_nil ?_
    refine hK5 _ ?_
    refine vc_ret ?_
    change retG _ _ _ _ _
    refine retG_one 0 hC rfl rfl rfl rfl rfl ?_
    refine ⟨_, _, ?_, rfl, rfl⟩
    first | omega | (simp; omega)


theorem pick_sat {nl : Option Bool} {c : List (Fin 256)} {p : Nat} {n : Int} (hc : c.length ≤ 2000) (hp : p < 1000000) : SatAt Try.prog 17 [.ptr 0 0 0 0, i64 n] [rdr nl c p] (fun res rows => ∃ x, (0 ≤ x ∧ (1 ≤ n → x < n)) ∧ res = [i64 x] ∧ rows = [rdr nl c (p + 1)]) := by
  have hL : ((c.map byteP).length : Int) = c.length := by simp
  refine sat_entry_g (ts := [4]) Try.func17 rfl rfl (by decide) (Nat.le_of_ble_eq_true rfl) fun C hC => ?_
  rw [Try.ntmps17]
  replace hC : C.nb = 1 := hC
  refine vc_seq fun K1 hK1 => ?_
  refine vc_region ?_
  refine vo_assign_pv rfl rfl ?_
  refine vo_nil ?_
  refine hK1 _ ?_
  refine vc_seq fun K2 hK2 => ?_
  refine vc_region ?_
  refine vo_move_ptr rfl rfl ?_
  refine vo_move_ptr rfl rfl ?_
  refine vo_nilCheck_ptr rfl rfl ?_
  refine vo_fieldAddr_ptr rfl rfl Try.underlying50 rfl inf3 (by rw [sz3]; decide) ?_
  refine vo_load_var rfl rfl rfl Try.underlying3 rfl rfl ?_
  refine vo_binI rfl rfl rfl rfl sd ?_
  refine vo_nilCheck_ptr rfl rfl ?_
  refine vo_fieldAddr_ptr rfl rfl Try.underlying50 rfl inf3 (by rw [sz3]; decide) ?_
  refine vo_store_var rfl rfl rfl rfl inf3 sz3 rfl ?_
  refine vo_nil ?_
  refine hK2 _ ?_
  refine vc_seq fun K3 hK3 => ?_
  refine vc_seq fun K4 hK4 => ?_
  refine vc_region ?_
  refine vo_move_pv rfl rfl ?_
  refine vo_binI rfl rfl rfl rfl trivial ?_
  refine vo_move_pv rfl rfl ?_
  refine vo_split 17 rfl (fun hg1 => ?_) (fun hg1 => ?_)
  · try simp only [decide_eq_true_eq, decide_eq_false_iff_not, beq_iff_eq, bne_iff_ne, beq_eq_false_iff_ne, bne_eq_false_iff_eq, Bool.not_eq_true, Bool.not_eq_false, Bool.not_eq_eq_eq_not, Bool.not_true, Bool.not_false, List.length_map, Int.not_lt, Int.not_le, ne_eq, Decidable.not_not] at hg1
    refine vo_guard_off rfl rfl rfl rfl rfl ?_
    refine vo_guard_off rfl rfl rfl rfl rfl ?_
    refine vo_guard_off rfl rfl rfl rfl rfl ?_
    refine vo_guard_off rfl rfl rfl rfl rfl ?_
    refine vo_guard_off rfl rfl rfl rfl rfl ?_
    refine vo_guard_off rfl rfl rfl rfl rfl ?_
    refine vo_pick_t rfl rfl ?_
    refine vo_nil ?_
    refine hK4 _ ?_
    refine vc_cond_t rfl ?_
    refine vc_seq fun K5 hK5 => ?_
    refine vc_region ?_
    refine vo_assign_pv rfl rfl ?_
    refine vo_nil ?_
    refine hK5 _ ?_
    refine vc_ret ?_
    change retG _ _ _ _ _
    refine retG_sel [] [] hC rfl rfl rfl rfl rfl rfl ?_
    exact ⟨_, ⟨by omega, by omega⟩, rfl, rfl⟩
  · try simp only [decide_eq_true_eq, decide_eq_false_iff_not, beq_iff_eq, bne_iff_ne, beq_eq_false_iff_ne, bne_eq_false_iff_eq, Bool.not_eq_true, Bool.not_eq_false, Bool.not_eq_eq_eq_not, Bool.not_true, Bool.not_false, List.length_map, Int.not_lt, Int.not_le, ne_eq, Decidable.not_not] at hg1
    refine vo_guard_on rfl rfl rfl ?_
    refine vo_move_ptr rfl rfl ?_
    refine vo_guard_on rfl rfl rfl ?_
    refine vo_nilCheck_ptr rfl rfl ?_
    refine vo_guard_on rfl rfl rfl ?_
    refine vo_fieldAddr_ptr rfl rfl Try.underlying50 rfl inf22 (by rw [sz22]; decide) ?_
    refine vo_guard_on rfl rfl rfl ?_
    refine vo_load_var rfl rfl rfl Try.underlying22 rfl rfl ?_
    refine vo_guard_on rfl rfl rfl ?_
    refine vo_len_pv rfl rfl Try.underlying22 ?_
    refine vo_guard_on rfl rfl rfl ?_
    refine vo_binI rfl rfl rfl rfl trivial ?_
    refine vo_pick_f rfl rfl ?_
    refine vo_nil ?_
    refine hK4 _ ?_
    refine vc_cond rfl (fun hc2 => ?_) (fun hc2 => ?_)
    · try simp only [decide_eq_true_eq, decide_eq_false_iff_not, beq_iff_eq, bne_iff_ne, beq_eq_false_iff_ne, bne_eq_false_iff_eq, Bool.not_eq_true, Bool.not_eq_false, Bool.not_eq_eq_eq_not, Bool.not_true, Bool.not_false, List.length_map, Int.not_lt, Int.not_le, ne_eq, Decidable.not_not] at hc2
      refine vc_seq fun K6 hK6 => ?_
      refine vc_region ?_
      refine vo_assign_pv rfl rfl ?_
      refine vo_nil ?_
      refine hK6 _ ?_
      refine vc_ret ?_
      change retG _ _ _ _ _
      refine retG_sel [] [] hC rfl rfl rfl rfl rfl rfl ?_
      exact ⟨_, ⟨by omega, by omega⟩, rfl, rfl⟩
    · try simp only [decide_eq_true_eq, decide_eq_false_iff_not, beq_iff_eq, bne_iff_ne, beq_eq_false_iff_ne, bne_eq_false_iff_eq, Bool.not_eq_true, Bool.not_eq_false, Bool.not_eq_eq_eq_not, Bool.not_true, Bool.not_false, List.length_map, Int.not_lt, Int.not_le, ne_eq, Decidable.not_not] at hc2
      refine vc_skip ?_
      refine hK3 _ ?_
      refine vc_seq fun K7 hK7 => ?_
      refine vc_region ?_
      refine vo_move_ptr rfl rfl ?_
      refine vo_nilCheck_ptr rfl rfl ?_
      refine vo_fieldAddr_ptr rfl rfl Try.underlying50 rfl inf3 (by rw [sz3]; decide) ?_
      refine vo_load_var rfl rfl rfl Try.underlying3 rfl rfl ?_
      refine vo_binI rfl rfl rfl rfl sd ?_
      refine vo_assign_pv rfl rfl ?_
      refine vo_nil ?_
      refine hK7 _ ?_
      refine vc_seq fun K8 hK8 => ?_
      refine vc_seq fun K9 hK9 => ?_
      refine vc_region ?_
      refine vo_move_pv rfl rfl ?_
      refine vo_move_ptr rfl rfl ?_
      refine vo_nilCheck_ptr rfl rfl ?_
      refine vo_fieldAddr_ptr rfl rfl Try.underlying50 rfl inf22 (by rw [sz22]; decide) ?_
      refine vo_load_var rfl rfl rfl Try.underlying22 rfl rfl ?_
      refine vo_len_pv rfl rfl Try.underlying22 ?_
      refine vo_binI rfl rfl rfl rfl trivial ?_
      refine vo_nil ?_
      refine hK9 _ ?_
      refine vc_cond rfl (fun hc3 => ?_) (fun hc3 => ?_)
      · try simp only [decide_eq_true_eq, decide_eq_false_iff_not, beq_iff_eq, bne_iff_ne, beq_eq_false_iff_ne, bne_eq_false_iff_eq, Bool.not_eq_true, Bool.not_eq_false, Bool.not_eq_eq_eq_not, Bool.not_true, Bool.not_false, List.length_map, Int.not_lt, Int.not_le, ne_eq, Decidable.not_not] at hc3
        refine vc_seq fun K10 hK10 => ?_
        refine vc_region ?_
        refine vo_move_ptr rfl rfl ?_
        refine vo_nilCheck_ptr rfl rfl ?_
        refine vo_fieldAddr_ptr rfl rfl Try.underlying50 rfl inf22 (by rw [sz22]; decide) ?_
        refine vo_load_var rfl rfl rfl Try.underlying22 rfl rfl ?_
        refine vo_move_pv rfl rfl ?_
        refine vo_index_pv (.int .u8 0) rfl rfl rfl E22.und inf5 sz5 sd sd ?_
        simp only [Int.toNat_natCast, Int.toNat_zero, getD_ints, getD_intss, getD_bools, getD_bytes, PV.cells]
        refine vo_load_adr rfl rfl Try.underlying5 rfl ?_
        refine vo_convI rfl rfl Try.underlying5 Try.underlying3 sd ?_
        refine vo_move_pv rfl rfl ?_
        refine vo_binI rfl rfl rfl rfl sd ?_
        refine vo_assign_pv rfl rfl ?_
        refine vo_nil ?_
        refine hK10 _ ?_
        refine vc_ret ?_
        change retG _ _ _ _ _
        refine retG_sel [] [] hC rfl rfl rfl rfl rfl rfl ?_
        exact ⟨_, ⟨Int.emod_nonneg _ (by omega), fun h => Int.emod_lt_of_pos _ (by omega)⟩, rfl, rfl⟩
      · try simp only [decide_eq_true_eq, decide_eq_false_iff_not, beq_iff_eq, bne_iff_ne, beq_eq_false_iff_ne, bne_eq_false_iff_eq, Bool.not_eq_true, Bool.not_eq_false, Bool.not_eq_eq_eq_not, Bool.not_true, Bool.not_false, List.length_map, Int.not_lt, Int.not_le, ne_eq, Decidable.not_not] at hc3
        have e1 : 0 ≤ ((p : Int) + 1 - 1) % ((c.map byteP).length : Int) := Int.emod_nonneg _ (by omega)
        have e2 : ((p : Int) + 1 - 1) % ((c.map byteP).length : Int) < ((c.map byteP).length : Int) := Int.emod_lt_of_pos _ (by omega)
        have e3 : 0 ≤ (((p : Int) + 1 - 1) * 7 + 3) % ((c.map byteP).length : Int) := Int.emod_nonneg _ (by omega)
        have e4 : (((p : Int) + 1 - 1) * 7 + 3) % ((c.map byteP).length : Int) < ((c.map byteP).length : Int) := Int.emod_lt_of_pos _ (by omega)
        have e5 : 0 ≤ ((p : Int) + 1 - 1) / ((c.map byteP).length : Int) := Int.ediv_nonneg (by omega) (by omega)
        have e6 : ((p : Int) + 1 - 1) / ((c.map byteP).length : Int) ≤ (p : Int) + 1 - 1 := Int.ediv_le_self _ (by omega)
        refine vc_skip ?_
        refine hK8 _ ?_
        refine vc_seq fun K11 hK11 => ?_
        refine vc_draw (by kernel_rfl) ?_
        change VD _ _ _ 46 _ _ _
        refine vd_light 0 rfl rfl rfl (by kernel_rfl) (by kernel_rfl) (by kernel_rfl) (wnt_none rfl) (lt_move_ptr rfl) ?_
        refine vd_light 1 rfl rfl rfl (by kernel_rfl) (by kernel_rfl) (by kernel_rfl) (wnt_none rfl) (lt_nilCheck_ptr rfl) ?_
        refine vd_light 2 rfl rfl rfl (by kernel_rfl) (by kernel_rfl) (by kernel_rfl) (wnt_none rfl) (lt_fieldAddr_ptr rfl Try.underlying50 rfl inf22 (by rw [sz22]; decide)) ?_
        refine vd_light 3 rfl rfl rfl (by kernel_rfl) (by kernel_rfl) (by kernel_rfl) (wnt_none rfl) (lt_load_var rfl rfl Try.underlying22 rfl rfl) ?_
        refine vd_light 4 rfl rfl rfl (by kernel_rfl) (by kernel_rfl) (by kernel_rfl) (wnt_none rfl) (lt_move_pv rfl) ?_
        refine vd_light 5 rfl rfl rfl (by kernel_rfl) (by kernel_rfl) (by kernel_rfl) (wnt_none rfl) (lt_move_ptr rfl) ?_
        refine vd_light 6 rfl rfl rfl (by kernel_rfl) (by kernel_rfl) (by kernel_rfl) (wnt_none rfl) (lt_nilCheck_ptr rfl) ?_
        refine vd_light 7 rfl rfl rfl (by kernel_rfl) (by kernel_rfl) (by kernel_rfl) (wnt_none rfl) (lt_fieldAddr_ptr rfl Try.underlying50 rfl inf22 (by rw [sz22]; decide)) ?_
        refine vd_light 8 rfl rfl rfl (by kernel_rfl) (by kernel_rfl) (by kernel_rfl) (wnt_none rfl) (lt_load_var rfl rfl Try.underlying22 rfl rfl) ?_
        refine vd_light 9 rfl rfl rfl (by kernel_rfl) (by kernel_rfl) (by kernel_rfl) (wnt_none rfl) (lt_len_pv rfl Try.underlying22) ?_
        refine vd_light 10 rfl rfl rfl (by kernel_rfl) (by kernel_rfl) (by kernel_rfl) (wnt_none rfl) (lt_binI rfl rfl rfl sd) ?_
        refine vd_light 11 rfl rfl rfl (by kernel_rfl) (by kernel_rfl) (by kernel_rfl) (wnt_none rfl) (lt_index_pv (.int .u8 0) rfl rfl E22.und inf5 sz5 sd sd) ?_
        simp only [Int.toNat_natCast, Int.toNat_zero, getD_ints, getD_intss, getD_bools, getD_bytes, PV.cells]
        refine vd_light 12 rfl rfl rfl (by kernel_rfl) (by kernel_rfl) (by kernel_rfl) (wnt_none rfl) (lt_load_adr rfl Try.underlying5 rfl) ?_
        refine vd_light 13 rfl rfl rfl (by kernel_rfl) (by kernel_rfl) (by kernel_rfl) (wnt_none rfl) (lt_convI rfl Try.underlying5 Try.underlying3 sd) ?_
        refine vd_light 14 rfl rfl rfl (by kernel_rfl) (by kernel_rfl) (by kernel_rfl) (wnt_none rfl) (lt_binI rfl rfl rfl sd) ?_
        refine vd_light 15 rfl rfl rfl (by kernel_rfl) (by kernel_rfl) (by kernel_rfl) (wnt_none rfl) (lt_move_ptr rfl) ?_
        refine vd_light 16 rfl rfl rfl (by kernel_rfl) (by kernel_rfl) (by kernel_rfl) (wnt_none rfl) (lt_nilCheck_ptr rfl) ?_
        refine vd_light 17 rfl rfl rfl (by kernel_rfl) (by kernel_rfl) (by kernel_rfl) (wnt_none rfl) (lt_fieldAddr_ptr rfl Try.underlying50 rfl inf22 (by rw [sz22]; decide)) ?_
        refine vd_light 18 rfl rfl rfl (by kernel_rfl) (by kernel_rfl) (by kernel_rfl) (wnt_none rfl) (lt_load_var rfl rfl Try.underlying22 rfl rfl) ?_
        refine vd_light 19 rfl rfl rfl (by kernel_rfl) (by kernel_rfl) (by kernel_rfl) (wnt_none rfl) (lt_move_pv rfl) ?_
        refine vd_light 20 rfl rfl rfl (by kernel_rfl) (by kernel_rfl) (by kernel_rfl) (wnt_none rfl) (lt_binI rfl rfl rfl sd) ?_
        refine vd_light 21 rfl rfl rfl (by kernel_rfl) (by kernel_rfl) (by kernel_rfl) (wnt_none rfl) (lt_binI rfl rfl rfl sd) ?_
        refine vd_light 22 rfl rfl rfl (by kernel_rfl) (by kernel_rfl) (by kernel_rfl) (wnt_none rfl) (lt_move_ptr rfl) ?_
        refine vd_light 23 rfl rfl rfl (by kernel_rfl) (by kernel_rfl) (by kernel_rfl) (wnt_none rfl) (lt_nilCheck_ptr rfl) ?_
        refine vd_light 24 rfl rfl rfl (by kernel_rfl) (by kernel_rfl) (by kernel_rfl) (wnt_none rfl) (lt_fieldAddr_ptr rfl Try.underlying50 rfl inf22 (by rw [sz22]; decide)) ?_
        refine vd_light 25 rfl rfl rfl (by kernel_rfl) (by kernel_rfl) (by kernel_rfl) (wnt_none rfl) (lt_load_var rfl rfl Try.underlying22 rfl rfl) ?_
        refine vd_light 26 rfl rfl rfl (by kernel_rfl) (by kernel_rfl) (by kernel_rfl) (wnt_none rfl) (lt_len_pv rfl Try.underlying22) ?_
        refine vd_light 27 rfl rfl rfl (by kernel_rfl) (by kernel_rfl) (by kernel_rfl) (wnt_none rfl) (lt_binI rfl rfl rfl sd) ?_
        refine vd_light 28 rfl rfl rfl (by kernel_rfl) (by kernel_rfl) (by kernel_rfl) (wnt_none rfl) (lt_index_pv (.int .u8 0) rfl rfl E22.und inf5 sz5 sd sd) ?_
        simp only [Int.toNat_natCast, Int.toNat_zero, getD_ints, getD_intss, getD_bools, getD_bytes, PV.cells]
        refine vd_light 29 rfl rfl rfl (by kernel_rfl) (by kernel_rfl) (by kernel_rfl) (wnt_none rfl) (lt_load_adr rfl Try.underlying5 rfl) ?_
        refine vd_light 30 rfl rfl rfl (by kernel_rfl) (by kernel_rfl) (by kernel_rfl) (wnt_none rfl) (lt_convI rfl Try.underlying5 Try.underlying3 sd) ?_
        refine vd_light 31 rfl rfl rfl (by kernel_rfl) (by kernel_rfl) (by kernel_rfl) (wnt_none rfl) (lt_binI rfl rfl rfl sd) ?_
        refine vd_light 32 rfl rfl rfl (by kernel_rfl) (by kernel_rfl) (by kernel_rfl) (wnt_none rfl) (lt_binI rfl rfl rfl sd) ?_
        refine vd_light 33 rfl rfl rfl (by kernel_rfl) (by kernel_rfl) (by kernel_rfl) (wnt_none rfl) (lt_move_pv rfl) ?_
        refine vd_light 34 rfl rfl rfl (by kernel_rfl) (by kernel_rfl) (by kernel_rfl) (wnt_none rfl) (lt_binI rfl rfl rfl sd) ?_
        refine vd_light 35 rfl rfl rfl (by kernel_rfl) (by kernel_rfl) (by kernel_rfl) (wnt_none rfl) (lt_binI rfl rfl rfl sd) ?_
        refine vd_light 36 rfl rfl rfl (by kernel_rfl) (by kernel_rfl) (by kernel_rfl) (wnt_none rfl) (lt_move_pv rfl) ?_
        refine vd_light 37 rfl rfl rfl (by kernel_rfl) (by kernel_rfl) (by kernel_rfl) (wnt_none rfl) (lt_move_ptr rfl) ?_
        refine vd_light 38 rfl rfl rfl (by kernel_rfl) (by kernel_rfl) (by kernel_rfl) (wnt_none rfl) (lt_nilCheck_ptr rfl) ?_
        refine vd_light 39 rfl rfl rfl (by kernel_rfl) (by kernel_rfl) (by kernel_rfl) (wnt_none rfl) (lt_fieldAddr_ptr rfl Try.underlying50 rfl inf22 (by rw [sz22]; decide)) ?_
        refine vd_light 40 rfl rfl rfl (by kernel_rfl) (by kernel_rfl) (by kernel_rfl) (wnt_none rfl) (lt_load_var rfl rfl Try.underlying22 rfl rfl) ?_
        refine vd_light 41 rfl rfl rfl (by kernel_rfl) (by kernel_rfl) (by kernel_rfl) (wnt_none rfl) (lt_len_pv rfl Try.underlying22) ?_
        refine vd_light 42 rfl rfl rfl (by kernel_rfl) (by kernel_rfl) (by kernel_rfl) (wnt_none rfl) (lt_binI rfl rfl rfl sd) ?_
        refine vd_light 43 rfl rfl rfl (by kernel_rfl) (by kernel_rfl) (by kernel_rfl) (wnt_none rfl) (lt_binI rfl rfl rfl sd) ?_
        refine vd_light 44 rfl rfl rfl (by kernel_rfl) (by kernel_rfl) (by kernel_rfl) (wnt_none rfl) (lt_binI rfl rfl rfl sd) ?_
        refine vd_light 45 rfl rfl rfl (by kernel_rfl) (by kernel_rfl) (by kernel_rfl) (wnt_none rfl) (lt_assign_pv rfl) ?_
        refine vd_nil (by kernel_rfl) ?_
        refine hK11 _ ?_
        refine vc_seq fun K12 hK12 => ?_
        refine vc_region ?_
        refine vo_move_pv rfl rfl ?_
        refine vo_move_pv rfl rfl ?_
        refine vo_binI rfl rfl rfl rfl sd ?_
        refine vo_xor rfl rfl rfl sd sd sd sd ?_
        refine vo_assign_pv rfl rfl ?_
        refine vo_nil ?_
        refine hK12 _ ?_
        refine vc_seq fun K13 hK13 => ?_
        refine vc_region ?_
        refine vo_move_pv rfl rfl ?_
        refine vo_move_pv rfl rfl ?_
        refine vo_binI rfl rfl rfl rfl sd ?_
        refine vo_assign_pv rfl rfl ?_
        refine vo_nil ?_
        refine hK13 _ ?_
        refine vc_ret ?_
        change retG _ _ _ _ _
        refine retG_sel [] [] hC rfl rfl rfl rfl rfl rfl ?_
        exact ⟨_, ⟨Int.emod_nonneg _ (by omega), fun h => Int.emod_lt_of_pos _ (by omega)⟩, rfl, rfl⟩


theorem one_sat {nl : Option Bool} {c : List (Fin 256)} {p : Nat} {nl2 : Option Bool} {list : List Int} (hc : c.length ≤ 2000) (hp : p < 1000000) (hn : list ≠ []) (hl : list.length < 1000000000) : SatAt Try.prog 34 [.ptr 0 0 0 0, .pv false (.sl nl2 1 (list.map intP))] [rdr nl c p] (fun res rows => ∃ x, x ∈ list ∧ res = [i64 x] ∧ rows = [rdr nl c (p + 1)]) := by
  have hL : ((list.map intP).length : Int) = list.length := by simp
  have hN := List.length_pos_iff.2 hn
  refine sat_entry_g (ts := [4]) Try.func34 rfl rfl (by decide) (Nat.le_of_ble_eq_true rfl) fun C hC => ?_
  rw [Try.ntmps34]
  replace hC : C.nb = 1 := hC
  refine vc_seq fun K1 hK1 => ?_
  refine vc_region ?_
  refine vo_assign_pv rfl rfl ?_
  refine vo_nil ?_
  refine hK1 _ ?_
  refine vc_seq fun K2 hK2 => ?_
  refine vc_region ?_
  refine vo_move_pv rfl rfl ?_
  refine vo_move_ptr rfl rfl ?_
  refine vo_move_pv rfl rfl ?_
  refine vo_len_pv rfl rfl Try.underlying25 ?_
  refine vo_call [0] Try.func17 rfl rfl rfl rfl rfl rfl rfl (pick_sat hc (by omega)) ?_
  rintro _ _ ⟨x, ⟨hx0, hx1⟩, rfl, rfl⟩
  refine ⟨Nat.le_of_ble_eq_true rfl, ⟨rfl, rfl, rfl⟩, .inl rfl, ?_⟩
  refine vo_stN ?_
  refine vo_index_pv (.int .i64 0) rfl rfl rfl E25.und inf3 sz3 sd sd ?_
  simp only [Int.toNat_natCast, Int.toNat_zero, getD_ints, getD_intss, getD_bools, getD_bytes, PV.cells]
  refine vo_load_adr rfl rfl Try.underlying3 rfl ?_
  refine vo_assign_pv rfl rfl ?_
  refine vo_nil ?_
  refine hK2 _ ?_
  refine vc_ret ?_
  change retG _ _ _ _ _
  refine retG_sel [] [] hC rfl rfl rfl rfl rfl rfl ?_
  exact ⟨_, getD_mem (by omega) 0, rfl, rfl⟩


theorem one2_sat {nl : Option Bool} {c : List (Fin 256)} {p : Nat} {nl2 : Option Bool} {list : List (List Int)} (hc : c.length ≤ 2000) (hp : p < 1000000) (hn : list ≠ []) (hl : list.length < 1000000000) : SatAt Try.prog 36 [.ptr 0 0 0 0, .pv false (.sl nl2 1 (list.map ints))] [rdr nl c p] (fun res rows => ∃ x, x ∈ list ∧ res = [.pv false (ints x)] ∧ rows = [rdr nl c (p + 1)]) := by
  have hL : ((list.map ints).length : Int) = list.length := by simp
  have hN := List.length_pos_iff.2 hn
  refine sat_entry_g (ts := [4]) Try.func36 rfl rfl (by decide) (Nat.le_of_ble_eq_true rfl) fun C hC => ?_
  rw [Try.ntmps36]
  replace hC : C.nb = 1 := hC
  refine vc_seq fun K1 hK1 => ?_
  refine vc_region ?_
  refine vo_assign_pv rfl rfl ?_
  refine vo_nil ?_
  refine hK1 _ ?_
  refine vc_seq fun K2 hK2 => ?_
  refine vc_region ?_
  refine vo_move_pv rfl rfl ?_
  refine vo_move_ptr rfl rfl ?_
  refine vo_move_pv rfl rfl ?_
  refine vo_len_pv rfl rfl Try.underlying23 ?_
  refine vo_call [0] Try.func17 rfl rfl rfl rfl rfl rfl rfl (pick_sat hc (by omega)) ?_
  rintro _ _ ⟨x, ⟨hx0, hx1⟩, rfl, rfl⟩
  refine ⟨Nat.le_of_ble_eq_true rfl, ⟨rfl, rfl, rfl⟩, .inl rfl, ?_⟩
  refine vo_stN ?_
  refine vo_index_pv (.sl none 1 []) rfl rfl rfl E23.und inf25 sz25 sd sd ?_
  simp only [Int.toNat_natCast, Int.toNat_zero, getD_ints, getD_intss, getD_bools, getD_bytes, PV.cells]
  refine vo_load_adr rfl rfl Try.underlying25 rfl ?_
  refine vo_assign_pv rfl rfl ?_
  refine vo_nil ?_
  refine hK2 _ ?_
  refine vc_ret ?_
  change retG _ _ _ _ _
  refine retG_sel [] [] hC rfl rfl rfl rfl rfl rfl ?_
  exact ⟨_, getD_mem (by omega) [], rfl, rfl⟩


theorem someBases_sat {nl : Option Bool} {c : List (Fin 256)} {p : Nat} {most : Int} (hc : c.length ≤ 2000) (hp : p < 999900) : SatAt Try.prog 18 [.ptr 0 0 0 0, i64 most] [rdr nl c p] (fun res rows => ∃ B q, (SB B ∧ B.length ≤ 9 ∧ ((B.length : Int) ≤ most ∨ B.length = 1) ∧ q ≤ p + 90) ∧ res = [.ref 1] ∧ rows = [rdr nl c q, Row.own 25 1 (some false) true (B.map ints)]) := by
  refine sat_entry_g (ts := [4]) Try.func18 rfl rfl (by decide) (Nat.le_of_ble_eq_true rfl) fun C hC => ?_
  rw [Try.ntmps18]
  replace hC : C.nb = 1 := hC
  refine vc_seq fun K1 hK1 => ?_
  refine vc_region ?_
  refine vo_assign_pv rfl rfl ?_
  refine vo_nil ?_
  refine hK1 _ ?_
  refine vc_seq fun K2 hK2 => ?_
  refine vc_region ?_
  refine vo_buildSlice E25 rfl rfl rfl rfl rfl ?_
  refine vo_expose 1 (by omega) rfl ?_
  refine vo_weaken 10 rfl ?_
  refine vo_stN ?_
  refine vo_buildSlice E23 rfl rfl rfl rfl rfl ?_
  refine vo_assign_ref rfl rfl ?_
  refine vo_nil ?_
  refine hK2 _ ?_
  refine vc_seq fun K3 hK3 => ?_
  refine vc_seq fun K4 hK4 => ?_
  refine vc_region ?_
  refine vo_move_ptr rfl rfl ?_
  refine vo_buildSlice E25 rfl rfl rfl rfl rfl ?_
  refine vo_expose 3 (by omega) rfl ?_
  refine vo_weaken 13 rfl ?_
  refine vo_stN ?_
  refine vo_call [0] Try.func34 rfl rfl rfl rfl rfl rfl rfl (one_sat (list := [4,5,3,6,7,2,0,8]) hc (by omega) (by simp) (by simp)) ?_
  rintro _ _ ⟨x, hx, rfl, rfl⟩
  refine ⟨Nat.le_of_ble_eq_true rfl, ⟨rfl, rfl, rfl⟩, .inl rfl, ?_⟩
  refine vo_stN ?_
  refine vo_assign_pv rfl rfl ?_
  refine vo_nil ?_
  refine hK4 _ ?_
  refine vc_block ?_
  refine vc_stN ?_
  refine vc_loop [0, 1, 5, 6] (fun mz vs rows => ∃ (B : List (List Int)) (q : Nat) (n : Int), mz = n.toNat ∧ ((0 ≤ n ∧ B.length + n ≤ 9)) ∧ ((q + 10 * n ≤ p + 90)) ∧ (SB B) ∧ (((B.length : Int) ≤ most ∨ B.length = 1)) ∧ vs = [.ptr 0 0 0 0, i64 most, .ref 2, i64 n] ∧ rows = [rdr nl c q, .dead, Row.own 25 1 (some false) true (B.map ints), .dead]) (x.toNat) (le_len hC rfl) ⟨rfl, rfl⟩ ⟨[[]], p+1, x, rfl, (by simp at hx; simp; omega), (by simp at hx; omega), ⟨by simp, rfl, fun i h1 h2 => by simp at h1; omega⟩, .inr rfl, rfl, rfl⟩ ?_
  rintro mz vs rows - - ⟨B, q, n, rfl, hn, hq, hB, hm, rfl, rfl⟩
  have hBl : ((B.map ints).length : Int) = B.length := by simp
  have hB1 := hB.1
  refine vc_seq fun K5 hK5 => ?_
  refine vc_seq fun K6 hK6 => ?_
  refine vc_region ?_
  refine vo_move_pv rfl rfl ?_
  refine vo_binI rfl rfl rfl rfl trivial ?_
  refine vo_move_pv rfl rfl ?_
  refine vo_split 17 rfl (fun hg1 => ?_) (fun hg1 => ?_)
  · try simp only [decide_eq_true_eq, decide_eq_false_iff_not, beq_iff_eq, bne_iff_ne, beq_eq_false_iff_ne, bne_eq_false_iff_eq, Bool.not_eq_true, Bool.not_eq_false, Bool.not_eq_eq_eq_not, Bool.not_true, Bool.not_false, List.length_map, Int.not_lt, Int.not_le, ne_eq, Decidable.not_not] at hg1
    refine vo_guard_on rfl rfl rfl ?_
    refine vo_move_ref rfl rfl ?_
    refine vo_guard_on rfl rfl rfl ?_
    refine vo_len_ref rfl rfl rfl Try.underlying23 ?_
    refine vo_guard_on rfl rfl rfl ?_
    refine vo_move_pv rfl rfl ?_
    refine vo_guard_on rfl rfl rfl ?_
    refine vo_binI rfl rfl rfl rfl trivial ?_
    refine vo_pick_t rfl rfl ?_
    refine vo_nil ?_
    refine hK6 _ ?_
    refine vc_cond rfl (fun hc2 => ?_) (fun hc2 => ?_)
    · try simp only [decide_eq_true_eq, decide_eq_false_iff_not, beq_iff_eq, bne_iff_ne, beq_eq_false_iff_ne, bne_eq_false_iff_eq, Bool.not_eq_true, Bool.not_eq_false, Bool.not_eq_eq_eq_not, Bool.not_true, Bool.not_false, List.length_map, Int.not_lt, Int.not_le, ne_eq, Decidable.not_not] at hc2
      refine vc_skip ?_
      refine hK5 _ ?_
      refine vc_seq fun K7 hK7 => ?_
      refine vc_block ?_
      refine vc_seq fun K8 hK8 => ?_
      refine vc_region ?_
      refine vo_buildSlice E25 rfl rfl rfl rfl rfl ?_
      refine vo_assign_ref rfl rfl ?_
      refine vo_nil ?_
      refine hK8 _ ?_
      refine vc_seq fun K9 hK9 => ?_
      refine vc_seq fun K10 hK10 => ?_
      refine vc_region ?_
      refine vo_move_ptr rfl rfl ?_
      refine vo_buildSlice E25 rfl rfl rfl rfl rfl ?_
      refine vo_expose 5 (by omega) rfl ?_
      refine vo_weaken 27 rfl ?_
      refine vo_stN ?_
      refine vo_call [0] Try.func34 rfl rfl rfl rfl rfl rfl rfl (one_sat (list := [1,2,2,3]) hc (by omega) (by simp) (by simp)) ?_
      rintro _ _ ⟨y, hy, rfl, rfl⟩
      refine ⟨Nat.le_of_ble_eq_true rfl, ⟨rfl, rfl, rfl⟩, .inl rfl, ?_⟩
      refine vo_stN ?_
      refine vo_assign_pv rfl rfl ?_
      refine vo_nil ?_
      refine hK10 _ ?_
      refine vc_block ?_
      refine vc_stN ?_
      refine vc_loop [0, 1, 5, 6, 7, 8] (fun mz vs rows => ∃ (q : Nat) (k : Int) (l : List Int), mz = k.toNat ∧ ((0 ≤ k ∧ l.length + k ≤ 3)) ∧ ((q + 3 * k + 10 * (n-1) ≤ p + 90)) ∧ (l.Nodup) ∧ ((∀ x ∈ l, 0 ≤ x ∧ x < B.length)) ∧ ((l ≠ [] ∨ 1 ≤ k)) ∧ vs = [.ptr 0 0 0 0, i64 most, .ref 2, i64 n, .ref 4, i64 k] ∧ rows = [rdr nl c q, .dead, Row.own 25 1 (some false) true (B.map ints), .dead, Row.own 3 1 (some false) true (l.map intP), .dead]) (y.toNat) (le_len hC rfl) ⟨rfl, rfl⟩ ⟨q+1, y, [], rfl, (by simp at hy; simp; omega), (by simp at hy; omega), List.nodup_nil, (by simp), (.inr (by simp at hy; omega)), rfl, rfl⟩ ?_
      rintro mz vs rows - - ⟨q, k, l, rfl, hk, hq2, hl, hl2, hl3, rfl, rfl⟩
      refine vc_seq fun K11 hK11 => ?_
      refine vc_seq fun K12 hK12 => ?_
      refine vc_region ?_
      refine vo_move_pv rfl rfl ?_
      refine vo_binI rfl rfl rfl rfl trivial ?_
      refine vo_nil ?_
      refine hK12 _ ?_
      refine vc_cond rfl (fun hc3 => ?_) (fun hc3 => ?_)
      · try simp only [decide_eq_true_eq, decide_eq_false_iff_not, beq_iff_eq, bne_iff_ne, beq_eq_false_iff_ne, bne_eq_false_iff_eq, Bool.not_eq_true, Bool.not_eq_false, Bool.not_eq_eq_eq_not, Bool.not_true, Bool.not_false, List.length_map, Int.not_lt, Int.not_le, ne_eq, Decidable.not_not] at hc3
        refine vc_skip ?_
        refine hK11 _ ?_
        refine vc_seq fun K13 hK13 => ?_
        refine vc_block ?_
        refine vc_seq fun K14 hK14 => ?_
        refine vc_region ?_
        refine vo_move_ptr rfl rfl ?_
        refine vo_move_ref rfl rfl ?_
        refine vo_len_ref rfl rfl rfl Try.underlying23 ?_
        refine vo_binI rfl rfl rfl rfl sd ?_
        refine vo_move_ptr rfl rfl ?_
        refine vo_move_ref rfl rfl ?_
        refine vo_len_ref rfl rfl rfl Try.underlying23 ?_
        refine vo_call [0] Try.func17 rfl rfl rfl rfl rfl rfl rfl (pick_sat hc (by omega)) ?_
        rintro _ _ ⟨x1, ⟨hx1, hx2⟩, rfl, rfl⟩
        refine ⟨Nat.le_of_ble_eq_true rfl, ⟨rfl, rfl, rfl⟩, .inl rfl, ?_⟩
        refine vo_stN ?_
        refine vo_move_ptr rfl rfl ?_
        refine vo_move_ref rfl rfl ?_
        refine vo_len_ref rfl rfl rfl Try.underlying23 ?_
        refine vo_call [0] Try.func17 rfl rfl rfl rfl rfl rfl rfl (pick_sat hc (by omega)) ?_
        rintro _ _ ⟨x2, ⟨hx3, hx4⟩, rfl, rfl⟩
        refine ⟨Nat.le_of_ble_eq_true rfl, ⟨rfl, rfl, rfl⟩, .inl rfl, ?_⟩
        refine vo_stN ?_
        refine vo_buildSlice E25 rfl rfl rfl rfl rfl ?_
        refine vo_expose 6 (by omega) rfl ?_
        refine vo_weaken 45 rfl ?_
        refine vo_stN ?_
        refine vo_call [0] Try.func34 rfl rfl rfl rfl rfl rfl rfl (one_sat (list := [_,_,_]) hc (by omega) (by simp) (by simp)) ?_
        rintro _ _ ⟨x, hx, rfl, rfl⟩
        refine ⟨Nat.le_of_ble_eq_true rfl, ⟨rfl, rfl, rfl⟩, .inl rfl, ?_⟩
        refine vo_stN ?_
        refine vo_assign_pv rfl rfl ?_
        refine vo_nil ?_
        refine hK14 _ ?_
        refine vc_seq fun K15 hK15 => ?_
        refine vc_region ?_
        refine vo_move_ref rfl rfl ?_
        refine vo_move_pv rfl rfl ?_
        refine vo_call0 Try.func35 rfl rfl rfl rfl (placeIn_sat (by omega)) ?_
        rintro _ _ ⟨rfl, rfl⟩
        refine ⟨rfl, rfl, .inr rfl, ?_⟩
        refine vo_binI rfl rfl rfl rfl trivial ?_
        refine vo_nil ?_
        refine hK15 _ ?_
        refine vc_cond rfl (fun hc4 => ?_) (fun hc4 => ?_)
        · try simp only [decide_eq_true_eq, decide_eq_false_iff_not, beq_iff_eq, bne_iff_ne, beq_eq_false_iff_ne, bne_eq_false_iff_eq, Bool.not_eq_true, Bool.not_eq_false, Bool.not_eq_eq_eq_not, Bool.not_true, Bool.not_false, List.length_map, Int.not_lt, Int.not_le, ne_eq, Decidable.not_not] at hc4
          refine vc_region ?_
          refine vo_move_ref rfl rfl ?_
          refine vo_move_pv rfl rfl ?_
          refine vo_buildSlice E25 rfl rfl rfl rfl rfl ?_
          refine vo_append E25 rfl (by omega) rfl rfl rfl sd sd ?_
          refine vo_stN ?_
          try simp only [app_ints, app_intss, app_bools]
          refine vo_assign_ref rfl rfl ?_
          refine vo_nil ?_
          refine hK13 _ ?_
          refine vc_region ?_
          refine vo_move_pv rfl rfl ?_
          refine vo_binI rfl rfl rfl rfl sd ?_
          refine vo_assign_pv rfl rfl ?_
          refine vo_nil ?_
          change again _ _ _ _ _ _
          refine again_mk rfl rfl rfl rfl ⟨_, ?_, q + 1 + 1 + 1, k - 1, l ++ [x], rfl, ?_, ?_, ?_, ?_, ?_, rfl, rfl⟩
          · omega
          · refine ⟨by omega, ?_⟩; rw [List.length_append, List.length_singleton]; omega
          · omega
          · exact nodup_snoc hl ((findM_not _ _ 0 (by omega)).1 (by assumption))
          · intro z hz; rcases List.mem_append.1 hz with hz | hz
            · exact hl2 z hz
            · rw [List.mem_singleton.1 hz]; simp only [List.mem_cons, List.not_mem_nil, or_false] at hx; rcases hx with rfl | rfl | rfl <;> omega
          · exact .inl (by simp)
        · try simp only [decide_eq_true_eq, decide_eq_false_iff_not, beq_iff_eq, bne_iff_ne, beq_eq_false_iff_ne, bne_eq_false_iff_eq, Bool.not_eq_true, Bool.not_eq_false, Bool.not_eq_eq_eq_not, Bool.not_true, Bool.not_false, List.length_map, Int.not_lt, Int.not_le, ne_eq, Decidable.not_not] at hc4
          refine vc_skip ?_
          refine hK13 _ ?_
          refine vc_region ?_
          refine vo_move_pv rfl rfl ?_
          refine vo_binI rfl rfl rfl rfl sd ?_
          refine vo_assign_pv rfl rfl ?_
          refine vo_nil ?_
          change again _ _ _ _ _ _
          refine again_mk rfl rfl rfl rfl ⟨_, ?_, q + 1 + 1 + 1, k - 1, l, rfl, ?_, ?_, ?_, ?_, ?_, rfl, rfl⟩
          · omega
          · omega
          · omega
          · exact hl
          · exact hl2
          · exact .inl (fun e => by subst e; simp [findM] at *)
      · try simp only [decide_eq_true_eq, decide_eq_false_iff_not, beq_iff_eq, bne_iff_ne, beq_eq_false_iff_ne, bne_eq_false_iff_eq, Bool.not_eq_true, Bool.not_eq_false, Bool.not_eq_eq_eq_not, Bool.not_true, Bool.not_false, List.length_map, Int.not_lt, Int.not_le, ne_eq, Decidable.not_not] at hc3
        refine vc_exit ?_
        refine hK9 _ ?_
        refine vc_region ?_
        refine vo_move_ref rfl rfl ?_
        refine vo_move_ref rfl rfl ?_
        refine vo_expose 4 (by omega) rfl ?_
        refine vo_weaken 56 rfl ?_
        refine vo_stN ?_
        refine vo_buildSlice E23 rfl rfl rfl rfl rfl ?_
        refine vo_append E23 rfl (by omega) rfl rfl rfl sd sd ?_
        refine vo_stN ?_
        try simp only [app_ints, app_intss, app_bools]
        refine vo_assign_ref rfl rfl ?_
        refine vo_nil ?_
        refine hK7 _ ?_
        refine vc_region ?_
        refine vo_move_pv rfl rfl ?_
        refine vo_binI rfl rfl rfl rfl sd ?_
        refine vo_assign_pv rfl rfl ?_
        refine vo_nil ?_
        change again _ _ _ _ _ _
        refine again_mk rfl rfl rfl rfl ⟨_, ?_, B ++ [l], q, n - 1, rfl, ?_, ?_, ?_, ?_, rfl, rfl⟩
        · omega
        · refine ⟨by omega, ?_⟩; rw [List.length_append, List.length_singleton]; omega
        · omega
        · exact hB.snoc (by rcases hl3 with h | h; exact h; omega) (by omega) hl hl2
        · left; rw [List.length_append, List.length_singleton]; omega
    · try simp only [decide_eq_true_eq, decide_eq_false_iff_not, beq_iff_eq, bne_iff_ne, beq_eq_false_iff_ne, bne_eq_false_iff_eq, Bool.not_eq_true, Bool.not_eq_false, Bool.not_eq_eq_eq_not, Bool.not_true, Bool.not_false, List.length_map, Int.not_lt, Int.not_le, ne_eq, Decidable.not_not] at hc2
      refine vc_exit ?_
      refine hK3 _ ?_
      refine vc_seq fun K16 hK16 => ?_
      refine vc_region ?_
      refine vo_move_ref rfl rfl ?_
      refine vo_assign_ref rfl rfl ?_
      refine vo_nil ?_
      refine hK16 _ ?_
      refine vc_ret ?_
      change retG _ _ _ _ _
      refine retG_one 2 hC rfl rfl rfl rfl rfl ?_
      exact ⟨_, _, ⟨hB, by omega, hm, by omega⟩, rfl, rfl⟩
  · try simp only [decide_eq_true_eq, decide_eq_false_iff_not, beq_iff_eq, bne_iff_ne, beq_eq_false_iff_ne, bne_eq_false_iff_eq, Bool.not_eq_true, Bool.not_eq_false, Bool.not_eq_eq_eq_not, Bool.not_true, Bool.not_false, List.length_map, Int.not_lt, Int.not_le, ne_eq, Decidable.not_not] at hg1
    refine vo_guard_off rfl rfl rfl rfl rfl ?_
    refine vo_guard_off rfl rfl rfl rfl rfl ?_
    refine vo_guard_off rfl rfl rfl rfl rfl ?_
    refine vo_guard_off rfl rfl rfl rfl rfl ?_
    refine vo_pick_f rfl rfl ?_
    refine vo_nil ?_
    refine hK6 _ ?_
    refine vc_cond_f rfl ?_
    refine vc_exit ?_
    refine hK3 _ ?_
    refine vc_seq fun K17 hK17 => ?_
    refine vc_region ?_
    refine vo_move_ref rfl rfl ?_
    refine vo_assign_ref rfl rfl ?_
    refine vo_nil ?_
    refine hK17 _ ?_
    refine vc_ret ?_
    change retG _ _ _ _ _
    refine retG_one 2 hC rfl rfl rfl rfl rfl ?_
    exact ⟨_, _, ⟨hB, by omega, hm, by omega⟩, rfl, rfl⟩

end Go.Vl
