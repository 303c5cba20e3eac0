/- Part 4 of the texts that the proof of FnExactNamesOf is built on. -/
import Derived.Test.YtlpchicpbnmdgabGreatVl3
import Derived.ProofKit
import Derived.OpenShut
import Derived.Below
import Derived.Deep.Matrix
import Derived.ChangeArms
import Derived.ChangeSame
namespace Go.Vl
set_option linter.unusedVariables false
set_option linter.unusedSimpArgs false
open Go.Proofs
theorem rows_eq {α : Type} {el : TypeId} {e : Nat} {nl : Option Bool} {f : Bool} {g : α → PV} {a b : List α} (h : a = b) : [Row.own el e nl f (List.map g a)] = [Row.own el e nl f (List.map g b)] := by rw [h]
def findM (n : Int) : List Int → Int → Int
  | [], _ => -1
  | x :: xs, i => if x = n then i else findM n xs (i+1)

theorem findM_drop (n : Int) (l : List Int) (k : Nat) (h : k < l.length) : findM n (l.drop k) k = if l.getD k 0 = n then (k : Int) else findM n (l.drop (k+1)) (k+1) := by
  rw [List.drop_eq_getElem_cons h]
  simp [findM, List.getD, List.getElem?_eq_getElem h]

theorem findM_mem (n : Int) : ∀ (l : List Int) (k : Int), 0 ≤ k → (0 ≤ findM n l k ↔ n ∈ l)
  | [], k, _ => by simp [findM]
  | x :: xs, k, h => by
    by_cases hx : x = n
    · simp [findM, hx, h]
    · have := findM_mem n xs (k+1) (by omega)
      simp [findM, hx, Ne.symm hx, this]

theorem findM_not (n : Int) (l : List Int) (k : Int) (h : 0 ≤ k) : findM n l k < 0 ↔ n ∉ l := by
  rw [← findM_mem n l k h]; omega

theorem nodup_take_succ {α : Type} {l : List α} {k : Nat} (h : k < l.length) (d : α) : (l.take (k+1)).Nodup ↔ (l.take k).Nodup ∧ l.getD k d ∉ l.take k := by
  rw [List.take_succ_eq_append_getElem h, List.nodup_append]
  simp [List.getD, List.getElem?_eq_getElem h]
  intro _
  exact ⟨fun h1 h2 => h1 _ h2 rfl, fun h1 a ha e => h1 (e ▸ ha)⟩

theorem nodup_take {α : Type} {l : List α} (k : Nat) (h : l.Nodup) : (l.take k).Nodup := (List.take_sublist k l).nodup h

theorem all_take_succ {α : Type} {p : α → Prop} {l : List α} {k : Nat} (h : k < l.length) (d : α) : (∀ x ∈ l.take (k+1), p x) ↔ (∀ x ∈ l.take k, p x) ∧ p (l.getD k d) := by
  rw [List.take_succ_eq_append_getElem h]
  simp only [List.mem_append, List.mem_singleton, or_imp, forall_and, forall_eq, List.getD, List.getElem?_eq_getElem h, Option.getD_some]

theorem getD_mem {α : Type} {l : List α} {k : Nat} (h : k < l.length) (d : α) : l.getD k d ∈ l := by
  simp [List.getD, List.getElem?_eq_getElem h]

theorem take_all {α : Type} {l : List α} {k : Nat} (h : l.length ≤ k) : l.take k = l := List.take_of_length_le h
theorem bT {P : Prop} [Decidable P] (h : P) : true = decide P := (decide_eq_true h).symm
theorem bF {P : Prop} [Decidable P] (h : ¬ P) : false = decide P := (decide_eq_false h).symm
theorem lens {b : List (List Int)} {N : Nat} (h : ∀ l ∈ b, l.length < N) (k : Nat) (hN : 0 < N) : (b.getD k []).length < N := by
  by_cases hk : k < b.length
  · exact h _ (getD_mem hk [])
  · simp [List.getD, List.getElem?_eq_none (by omega : b.length ≤ k), hN]
/-- What can be the bases of a class. -/
def CB (l : List Int) (c : Int) : Prop := l ≠ [] ∧ l.length ≤ 4 ∧ l.Nodup ∧ ∀ x ∈ l, 0 ≤ x ∧ x ≤ c - 1
instance {l : List Int} {c : Int} : Decidable (CB l c) := by unfold CB; infer_instance
/-- Bases that are valid. -/
def VB (b : List (List Int)) : Prop := 1 ≤ b.length ∧ b.length ≤ 12 ∧ b.getD 0 [] = [] ∧ ∀ i, i < b.length → 0 < i → CB (b.getD i []) i
instance {b : List (List Int)} : Decidable (VB b) := by unfold VB; infer_instance
def RB0 (l : List Int) (i : Nat) : Prop := (l.length = 0 ↔ i = 0) ∧ l.length ≤ 4 ∧ l.Nodup ∧ ∀ x ∈ l, 0 ≤ x ∧ x ≤ (i : Int) - 1
theorem vb_iff (b : List (List Int)) : VB b ↔ (1 ≤ b.length ∧ b.length ≤ 12) ∧ ∀ i, i < b.length → RB0 (b.getD i []) i := by
  constructor
  · rintro ⟨h1, h2, h3, h4⟩
    refine ⟨⟨h1, h2⟩, fun i hi => ?_⟩
    rcases Nat.eq_zero_or_pos i with rfl | h0
    · rw [h3]; simp [RB0]
    · obtain ⟨c1, c2, c3, c4⟩ := h4 i hi h0
      exact ⟨⟨fun e => absurd (List.length_eq_zero_iff.1 e) c1, fun e => by omega⟩, c2, c3, c4⟩
  · rintro ⟨⟨h1, h2⟩, h⟩
    refine ⟨h1, h2, List.length_eq_zero_iff.1 ((h 0 (by omega)).1.2 rfl), fun i hi h0 => ?_⟩
    obtain ⟨c1, c2, c3, c4⟩ := h i hi
    exact ⟨fun e => by rw [e] at c1; simp at c1; omega, c2, c3, c4⟩
/-- Lists that can be merged or kept. -/
def OKL (l : List Int) (m : Int) : Prop := (l.length : Int) ≤ m ∧ l.Nodup
instance {l : List Int} {c : Int} : Decidable (OKL l c) := by unfold OKL; infer_instance
/-- Slots that are valid. -/
def VS (b s : List (List Int)) : Prop := VB b ∧ s.length = b.length ∧ s.getD 0 [] = [] ∧ ∀ l ∈ s, OKL l 4 ∧ ∀ x ∈ l, 0 ≤ x ∧ x ≤ 9
instance {b s : List (List Int)} : Decidable (VS b s) := by unfold VS; infer_instance

theorem placeIn_sat {nl0 : Option Bool} {list : List Int} {n : Int} (hlist : list.length < 1000000000)  : SatAt Tryz.prog 152 [.pv false (.sl nl0 1 (list.map intP)), i64 n] [] (fun res rows => res = [i64 (findM n list 0)] ∧ rows = []) := by
 refine sat_entry (ts := [4]) Tryz.func152 rfl rfl (by decide) (Nat.le_of_ble_eq_true rfl) fun C hC => ?_
 rw [Tryz.ntmps152]
 replace hC : C.nb = 0 := hC
 refine vc_seq fun K1 hK1 => ?_
 refine vc_region ?_
 refine vo_assign_pv rfl rfl ?_
 refine vo_nil ?_
 refine hK1 _ ?_
 refine vc_seq fun K2 hK2 => ?_
 refine vc_seq fun K3 hK3 => ?_
 refine vc_region ?_
 refine vo_assign_pv rfl rfl ?_
 refine vo_nil ?_
 refine hK3 _ ?_
 refine vc_block ?_
 refine vc_stN ?_
 refine vc_loopF [0, 1] [5] [.pv false (.sl nl0 1 (list.map intP)), i64 n] _ (fun mz vs => ∃ (k : Nat), mz = list.length - k ∧ (k ≤ list.length) ∧ (findM n list 0 = findM n (list.drop k) k) ∧ vs = [i64 k]) (list.length) rfl rfl (le_len hC rfl) ⟨rfl, rfl, rfl⟩ ⟨0, rfl, Nat.zero_le _, rfl, rfl⟩ ?_
 rintro mz vs - ⟨k, rfl, hk, hf, rfl⟩
 refine vc_stN ?_
 refine vc_seq fun K4 hK4 => ?_
 refine vc_seq fun K5 hK5 => ?_
 refine vc_region ?_
 refine vo_move_pv rfl rfl ?_
 refine vo_move_pv rfl rfl ?_
 refine vo_len_pv rfl rfl Tryz.underlying28 ?_
 refine vo_binI rfl rfl rfl rfl trivial ?_
 refine vo_nil ?_
 refine hK5 _ ?_
 refine vc_cond rfl (fun hc1 => ?_) (fun hc1 => ?_)
 ·try simp only [zq0, zq1, zq2, zq3, zq4, zq5, zq6, zq7, zq8, zq9, zqa, zqb, zqc, zqd, zqe, zqf] at hc1
  refine vc_skip ?_
  refine hK4 _ ?_
  refine vc_seq fun K6 hK6 => ?_
  refine vc_block ?_
  refine vc_seq fun K7 hK7 => ?_
  refine vc_region ?_
  refine vo_move_pv rfl rfl ?_
  refine vo_move_pv rfl rfl ?_
  refine vo_index_pv (.int .i64 0) rfl rfl rfl E28.und inf3 sz3 sd sd ?_
  simp only [Int.toNat_natCast, Int.toNat_zero, getD_ints, getD_intss, getD_bools, getD_bytes, PV.cells]
  refine vo_load_adr rfl rfl Tryz.underlying3 rfl ?_
  refine vo_move_pv rfl rfl ?_
  refine vo_binI rfl rfl rfl rfl trivial ?_
  refine vo_nil ?_
  refine hK7 _ ?_
  refine vc_cond rfl (fun hc2 => ?_) (fun hc2 => ?_)
  ·try simp only [zq0, zq1, zq2, zq3, zq4, zq5, zq6, zq7, zq8, zq9, zqa, zqb, zqc, zqd, zqe, zqf] at hc2
   refine vc_seq fun K8 hK8 => ?_
   refine vc_region ?_
   refine vo_move_pv rfl rfl ?_
   refine vo_assign_pv rfl rfl ?_
   refine vo_nil ?_
   refine hK8 _ ?_
   refine vc_ret ?_
   change retPv _ _ _ _ _
   refine retPv_mk rfl rfl rfl ⟨?_, rfl⟩
   refine (congrArg (fun b => [i64 b]) (?_ : _ = _) : [i64 _] = [i64 _])
   rw [hf, findM_drop _ _ _ (by omega), if_pos (by omega)]
  ·try simp only [zq0, zq1, zq2, zq3, zq4, zq5, zq6, zq7, zq8, zq9, zqa, zqb, zqc, zqd, zqe, zqf] at hc2
   refine vc_skip ?_
   refine hK6 _ ?_
   refine vc_region ?_
   refine vo_move_pv rfl rfl ?_
   refine vo_binI rfl rfl rfl rfl sd ?_
   refine vo_assign_pv rfl rfl ?_
   refine vo_nil ?_
   change againF _ _ _ _ _ _ _ _ _
   refine againF_mk rfl rfl rfl rfl rfl rfl ⟨_, ?_, k + 1, rfl, ?_, ?_, rfl⟩
   ·omega
   ·omega
   ·rw [hf, findM_drop _ _ _ (by omega), if_neg (by omega)]; rfl
 ·try simp only [zq0, zq1, zq2, zq3, zq4, zq5, zq6, zq7, zq8, zq9, zqa, zqb, zqc, zqd, zqe, zqf] at hc1
  refine vc_exit ?_
  refine hK2 _ ?_
  refine vc_seq fun K9 hK9 => ?_
  refine vc_region ?_
  refine vo_assign_pv rfl rfl ?_
  refine vo_nil ?_
  refine hK9 _ ?_
  refine vc_ret ?_
  change retPv _ _ _ _ _
  refine retPv_mk rfl rfl rfl ⟨?_, rfl⟩
  refine (congrArg (fun b => [i64 b]) (?_ : _ = _) : [i64 _] = [i64 _])
  rw [hf, show k = list.length by omega, List.drop_length]; rfl


theorem different_sat {nl0 : Option Bool} {list : List Int} (hlist : list.length < 1000000000)  : SatAt Tryz.prog 135 [.pv false (.sl nl0 1 (list.map intP))] [] (fun res rows => res = [bo (decide (list.Nodup))] ∧ rows = []) := by
 refine sat_entry (ts := [2]) Tryz.func135 rfl rfl (by decide) (Nat.le_of_ble_eq_true rfl) fun C hC => ?_
 rw [Tryz.ntmps135]
 replace hC : C.nb = 0 := hC
 refine vc_seq fun K1 hK1 => ?_
 refine vc_region ?_
 refine vo_assign_pv rfl rfl ?_
 refine vo_nil ?_
 refine hK1 _ ?_
 refine vc_seq fun K2 hK2 => ?_
 refine vc_seq fun K3 hK3 => ?_
 refine vc_region ?_
 refine vo_assign_pv rfl rfl ?_
 refine vo_nil ?_
 refine hK3 _ ?_
 refine vc_block ?_
 refine vc_stN ?_
 refine vc_loopF [0] [3] [.pv false (.sl nl0 1 (list.map intP))] _ (fun mz vs => ∃ (k : Nat), mz = list.length - k ∧ (k ≤ list.length) ∧ ((list.take k).Nodup) ∧ vs = [i64 k]) (list.length) rfl rfl (le_len hC rfl) ⟨rfl, rfl, rfl⟩ ⟨0, rfl, Nat.zero_le _, List.nodup_nil, rfl⟩ ?_
 rintro mz vs - ⟨k, rfl, hk, hf, rfl⟩
 refine vc_stN ?_
 refine vc_seq fun K4 hK4 => ?_
 refine vc_seq fun K5 hK5 => ?_
 refine vc_region ?_
 refine vo_move_pv rfl rfl ?_
 refine vo_move_pv rfl rfl ?_
 refine vo_len_pv rfl rfl Tryz.underlying28 ?_
 refine vo_binI rfl rfl rfl rfl trivial ?_
 refine vo_nil ?_
 refine hK5 _ ?_
 refine vc_cond rfl (fun hc1 => ?_) (fun hc1 => ?_)
 ·try simp only [zq0, zq1, zq2, zq3, zq4, zq5, zq6, zq7, zq8, zq9, zqa, zqb, zqc, zqd, zqe, zqf] at hc1
  refine vc_skip ?_
  refine hK4 _ ?_
  refine vc_seq fun K6 hK6 => ?_
  refine vc_block ?_
  refine vc_seq fun K7 hK7 => ?_
  refine vc_draw (by kernel_rfl) ?_
  change VD _ _ _ 9 _ _ _
  refine vd_light 0 rfl rfl rfl (by kernel_rfl) (by kernel_rfl) (by kernel_rfl) (wnt_none rfl) (lt_move_pv rfl) ?_
  refine vd_light 1 rfl rfl rfl (by kernel_rfl) (by kernel_rfl) (by kernel_rfl) (wnt_none rfl) (lt_move_pv rfl) ?_
  refine vd_light 2 rfl rfl rfl (by kernel_rfl) (by kernel_rfl) (by kernel_rfl) (wnt_none rfl) (lt_slice_pv rfl rfl rfl E28.und inf3 sz3 sd sd sd) ?_
  simp only [Int.toNat_natCast, Int.toNat_zero, List.drop_zero, Nat.sub_zero, ← List.map_drop, ← List.map_take]
  refine vd_light 3 rfl rfl rfl (by kernel_rfl) (by kernel_rfl) (by kernel_rfl) (wnt_none rfl) (lt_move_pv rfl) ?_
  refine vd_light 4 rfl rfl rfl (by kernel_rfl) (by kernel_rfl) (by kernel_rfl) (wnt_none rfl) (lt_move_pv rfl) ?_
  refine vd_light 5 rfl rfl rfl (by kernel_rfl) (by kernel_rfl) (by kernel_rfl) (wnt_none rfl) (lt_index_pv (.int .i64 0) rfl rfl E28.und inf3 sz3 sd sd) ?_
  simp only [Int.toNat_natCast, Int.toNat_zero, getD_ints, getD_intss, getD_bools, getD_bytes, PV.cells]
  refine vd_light 6 rfl rfl rfl (by kernel_rfl) (by kernel_rfl) (by kernel_rfl) (wnt_none rfl) (lt_load_adr rfl Tryz.underlying3 rfl) ?_
  refine vd_call 7 rfl (by kernel_rfl) (wnt_none rfl) Tryz.func152 rfl rfl rfl rfl (placeIn_sat (by simp; omega)) ?_
  rintro _ _ ⟨rfl, rfl⟩
  refine ⟨rfl, rfl, .inl rfl, ?_⟩
  refine vd_light 8 rfl rfl rfl (by kernel_rfl) (by kernel_rfl) (by kernel_rfl) (wnt_none rfl) (lt_binI rfl rfl rfl trivial) ?_
  refine vd_nil (by kernel_rfl) ?_
  refine hK7 _ ?_
  refine vc_cond rfl (fun hc2 => ?_) (fun hc2 => ?_)
  ·try simp only [zq0, zq1, zq2, zq3, zq4, zq5, zq6, zq7, zq8, zq9, zqa, zqb, zqc, zqd, zqe, zqf] at hc2
   refine vc_seq fun K8 hK8 => ?_
   refine vc_region ?_
   refine vo_assign_pv rfl rfl ?_
   refine vo_nil ?_
   refine hK8 _ ?_
   refine vc_ret ?_
   change retPv _ _ _ _ _
   refine retPv_mk rfl rfl rfl ⟨?_, rfl⟩
   refine (congrArg (fun b => [bo b]) (?_ : _ = _) : [bo _] = [bo _])
   exact bF fun h => ((nodup_take_succ (by omega) 0).1 (nodup_take (k+1) h)).2 ((findM_mem _ _ _ (by omega)).1 hc2)
  ·try simp only [zq0, zq1, zq2, zq3, zq4, zq5, zq6, zq7, zq8, zq9, zqa, zqb, zqc, zqd, zqe, zqf] at hc2
   refine vc_skip ?_
   refine hK6 _ ?_
   refine vc_region ?_
   refine vo_move_pv rfl rfl ?_
   refine vo_binI rfl rfl rfl rfl sd ?_
   refine vo_assign_pv rfl rfl ?_
   refine vo_nil ?_
   change againF _ _ _ _ _ _ _ _ _
   refine againF_mk rfl rfl rfl rfl rfl rfl ⟨_, ?_, k + 1, rfl, ?_, ?_, rfl⟩
   ·omega
   ·omega
   ·exact (nodup_take_succ (by omega) 0).2 ⟨hf, (findM_not _ _ _ (by omega)).1 hc2⟩
 ·try simp only [zq0, zq1, zq2, zq3, zq4, zq5, zq6, zq7, zq8, zq9, zqa, zqb, zqc, zqd, zqe, zqf] at hc1
  refine vc_exit ?_
  refine hK2 _ ?_
  refine vc_seq fun K9 hK9 => ?_
  refine vc_region ?_
  refine vo_assign_pv rfl rfl ?_
  refine vo_nil ?_
  refine hK9 _ ?_
  refine vc_ret ?_
  change retPv _ _ _ _ _
  refine retPv_mk rfl rfl rfl ⟨?_, rfl⟩
  refine (congrArg (fun b => [bo b]) (?_ : _ = _) : [bo _] = [bo _])
  rw [take_all (by omega)] at hf; exact bT hf


theorem inRange_sat {n : Int} {low : Int} {high : Int}   : SatAt Tryz.prog 47 [i64 n, i64 low, i64 high] [] (fun res rows => res = [bo (decide (low ≤ n ∧ n ≤ high))] ∧ rows = []) := by
 refine sat_entry (ts := [6]) Tryz.func47 rfl rfl (by decide) (Nat.le_of_ble_eq_true rfl) fun C hC => ?_
 rw [Tryz.ntmps47]
 replace hC : C.nb = 0 := hC
 refine vc_seq fun K1 hK1 => ?_
 refine vc_region ?_
 refine vo_assign_pv rfl rfl ?_
 refine vo_nil ?_
 refine hK1 _ ?_
 refine vc_seq fun K2 hK2 => ?_
 refine vc_region ?_
 refine vo_move_pv rfl rfl ?_
 refine vo_move_pv rfl rfl ?_
 refine vo_binI rfl rfl rfl rfl trivial ?_
 refine vo_move_pv rfl rfl ?_
 refine vo_split 10 rfl (fun hg1 => ?_) (fun hg1 => ?_)
 ·try simp only [zq0, zq1, zq2, zq3, zq4, zq5, zq6, zq7, zq8, zq9, zqa, zqb, zqc, zqd, zqe, zqf] at hg1
  refine vo_guard_on rfl rfl rfl ?_
  refine vo_move_pv rfl rfl ?_
  refine vo_guard_on rfl rfl rfl ?_
  refine vo_move_pv rfl rfl ?_
  refine vo_guard_on rfl rfl rfl ?_
  refine vo_binI rfl rfl rfl rfl trivial ?_
  refine vo_pick_t rfl rfl ?_
  refine vo_assign_pv rfl rfl ?_
  refine vo_nil ?_
  refine hK2 _ ?_
  refine vc_ret ?_
  change retPv _ _ _ _ _
  refine retPv_mk rfl rfl rfl ⟨?_, rfl⟩
  refine (congrArg (fun b => [bo b]) (?_ : _ = _) : [bo _] = [bo _])
  simp_all <;> omega
 ·try simp only [zq0, zq1, zq2, zq3, zq4, zq5, zq6, zq7, zq8, zq9, zqa, zqb, zqc, zqd, zqe, zqf] at hg1
  refine vo_guard_off rfl rfl rfl rfl rfl ?_
  refine vo_guard_off rfl rfl rfl rfl rfl ?_
  refine vo_guard_off rfl rfl rfl rfl rfl ?_
  refine vo_pick_f rfl rfl ?_
  refine vo_assign_pv rfl rfl ?_
  refine vo_nil ?_
  refine hK2 _ ?_
  refine vc_ret ?_
  change retPv _ _ _ _ _
  refine retPv_mk rfl rfl rfl ⟨?_, rfl⟩
  refine (congrArg (fun b => [bo b]) (?_ : _ = _) : [bo _] = [bo _])
  simp_all <;> omega


theorem allIn_sat {nl0 : Option Bool} {list : List Int} {low : Int} {high : Int} (hlist : list.length < 1000000000)  : SatAt Tryz.prog 136 [.pv false (.sl nl0 1 (list.map intP)), i64 low, i64 high] [] (fun res rows => res = [bo (decide (∀ x ∈ list, low ≤ x ∧ x ≤ high))] ∧ rows = []) := by
 refine sat_entry (ts := [6]) Tryz.func136 rfl rfl (by decide) (Nat.le_of_ble_eq_true rfl) fun C hC => ?_
 rw [Tryz.ntmps136]
 replace hC : C.nb = 0 := hC
 refine vc_seq fun K1 hK1 => ?_
 refine vc_region ?_
 refine vo_assign_pv rfl rfl ?_
 refine vo_nil ?_
 refine hK1 _ ?_
 refine vc_seq fun K2 hK2 => ?_
 refine vc_seq fun K3 hK3 => ?_
 refine vc_region ?_
 refine vo_assign_pv rfl rfl ?_
 refine vo_nil ?_
 refine hK3 _ ?_
 refine vc_block ?_
 refine vc_stN ?_
 refine vc_loopF [0, 1, 2] [7] [.pv false (.sl nl0 1 (list.map intP)), i64 low, i64 high] _ (fun mz vs => ∃ (k : Nat), mz = list.length - k ∧ (k ≤ list.length) ∧ (∀ x ∈ list.take k, low ≤ x ∧ x ≤ high) ∧ vs = [i64 k]) (list.length) rfl rfl (le_len hC rfl) ⟨rfl, rfl, rfl⟩ ⟨0, rfl, Nat.zero_le _, (by simp), rfl⟩ ?_
 rintro mz vs - ⟨k, rfl, hk, hf, rfl⟩
 refine vc_stN ?_
 refine vc_seq fun K4 hK4 => ?_
 refine vc_seq fun K5 hK5 => ?_
 refine vc_region ?_
 refine vo_move_pv rfl rfl ?_
 refine vo_move_pv rfl rfl ?_
 refine vo_len_pv rfl rfl Tryz.underlying28 ?_
 refine vo_binI rfl rfl rfl rfl trivial ?_
 refine vo_nil ?_
 refine hK5 _ ?_
 refine vc_cond rfl (fun hc1 => ?_) (fun hc1 => ?_)
 ·try simp only [zq0, zq1, zq2, zq3, zq4, zq5, zq6, zq7, zq8, zq9, zqa, zqb, zqc, zqd, zqe, zqf] at hc1
  refine vc_skip ?_
  refine hK4 _ ?_
  refine vc_seq fun K6 hK6 => ?_
  refine vc_block ?_
  refine vc_seq fun K7 hK7 => ?_
  refine vc_region ?_
  refine vo_move_pv rfl rfl ?_
  refine vo_move_pv rfl rfl ?_
  refine vo_index_pv (.int .i64 0) rfl rfl rfl E28.und inf3 sz3 sd sd ?_
  simp only [Int.toNat_natCast, Int.toNat_zero, getD_ints, getD_intss, getD_bools, getD_bytes, PV.cells]
  refine vo_load_adr rfl rfl Tryz.underlying3 rfl ?_
  refine vo_move_pv rfl rfl ?_
  refine vo_move_pv rfl rfl ?_
  refine vo_call0 Tryz.func47 rfl rfl rfl rfl inRange_sat ?_
  rintro _ _ ⟨rfl, rfl⟩
  refine ⟨rfl, rfl, .inl rfl, ?_⟩
  refine vo_not rfl rfl ?_
  refine vo_nil ?_
  refine hK7 _ ?_
  refine vc_cond rfl (fun hc2 => ?_) (fun hc2 => ?_)
  ·try simp only [zq0, zq1, zq2, zq3, zq4, zq5, zq6, zq7, zq8, zq9, zqa, zqb, zqc, zqd, zqe, zqf] at hc2
   refine vc_seq fun K8 hK8 => ?_
   refine vc_region ?_
   refine vo_assign_pv rfl rfl ?_
   refine vo_nil ?_
   refine hK8 _ ?_
   refine vc_ret ?_
   change retPv _ _ _ _ _
   refine retPv_mk rfl rfl rfl ⟨?_, rfl⟩
   refine (congrArg (fun b => [bo b]) (?_ : _ = _) : [bo _] = [bo _])
   refine bF fun h => ?_
   have h1 := h _ (getD_mem (show k < list.length by omega) 0)
   simp_all
  ·try simp only [zq0, zq1, zq2, zq3, zq4, zq5, zq6, zq7, zq8, zq9, zqa, zqb, zqc, zqd, zqe, zqf] at hc2
   refine vc_skip ?_
   refine hK6 _ ?_
   refine vc_region ?_
   refine vo_move_pv rfl rfl ?_
   refine vo_binI rfl rfl rfl rfl sd ?_
   refine vo_assign_pv rfl rfl ?_
   refine vo_nil ?_
   change againF _ _ _ _ _ _ _ _ _
   refine againF_mk rfl rfl rfl rfl rfl rfl ⟨_, ?_, k + 1, rfl, ?_, ?_, rfl⟩
   ·omega
   ·omega
   ·exact (all_take_succ (by omega) 0).2 ⟨hf, by simpa using hc2⟩
 ·try simp only [zq0, zq1, zq2, zq3, zq4, zq5, zq6, zq7, zq8, zq9, zqa, zqb, zqc, zqd, zqe, zqf] at hc1
  refine vc_exit ?_
  refine hK2 _ ?_
  refine vc_seq fun K9 hK9 => ?_
  refine vc_region ?_
  refine vo_assign_pv rfl rfl ?_
  refine vo_nil ?_
  refine hK9 _ ?_
  refine vc_ret ?_
  change retPv _ _ _ _ _
  refine retPv_mk rfl rfl rfl ⟨?_, rfl⟩
  refine (congrArg (fun b => [bo b]) (?_ : _ = _) : [bo _] = [bo _])
  rw [take_all (by omega)] at hf; exact bT hf


theorem specValidBases0_sat {nl0 : Option Bool} {bases : List (List Int)} (hbases : bases.length < 1000000000) (hlbases : ∀ l ∈ bases, l.length < 1000000000)  : SatAt Tryz.prog 112 [.pv false (.sl nl0 1 (bases.map ints))] [] (fun res rows => res = [bo (decide (VB bases))] ∧ rows = []) := by
 refine sat_entry (ts := [2]) Tryz.func112 rfl rfl (by decide) (Nat.le_of_ble_eq_true rfl) fun C hC => ?_
 rw [Tryz.ntmps112]
 replace hC : C.nb = 0 := hC
 refine vc_seq fun K1 hK1 => ?_
 refine vc_region ?_
 refine vo_assign_pv rfl rfl ?_
 refine vo_nil ?_
 refine hK1 _ ?_
 refine vc_seq fun K2 hK2 => ?_
 refine vc_seq fun K3 hK3 => ?_
 refine vc_region ?_
 refine vo_assign_pv rfl rfl ?_
 refine vo_nil ?_
 refine hK3 _ ?_
 refine vc_block ?_
 refine vc_stN ?_
 refine vc_loopF [0] [3] [.pv false (.sl nl0 1 (bases.map ints))] _ (fun mz vs => ∃ (k : Nat), mz = bases.length - k ∧ (k ≤ bases.length) ∧ (∀ i, i < k → RB0 (bases.getD i []) i) ∧ vs = [i64 k]) (bases.length) rfl rfl (le_len hC rfl) ⟨rfl, rfl, rfl⟩ ⟨0, rfl, Nat.zero_le _, (fun i h1 => by omega), rfl⟩ ?_
 rintro mz vs - ⟨k, rfl, hk, hf, rfl⟩
 refine vc_stN ?_
 refine vc_seq fun K4 hK4 => ?_
 refine vc_seq fun K5 hK5 => ?_
 refine vc_region ?_
 refine vo_move_pv rfl rfl ?_
 refine vo_move_pv rfl rfl ?_
 refine vo_len_pv rfl rfl Tryz.underlying22 ?_
 refine vo_binI rfl rfl rfl rfl trivial ?_
 refine vo_nil ?_
 refine hK5 _ ?_
 refine vc_cond rfl (fun hc1 => ?_) (fun hc1 => ?_)
 ·try simp only [zq0, zq1, zq2, zq3, zq4, zq5, zq6, zq7, zq8, zq9, zqa, zqb, zqc, zqd, zqe, zqf] at hc1
  refine vc_skip ?_
  refine hK4 _ ?_
  refine vc_seq fun K6 hK6 => ?_
  refine vc_block ?_
  refine vc_seq fun K7 hK7 => ?_
  refine vc_region ?_
  refine vo_move_pv rfl rfl ?_
  refine vo_move_pv rfl rfl ?_
  refine vo_index_pv (.sl none 1 []) rfl rfl rfl E22.und inf28 sz28 sd sd ?_
  simp only [Int.toNat_natCast, Int.toNat_zero, getD_ints, getD_intss, getD_bools, getD_bytes, PV.cells]
  refine vo_load_adr rfl rfl Tryz.underlying28 rfl ?_
  refine vo_len_pv rfl rfl Tryz.underlying28 ?_
  refine vo_binI rfl rfl rfl rfl trivial ?_
  refine vo_move_pv rfl rfl ?_
  refine vo_binI rfl rfl rfl rfl trivial ?_
  refine vo_binB rfl rfl rfl rfl Tryz.underlying4 ?_
  refine vo_move_pv rfl rfl ?_
  refine vo_split 19 rfl (fun hg2 => ?_) (fun hg2 => ?_)
  ·try simp only [zq0, zq1, zq2, zq3, zq4, zq5, zq6, zq7, zq8, zq9, zqa, zqb, zqc, zqd, zqe, zqf] at hg2
   rw [Bool.eq_iff_iff, beq_iff_eq, beq_iff_eq] at hg2
   refine vo_guard_off rfl rfl rfl rfl rfl ?_
   refine vo_guard_off rfl rfl rfl rfl rfl ?_
   refine vo_guard_off rfl rfl rfl rfl rfl ?_
   refine vo_guard_off rfl rfl rfl rfl rfl ?_
   refine vo_guard_off rfl rfl rfl rfl rfl ?_
   refine vo_guard_off rfl rfl rfl rfl rfl ?_
   refine vo_pick_t rfl rfl ?_
   refine vo_move_pv rfl rfl ?_
   refine vo_guard_off rfl rfl rfl rfl rfl ?_
   refine vo_guard_off rfl rfl rfl rfl rfl ?_
   refine vo_guard_off rfl rfl rfl rfl rfl ?_
   refine vo_guard_off rfl rfl rfl rfl rfl ?_
   refine vo_guard_off rfl rfl rfl rfl rfl ?_
   refine vo_guard_off rfl rfl rfl rfl rfl ?_
   refine vo_pick_t rfl rfl ?_
   refine vo_move_pv rfl rfl ?_
   refine vo_guard_off rfl rfl rfl rfl rfl ?_
   refine vo_guard_off rfl rfl rfl rfl rfl ?_
   refine vo_guard_off rfl rfl rfl rfl rfl ?_
   refine vo_guard_off rfl rfl rfl rfl rfl ?_
   refine vo_guard_off rfl rfl rfl rfl rfl ?_
   refine vo_guard_off rfl rfl rfl rfl rfl ?_
   refine vo_guard_off rfl rfl rfl rfl rfl ?_
   refine vo_guard_off rfl rfl rfl rfl rfl ?_
   refine vo_pick_t rfl rfl ?_
   refine vo_nil ?_
   refine hK7 _ ?_
   refine vc_cond_t rfl ?_
   refine vc_seq fun K8 hK8 => ?_
   refine vc_region ?_
   refine vo_assign_pv rfl rfl ?_
   refine vo_nil ?_
   refine hK8 _ ?_
   refine vc_ret ?_
   change retPv _ _ _ _ _
   refine retPv_mk rfl rfl rfl ⟨?_, rfl⟩
   refine (congrArg (fun b => [bo b]) (?_ : _ = _) : [bo _] = [bo _])
   exact bF fun h => by have := (((vb_iff _).1 h).2 k (by omega)).1; omega
  ·try simp only [zq0, zq1, zq2, zq3, zq4, zq5, zq6, zq7, zq8, zq9, zqa, zqb, zqc, zqd, zqe, zqf] at hg2
   rw [Bool.eq_iff_iff, beq_iff_eq, beq_iff_eq] at hg2
   refine vo_guard_on rfl rfl rfl ?_
   refine vo_move_pv rfl rfl ?_
   refine vo_guard_on rfl rfl rfl ?_
   refine vo_move_pv rfl rfl ?_
   refine vo_guard_on rfl rfl rfl ?_
   refine vo_index_pv (.sl none 1 []) rfl rfl rfl E22.und inf28 sz28 sd sd ?_
   simp only [Int.toNat_natCast, Int.toNat_zero, getD_ints, getD_intss, getD_bools, getD_bytes, PV.cells]
   refine vo_guard_on rfl rfl rfl ?_
   refine vo_load_adr rfl rfl Tryz.underlying28 rfl ?_
   refine vo_guard_on rfl rfl rfl ?_
   refine vo_len_pv rfl rfl Tryz.underlying28 ?_
   refine vo_guard_on rfl rfl rfl ?_
   refine vo_binI rfl rfl rfl rfl trivial ?_
   refine vo_pick_f rfl rfl ?_
   refine vo_move_pv rfl rfl ?_
   refine vo_split 27 rfl (fun hg3 => ?_) (fun hg3 => ?_)
   ·try simp only [zq0, zq1, zq2, zq3, zq4, zq5, zq6, zq7, zq8, zq9, zqa, zqb, zqc, zqd, zqe, zqf] at hg3
    refine vo_guard_off rfl rfl rfl rfl rfl ?_
    refine vo_guard_off rfl rfl rfl rfl rfl ?_
    refine vo_guard_off rfl rfl rfl rfl rfl ?_
    refine vo_guard_off rfl rfl rfl rfl rfl ?_
    refine vo_guard_off rfl rfl rfl rfl rfl ?_
    refine vo_guard_off rfl rfl rfl rfl rfl ?_
    refine vo_pick_t rfl rfl ?_
    refine vo_move_pv rfl rfl ?_
    refine vo_guard_off rfl rfl rfl rfl rfl ?_
    refine vo_guard_off rfl rfl rfl rfl rfl ?_
    refine vo_guard_off rfl rfl rfl rfl rfl ?_
    refine vo_guard_off rfl rfl rfl rfl rfl ?_
    refine vo_guard_off rfl rfl rfl rfl rfl ?_
    refine vo_guard_off rfl rfl rfl rfl rfl ?_
    refine vo_guard_off rfl rfl rfl rfl rfl ?_
    refine vo_guard_off rfl rfl rfl rfl rfl ?_
    refine vo_pick_t rfl rfl ?_
    refine vo_nil ?_
    refine hK7 _ ?_
    refine vc_cond_t rfl ?_
    refine vc_seq fun K9 hK9 => ?_
    refine vc_region ?_
    refine vo_assign_pv rfl rfl ?_
    refine vo_nil ?_
    refine hK9 _ ?_
    refine vc_ret ?_
    change retPv _ _ _ _ _
    refine retPv_mk rfl rfl rfl ⟨?_, rfl⟩
    refine (congrArg (fun b => [bo b]) (?_ : _ = _) : [bo _] = [bo _])
    exact bF fun h => by have := (((vb_iff _).1 h).2 k (by omega)).2.1; omega
   ·try simp only [zq0, zq1, zq2, zq3, zq4, zq5, zq6, zq7, zq8, zq9, zqa, zqb, zqc, zqd, zqe, zqf] at hg3
    refine vo_guard_on rfl rfl rfl ?_
    refine vo_move_pv rfl rfl ?_
    refine vo_guard_on rfl rfl rfl ?_
    refine vo_move_pv rfl rfl ?_
    refine vo_guard_on rfl rfl rfl ?_
    refine vo_index_pv (.sl none 1 []) rfl rfl rfl E22.und inf28 sz28 sd sd ?_
    simp only [Int.toNat_natCast, Int.toNat_zero, getD_ints, getD_intss, getD_bools, getD_bytes, PV.cells]
    refine vo_guard_on rfl rfl rfl ?_
    refine vo_load_adr rfl rfl Tryz.underlying28 rfl ?_
    refine vo_guard_on rfl rfl rfl ?_
    refine vo_call0 Tryz.func135 rfl rfl rfl rfl (different_sat (lens hlbases _ (by omega))) ?_
    rintro _ _ ⟨rfl, rfl⟩
    refine ⟨rfl, rfl, .inl rfl, ?_⟩
    refine vo_guard_on rfl rfl rfl ?_
    refine vo_not rfl rfl ?_
    refine vo_pick_f rfl rfl ?_
    refine vo_move_pv rfl rfl ?_
    refine vo_split 35 rfl (fun hg4 => ?_) (fun hg4 => ?_)
    ·try simp only [zq0, zq1, zq2, zq3, zq4, zq5, zq6, zq7, zq8, zq9, zqa, zqb, zqc, zqd, zqe, zqf] at hg4
     refine vo_guard_off rfl rfl rfl rfl rfl ?_
     refine vo_guard_off rfl rfl rfl rfl rfl ?_
     refine vo_guard_off rfl rfl rfl rfl rfl ?_
     refine vo_guard_off rfl rfl rfl rfl rfl ?_
     refine vo_guard_off rfl rfl rfl rfl rfl ?_
     refine vo_guard_off rfl rfl rfl rfl rfl ?_
     refine vo_guard_off rfl rfl rfl rfl rfl ?_
     refine vo_guard_off rfl rfl rfl rfl rfl ?_
     refine vo_pick_t rfl rfl ?_
     refine vo_nil ?_
     refine hK7 _ ?_
     refine vc_cond_t rfl ?_
     refine vc_seq fun K10 hK10 => ?_
     refine vc_region ?_
     refine vo_assign_pv rfl rfl ?_
     refine vo_nil ?_
     refine hK10 _ ?_
     refine vc_ret ?_
     change retPv _ _ _ _ _
     refine retPv_mk rfl rfl rfl ⟨?_, rfl⟩
     refine (congrArg (fun b => [bo b]) (?_ : _ = _) : [bo _] = [bo _])
     exact bF fun h => hg4 (((vb_iff _).1 h).2 k (by omega)).2.2.1
    ·try simp only [zq0, zq1, zq2, zq3, zq4, zq5, zq6, zq7, zq8, zq9, zqa, zqb, zqc, zqd, zqe, zqf] at hg4
     refine vo_guard_on rfl rfl rfl ?_
     refine vo_move_pv rfl rfl ?_
     refine vo_guard_on rfl rfl rfl ?_
     refine vo_move_pv rfl rfl ?_
     refine vo_guard_on rfl rfl rfl ?_
     refine vo_index_pv (.sl none 1 []) rfl rfl rfl E22.und inf28 sz28 sd sd ?_
     simp only [Int.toNat_natCast, Int.toNat_zero, getD_ints, getD_intss, getD_bools, getD_bytes, PV.cells]
     refine vo_guard_on rfl rfl rfl ?_
     refine vo_load_adr rfl rfl Tryz.underlying28 rfl ?_
     refine vo_guard_on rfl rfl rfl ?_
     refine vo_move_pv rfl rfl ?_
     refine vo_guard_on rfl rfl rfl ?_
     refine vo_binI rfl rfl rfl rfl sd ?_
     refine vo_guard_on rfl rfl rfl ?_
     refine vo_call0 Tryz.func136 rfl rfl rfl rfl (allIn_sat (lens hlbases _ (by omega))) ?_
     rintro _ _ ⟨rfl, rfl⟩
     refine ⟨rfl, rfl, .inl rfl, ?_⟩
     refine vo_guard_on rfl rfl rfl ?_
     refine vo_not rfl rfl ?_
     refine vo_pick_f rfl rfl ?_
     refine vo_nil ?_
     refine hK7 _ ?_
     refine vc_cond rfl (fun hc5 => ?_) (fun hc5 => ?_)
     ·try simp only [zq0, zq1, zq2, zq3, zq4, zq5, zq6, zq7, zq8, zq9, zqa, zqb, zqc, zqd, zqe, zqf] at hc5
      refine vc_seq fun K11 hK11 => ?_
      refine vc_region ?_
      refine vo_assign_pv rfl rfl ?_
      refine vo_nil ?_
      refine hK11 _ ?_
      refine vc_ret ?_
      change retPv _ _ _ _ _
      refine retPv_mk rfl rfl rfl ⟨?_, rfl⟩
      refine (congrArg (fun b => [bo b]) (?_ : _ = _) : [bo _] = [bo _])
      exact bF fun h => hc5 (((vb_iff _).1 h).2 k (by omega)).2.2.2
     ·try simp only [zq0, zq1, zq2, zq3, zq4, zq5, zq6, zq7, zq8, zq9, zqa, zqb, zqc, zqd, zqe, zqf] at hc5
      refine vc_skip ?_
      refine hK6 _ ?_
      refine vc_region ?_
      refine vo_move_pv rfl rfl ?_
      refine vo_binI rfl rfl rfl rfl sd ?_
      refine vo_assign_pv rfl rfl ?_
      refine vo_nil ?_
      change againF _ _ _ _ _ _ _ _ _
      refine againF_mk rfl rfl rfl rfl rfl rfl ⟨_, ?_, k + 1, rfl, ?_, ?_, rfl⟩
      ·omega
      ·omega
      ·intro i hi; rcases Nat.lt_or_ge i k with h1 | h1; exact hf i h1; rw [show i = k by omega]; exact ⟨by omega, by omega, hg4, hc5⟩
 ·try simp only [zq0, zq1, zq2, zq3, zq4, zq5, zq6, zq7, zq8, zq9, zqa, zqb, zqc, zqd, zqe, zqf] at hc1
  refine vc_exit ?_
  refine hK2 _ ?_
  refine vc_seq fun K12 hK12 => ?_
  refine vc_region ?_
  refine vo_move_pv rfl rfl ?_
  refine vo_len_pv rfl rfl Tryz.underlying22 ?_
  refine vo_call0 Tryz.func47 rfl rfl rfl rfl inRange_sat ?_
  rintro _ _ ⟨rfl, rfl⟩
  refine ⟨rfl, rfl, .inl rfl, ?_⟩
  refine vo_assign_pv rfl rfl ?_
  refine vo_nil ?_
  refine hK12 _ ?_
  refine vc_ret ?_
  change retPv _ _ _ _ _
  refine retPv_mk rfl rfl rfl ⟨?_, rfl⟩
  refine (congrArg (fun b => [bo b]) (?_ : _ = _) : [bo _] = [bo _])
  exact decide_eq_decide.2 ⟨fun h => (vb_iff _).2 ⟨by simp at h; omega, fun i hi => hf i (by omega)⟩, fun h => by have := ((vb_iff _).1 h).1; simp; omega⟩


theorem Index_sat {nl0 : Option Bool} {s : List Int} {v : Int} (hs : s.length < 1000000000)  : SatAt Tryz.prog 100 [.pv false (.sl nl0 1 (s.map intP)), i64 v] [] (fun res rows => res = [i64 (findM v s 0)] ∧ rows = []) := by
 refine sat_entry (ts := [4]) Tryz.func100 rfl rfl (by decide) (Nat.le_of_ble_eq_true rfl) fun C hC => ?_
 rw [Tryz.ntmps100]
 replace hC : C.nb = 0 := hC
 refine vc_seq fun K1 hK1 => ?_
 refine vc_region ?_
 refine vo_assign_pv rfl rfl ?_
 refine vo_nil ?_
 refine hK1 _ ?_
 refine vc_seq fun K2 hK2 => ?_
 refine vc_seq fun K3 hK3 => ?_
 refine vc_region ?_
 refine vo_move_pv rfl rfl ?_
 refine vo_len_pv rfl rfl Tryz.underlying28 ?_
 refine vo_move_pv rfl rfl ?_
 refine vo_nil ?_
 refine hK3 _ ?_
 refine vc_block ?_
 refine vc_stN ?_
 refine vc_loopF [0, 1, 7] [8] [.pv false (.sl nl0 1 (s.map intP)), i64 v, i64 (s.map intP).length] _ (fun mz vs => ∃ (k : Nat), mz = s.length - k ∧ (k ≤ s.length) ∧ (findM v s 0 = findM v (s.drop k) k) ∧ vs = [i64 k]) (s.length) rfl rfl (le_len hC rfl) ⟨rfl, rfl, rfl⟩ ⟨0, rfl, Nat.zero_le _, rfl, rfl⟩ ?_
 rintro mz vs - ⟨k, rfl, hk, hf, rfl⟩
 refine vc_stN ?_
 refine vc_seq fun K4 hK4 => ?_
 refine vc_region ?_
 refine vo_binI rfl rfl rfl rfl trivial ?_
 refine vo_nil ?_
 refine hK4 _ ?_
 refine vc_seq fun K5 hK5 => ?_
 refine vc_cond rfl (fun hc1 => ?_) (fun hc1 => ?_)
 ·try simp only [zq0, zq1, zq2, zq3, zq4, zq5, zq6, zq7, zq8, zq9, zqa, zqb, zqc, zqd, zqe, zqf] at hc1
  refine vc_skip ?_
  refine hK5 _ ?_
  refine vc_seq fun K6 hK6 => ?_
  refine vc_block ?_
  refine vc_seq fun K7 hK7 => ?_
  refine vc_region ?_
  refine vo_move_pv rfl rfl ?_
  refine vo_assign_pv rfl rfl ?_
  refine vo_nil ?_
  refine hK7 _ ?_
  refine vc_seq fun K8 hK8 => ?_
  refine vc_region ?_
  refine vo_move_pv rfl rfl ?_
  refine vo_move_pv rfl rfl ?_
  refine vo_move_pv rfl rfl ?_
  refine vo_index_pv (.int .i64 0) rfl rfl rfl E28.und inf3 sz3 sd sd ?_
  simp only [Int.toNat_natCast, Int.toNat_zero, getD_ints, getD_intss, getD_bools, getD_bytes, PV.cells]
  refine vo_load_adr rfl rfl Tryz.underlying3 rfl ?_
  refine vo_binI rfl rfl rfl rfl trivial ?_
  refine vo_nil ?_
  refine hK8 _ ?_
  refine vc_cond rfl (fun hc2 => ?_) (fun hc2 => ?_)
  ·try simp only [zq0, zq1, zq2, zq3, zq4, zq5, zq6, zq7, zq8, zq9, zqa, zqb, zqc, zqd, zqe, zqf] at hc2
   refine vc_seq fun K9 hK9 => ?_
   refine vc_region ?_
   refine vo_move_pv rfl rfl ?_
   refine vo_assign_pv rfl rfl ?_
   refine vo_nil ?_
   refine hK9 _ ?_
   refine vc_ret ?_
   change retPv _ _ _ _ _
   refine retPv_mk rfl rfl rfl ⟨?_, rfl⟩
   refine (congrArg (fun b => [i64 b]) (?_ : _ = _) : [i64 _] = [i64 _])
   rw [hf, findM_drop _ _ _ (by omega), if_pos (by omega)]
  ·try simp only [zq0, zq1, zq2, zq3, zq4, zq5, zq6, zq7, zq8, zq9, zqa, zqb, zqc, zqd, zqe, zqf] at hc2
   refine vc_skip ?_
   refine hK6 _ ?_
   refine vc_region ?_
   refine vo_binI rfl rfl rfl rfl sd ?_
   refine vo_move_pv rfl rfl ?_
   refine vo_nil ?_
   change againF _ _ _ _ _ _ _ _ _
   refine againF_mk rfl rfl rfl rfl rfl rfl ⟨_, ?_, k + 1, rfl, ?_, ?_, rfl⟩
   ·omega
   ·omega
   ·rw [hf, findM_drop _ _ _ (by omega), if_neg (by omega)]; rfl
 ·try simp only [zq0, zq1, zq2, zq3, zq4, zq5, zq6, zq7, zq8, zq9, zqa, zqb, zqc, zqd, zqe, zqf] at hc1
  refine vc_exit ?_
  refine hK2 _ ?_
  refine vc_seq fun K10 hK10 => ?_
  refine vc_region ?_
  refine vo_assign_pv rfl rfl ?_
  refine vo_nil ?_
  refine hK10 _ ?_
  refine vc_ret ?_
  change retPv _ _ _ _ _
  refine retPv_mk rfl rfl rfl ⟨?_, rfl⟩
  refine (congrArg (fun b => [i64 b]) (?_ : _ = _) : [i64 _] = [i64 _])
  rw [hf, show k = s.length by omega, List.drop_length]; rfl


theorem Contains_sat {nl0 : Option Bool} {s : List Int} {v : Int} (hs : s.length < 1000000000)  : SatAt Tryz.prog 132 [.pv false (.sl nl0 1 (s.map intP)), i64 v] [] (fun res rows => res = [bo (decide (v ∈ s))] ∧ rows = []) := by
 refine sat_entry (ts := [4]) Tryz.func132 rfl rfl (by decide) (Nat.le_of_ble_eq_true rfl) fun C hC => ?_
 rw [Tryz.ntmps132]
 replace hC : C.nb = 0 := hC
 refine vc_seq fun K1 hK1 => ?_
 refine vc_region ?_
 refine vo_assign_pv rfl rfl ?_
 refine vo_nil ?_
 refine hK1 _ ?_
 refine vc_seq fun K2 hK2 => ?_
 refine vc_region ?_
 refine vo_move_pv rfl rfl ?_
 refine vo_move_pv rfl rfl ?_
 refine vo_call0 Tryz.func100 rfl rfl rfl rfl (Index_sat hs) ?_
 rintro _ _ ⟨rfl, rfl⟩
 refine ⟨rfl, rfl, .inl rfl, ?_⟩
 refine vo_binI rfl rfl rfl rfl trivial ?_
 refine vo_assign_pv rfl rfl ?_
 refine vo_nil ?_
 refine hK2 _ ?_
 refine vc_ret ?_
 change retPv _ _ _ _ _
 refine retPv_mk rfl rfl rfl ⟨?_, rfl⟩
 refine (congrArg (fun b => [bo b]) (?_ : _ = _) : [bo _] = [bo _])
 exact decide_eq_decide.2 (findM_mem _ _ _ (by omega))


theorem isList_sat {nl0 : Option Bool} {list : List Int} {most : Int} (hlist : list.length < 1000000000)  : SatAt Tryz.prog 106 [.pv false (.sl nl0 1 (list.map intP)), i64 most] [] (fun res rows => res = [bo (decide (OKL list most))] ∧ rows = []) := by
 refine sat_entry (ts := [4]) Tryz.func106 rfl rfl (by decide) (Nat.le_of_ble_eq_true rfl) fun C hC => ?_
 rw [Tryz.ntmps106]
 replace hC : C.nb = 0 := hC
 refine vc_seq fun K1 hK1 => ?_
 refine vc_region ?_
 refine vo_assign_pv rfl rfl ?_
 refine vo_nil ?_
 refine hK1 _ ?_
 refine vc_seq fun K2 hK2 => ?_
 refine vc_seq fun K3 hK3 => ?_
 refine vc_region ?_
 refine vo_move_pv rfl rfl ?_
 refine vo_len_pv rfl rfl Tryz.underlying28 ?_
 refine vo_move_pv rfl rfl ?_
 refine vo_binI rfl rfl rfl rfl trivial ?_
 refine vo_nil ?_
 refine hK3 _ ?_
 refine vc_cond rfl (fun hc1 => ?_) (fun hc1 => ?_)
 ·try simp only [zq0, zq1, zq2, zq3, zq4, zq5, zq6, zq7, zq8, zq9, zqa, zqb, zqc, zqd, zqe, zqf] at hc1
  refine vc_seq fun K4 hK4 => ?_
  refine vc_region ?_
  refine vo_assign_pv rfl rfl ?_
  refine vo_nil ?_
  refine hK4 _ ?_
  refine vc_ret ?_
  change retPv _ _ _ _ _
  refine retPv_mk rfl rfl rfl ⟨?_, rfl⟩
  refine (congrArg (fun b => [bo b]) (?_ : _ = _) : [bo _] = [bo _])
  exact bF fun h => by have := h.1; omega
 ·try simp only [zq0, zq1, zq2, zq3, zq4, zq5, zq6, zq7, zq8, zq9, zqa, zqb, zqc, zqd, zqe, zqf] at hc1
  refine vc_skip ?_
  refine hK2 _ ?_
  refine vc_seq fun K5 hK5 => ?_
  refine vc_seq fun K6 hK6 => ?_
  refine vc_region ?_
  refine vo_move_pv rfl rfl ?_
  refine vo_len_pv rfl rfl Tryz.underlying28 ?_
  refine vo_move_pv rfl rfl ?_
  refine vo_nil ?_
  refine hK6 _ ?_
  refine vc_block ?_
  refine vc_stN ?_
  refine vc_loopF [0, 11, 12] [13] [.pv false (.sl nl0 1 (list.map intP)), .pv false (.sl nl0 1 (list.map intP)), i64 (list.map intP).length] _ (fun mz vs => ∃ (k : Nat), mz = list.length - k ∧ (k ≤ list.length) ∧ ((list.take k).Nodup) ∧ vs = [i64 k]) (list.length) rfl rfl (le_len hC rfl) ⟨rfl, rfl, rfl⟩ ⟨0, rfl, Nat.zero_le _, List.nodup_nil, rfl⟩ ?_
  rintro mz vs - ⟨k, rfl, hk, hf, rfl⟩
  refine vc_stN ?_
  refine vc_seq fun K7 hK7 => ?_
  refine vc_region ?_
  refine vo_binI rfl rfl rfl rfl trivial ?_
  refine vo_nil ?_
  refine hK7 _ ?_
  refine vc_seq fun K8 hK8 => ?_
  refine vc_cond rfl (fun hc2 => ?_) (fun hc2 => ?_)
  ·try simp only [zq0, zq1, zq2, zq3, zq4, zq5, zq6, zq7, zq8, zq9, zqa, zqb, zqc, zqd, zqe, zqf] at hc2
   refine vc_skip ?_
   refine hK8 _ ?_
   refine vc_seq fun K9 hK9 => ?_
   refine vc_block ?_
   refine vc_seq fun K10 hK10 => ?_
   refine vc_region ?_
   refine vo_move_pv rfl rfl ?_
   refine vo_index_pv (.int .i64 0) rfl rfl rfl E28.und inf3 sz3 sd sd ?_
   simp only [Int.toNat_natCast, Int.toNat_zero, getD_ints, getD_intss, getD_bools, getD_bytes, PV.cells]
   refine vo_load_adr rfl rfl Tryz.underlying3 rfl ?_
   refine vo_assign_pv rfl rfl ?_
   refine vo_assign_pv rfl rfl ?_
   refine vo_nil ?_
   refine hK10 _ ?_
   refine vc_seq fun K11 hK11 => ?_
   refine vc_region ?_
   refine vo_move_pv rfl rfl ?_
   refine vo_move_pv rfl rfl ?_
   refine vo_slice_pv rfl rfl rfl rfl E28.und inf3 sz3 sd sd sd ?_
   simp only [Int.toNat_natCast, Int.toNat_zero, List.drop_zero, Nat.sub_zero, ← List.map_drop, ← List.map_take]
   refine vo_move_pv rfl rfl ?_
   refine vo_call0 Tryz.func132 rfl rfl rfl rfl (Contains_sat (by simp; omega)) ?_
   rintro _ _ ⟨rfl, rfl⟩
   refine ⟨rfl, rfl, .inl rfl, ?_⟩
   refine vo_nil ?_
   refine hK11 _ ?_
   refine vc_cond rfl (fun hc3 => ?_) (fun hc3 => ?_)
   ·try simp only [zq0, zq1, zq2, zq3, zq4, zq5, zq6, zq7, zq8, zq9, zqa, zqb, zqc, zqd, zqe, zqf] at hc3
    refine vc_seq fun K12 hK12 => ?_
    refine vc_region ?_
    refine vo_assign_pv rfl rfl ?_
    refine vo_nil ?_
    refine hK12 _ ?_
    refine vc_ret ?_
    change retPv _ _ _ _ _
    refine retPv_mk rfl rfl rfl ⟨?_, rfl⟩
    refine (congrArg (fun b => [bo b]) (?_ : _ = _) : [bo _] = [bo _])
    exact bF fun h => ((nodup_take_succ (by omega) 0).1 (nodup_take (k+1) h.2)).2 hc3
   ·try simp only [zq0, zq1, zq2, zq3, zq4, zq5, zq6, zq7, zq8, zq9, zqa, zqb, zqc, zqd, zqe, zqf] at hc3
    refine vc_skip ?_
    refine hK9 _ ?_
    refine vc_region ?_
    refine vo_binI rfl rfl rfl rfl sd ?_
    refine vo_move_pv rfl rfl ?_
    refine vo_nil ?_
    change againF _ _ _ _ _ _ _ _ _
    refine againF_mk rfl rfl rfl rfl rfl rfl ⟨_, ?_, k + 1, rfl, ?_, ?_, rfl⟩
    ·omega
    ·omega
    ·exact (nodup_take_succ (by omega) 0).2 ⟨hf, hc3⟩
  ·try simp only [zq0, zq1, zq2, zq3, zq4, zq5, zq6, zq7, zq8, zq9, zqa, zqb, zqc, zqd, zqe, zqf] at hc2
   refine vc_exit ?_
   refine hK5 _ ?_
   refine vc_seq fun K13 hK13 => ?_
   refine vc_region ?_
   refine vo_assign_pv rfl rfl ?_
   refine vo_nil ?_
   refine hK13 _ ?_
   refine vc_ret ?_
   change retPv _ _ _ _ _
   refine retPv_mk rfl rfl rfl ⟨?_, rfl⟩
   refine (congrArg (fun b => [bo b]) (?_ : _ = _) : [bo _] = [bo _])
   rw [take_all (by omega)] at hf; exact bT ⟨by omega, hf⟩


theorem isUpTo_sat {n : Int} {most : Int}   : SatAt Tryz.prog 70 [i64 n, i64 most] [] (fun res rows => res = [bo (decide (0 ≤ n ∧ n ≤ most))] ∧ rows = []) := by
 refine sat_entry (ts := [4]) Tryz.func70 rfl rfl (by decide) (Nat.le_of_ble_eq_true rfl) fun C hC => ?_
 rw [Tryz.ntmps70]
 replace hC : C.nb = 0 := hC
 refine vc_seq fun K1 hK1 => ?_
 refine vc_region ?_
 refine vo_assign_pv rfl rfl ?_
 refine vo_nil ?_
 refine hK1 _ ?_
 refine vc_seq fun K2 hK2 => ?_
 refine vc_region ?_
 refine vo_move_pv rfl rfl ?_
 refine vo_binI rfl rfl rfl rfl trivial ?_
 refine vo_move_pv rfl rfl ?_
 refine vo_split 7 rfl (fun hg1 => ?_) (fun hg1 => ?_)
 ·try simp only [zq0, zq1, zq2, zq3, zq4, zq5, zq6, zq7, zq8, zq9, zqa, zqb, zqc, zqd, zqe, zqf] at hg1
  refine vo_guard_on rfl rfl rfl ?_
  refine vo_move_pv rfl rfl ?_
  refine vo_guard_on rfl rfl rfl ?_
  refine vo_move_pv rfl rfl ?_
  refine vo_guard_on rfl rfl rfl ?_
  refine vo_binI rfl rfl rfl rfl trivial ?_
  refine vo_pick_t rfl rfl ?_
  refine vo_assign_pv rfl rfl ?_
  refine vo_nil ?_
  refine hK2 _ ?_
  refine vc_ret ?_
  change retPv _ _ _ _ _
  refine retPv_mk rfl rfl rfl ⟨?_, rfl⟩
  refine (congrArg (fun b => [bo b]) (?_ : _ = _) : [bo _] = [bo _])
  simp_all <;> omega
 ·try simp only [zq0, zq1, zq2, zq3, zq4, zq5, zq6, zq7, zq8, zq9, zqa, zqb, zqc, zqd, zqe, zqf] at hg1
  refine vo_guard_off rfl rfl rfl rfl rfl ?_
  refine vo_guard_off rfl rfl rfl rfl rfl ?_
  refine vo_guard_off rfl rfl rfl rfl rfl ?_
  refine vo_pick_f rfl rfl ?_
  refine vo_assign_pv rfl rfl ?_
  refine vo_nil ?_
  refine hK2 _ ?_
  refine vc_ret ?_
  change retPv _ _ _ _ _
  refine retPv_mk rfl rfl rfl ⟨?_, rfl⟩
  refine (congrArg (fun b => [bo b]) (?_ : _ = _) : [bo _] = [bo _])
  simp_all <;> omega


theorem areUpTo_sat {nl0 : Option Bool} {list : List Int} {most : Int} (hlist : list.length < 1000000000)  : SatAt Tryz.prog 151 [.pv false (.sl nl0 1 (list.map intP)), i64 most] [] (fun res rows => res = [bo (decide (∀ x ∈ list, 0 ≤ x ∧ x ≤ most))] ∧ rows = []) := by
 refine sat_entry (ts := [4]) Tryz.func151 rfl rfl (by decide) (Nat.le_of_ble_eq_true rfl) fun C hC => ?_
 rw [Tryz.ntmps151]
 replace hC : C.nb = 0 := hC
 refine vc_seq fun K1 hK1 => ?_
 refine vc_region ?_
 refine vo_assign_pv rfl rfl ?_
 refine vo_nil ?_
 refine hK1 _ ?_
 refine vc_seq fun K2 hK2 => ?_
 refine vc_seq fun K3 hK3 => ?_
 refine vc_region ?_
 refine vo_move_pv rfl rfl ?_
 refine vo_len_pv rfl rfl Tryz.underlying28 ?_
 refine vo_move_pv rfl rfl ?_
 refine vo_nil ?_
 refine hK3 _ ?_
 refine vc_block ?_
 refine vc_stN ?_
 refine vc_loopF [1, 7, 8] [9] [i64 most, .pv false (.sl nl0 1 (list.map intP)), i64 (list.map intP).length] _ (fun mz vs => ∃ (k : Nat), mz = list.length - k ∧ (k ≤ list.length) ∧ (∀ x ∈ list.take k, 0 ≤ x ∧ x ≤ most) ∧ vs = [i64 k]) (list.length) rfl rfl (le_len hC rfl) ⟨rfl, rfl, rfl⟩ ⟨0, rfl, Nat.zero_le _, (by simp), rfl⟩ ?_
 rintro mz vs - ⟨k, rfl, hk, hf, rfl⟩
 refine vc_stN ?_
 refine vc_seq fun K4 hK4 => ?_
 refine vc_region ?_
 refine vo_binI rfl rfl rfl rfl trivial ?_
 refine vo_nil ?_
 refine hK4 _ ?_
 refine vc_seq fun K5 hK5 => ?_
 refine vc_cond rfl (fun hc1 => ?_) (fun hc1 => ?_)
 ·try simp only [zq0, zq1, zq2, zq3, zq4, zq5, zq6, zq7, zq8, zq9, zqa, zqb, zqc, zqd, zqe, zqf] at hc1
  refine vc_skip ?_
  refine hK5 _ ?_
  refine vc_seq fun K6 hK6 => ?_
  refine vc_block ?_
  refine vc_seq fun K7 hK7 => ?_
  refine vc_region ?_
  refine vo_index_pv (.int .i64 0) rfl rfl rfl E28.und inf3 sz3 sd sd ?_
  simp only [Int.toNat_natCast, Int.toNat_zero, getD_ints, getD_intss, getD_bools, getD_bytes, PV.cells]
  refine vo_load_adr rfl rfl Tryz.underlying3 rfl ?_
  refine vo_assign_pv rfl rfl ?_
  refine vo_nil ?_
  refine hK7 _ ?_
  refine vc_seq fun K8 hK8 => ?_
  refine vc_region ?_
  refine vo_move_pv rfl rfl ?_
  refine vo_move_pv rfl rfl ?_
  refine vo_call0 Tryz.func70 rfl rfl rfl rfl isUpTo_sat ?_
  rintro _ _ ⟨rfl, rfl⟩
  refine ⟨rfl, rfl, .inl rfl, ?_⟩
  refine vo_not rfl rfl ?_
  refine vo_nil ?_
  refine hK8 _ ?_
  refine vc_cond rfl (fun hc2 => ?_) (fun hc2 => ?_)
  ·try simp only [zq0, zq1, zq2, zq3, zq4, zq5, zq6, zq7, zq8, zq9, zqa, zqb, zqc, zqd, zqe, zqf] at hc2
   refine vc_seq fun K9 hK9 => ?_
   refine vc_region ?_
   refine vo_assign_pv rfl rfl ?_
   refine vo_nil ?_
   refine hK9 _ ?_
   refine vc_ret ?_
   change retPv _ _ _ _ _
   refine retPv_mk rfl rfl rfl ⟨?_, rfl⟩
   refine (congrArg (fun b => [bo b]) (?_ : _ = _) : [bo _] = [bo _])
   exact bF fun h => by have := h _ (getD_mem (show k < list.length by omega) 0); first | contradiction | omega
  ·try simp only [zq0, zq1, zq2, zq3, zq4, zq5, zq6, zq7, zq8, zq9, zqa, zqb, zqc, zqd, zqe, zqf] at hc2
   refine vc_skip ?_
   refine hK6 _ ?_
   refine vc_region ?_
   refine vo_binI rfl rfl rfl rfl sd ?_
   refine vo_move_pv rfl rfl ?_
   refine vo_nil ?_
   change againF _ _ _ _ _ _ _ _ _
   refine againF_mk rfl rfl rfl rfl rfl rfl ⟨_, ?_, k + 1, rfl, ?_, ?_, rfl⟩
   ·omega
   ·omega
   ·exact (all_take_succ (by omega) 0).2 ⟨hf, by first | assumption | omega⟩
 ·try simp only [zq0, zq1, zq2, zq3, zq4, zq5, zq6, zq7, zq8, zq9, zqa, zqb, zqc, zqd, zqe, zqf] at hc1
  refine vc_exit ?_
  refine hK2 _ ?_
  refine vc_seq fun K10 hK10 => ?_
  refine vc_region ?_
  refine vo_assign_pv rfl rfl ?_
  refine vo_nil ?_
  refine hK10 _ ?_
  refine vc_ret ?_
  change retPv _ _ _ _ _
  refine retPv_mk rfl rfl rfl ⟨?_, rfl⟩
  refine (congrArg (fun b => [bo b]) (?_ : _ = _) : [bo _] = [bo _])
  rw [take_all (by omega)] at hf; exact bT hf


theorem canBeBases_sat {nl0 : Option Bool} {list : List Int} {c : Int} (hlist : list.length < 1000000000) (hc : -1000000 < c ∧ c < 1000000) : SatAt Tryz.prog 131 [.pv false (.sl nl0 1 (list.map intP)), i64 c] [] (fun res rows => res = [bo (decide (CB list c))] ∧ rows = []) := by
 refine sat_entry (ts := [4]) Tryz.func131 rfl rfl (by decide) (Nat.le_of_ble_eq_true rfl) fun C hC => ?_
 rw [Tryz.ntmps131]
 replace hC : C.nb = 0 := hC
 refine vc_seq fun K1 hK1 => ?_
 refine vc_region ?_
 refine vo_assign_pv rfl rfl ?_
 refine vo_nil ?_
 refine hK1 _ ?_
 refine vc_seq fun K2 hK2 => ?_
 refine vc_region ?_
 refine vo_move_pv rfl rfl ?_
 refine vo_len_pv rfl rfl Tryz.underlying28 ?_
 refine vo_binI rfl rfl rfl rfl trivial ?_
 refine vo_move_pv rfl rfl ?_
 refine vo_split 8 rfl (fun hg1 => ?_) (fun hg1 => ?_)
 ·try simp only [zq0, zq1, zq2, zq3, zq4, zq5, zq6, zq7, zq8, zq9, zqa, zqb, zqc, zqd, zqe, zqf] at hg1
  refine vo_guard_on rfl rfl rfl ?_
  refine vo_move_pv rfl rfl ?_
  refine vo_guard_on rfl rfl rfl ?_
  refine vo_call0 Tryz.func106 rfl rfl rfl rfl (isList_sat hlist) ?_
  rintro _ _ ⟨rfl, rfl⟩
  refine ⟨rfl, rfl, .inl rfl, ?_⟩
  refine vo_pick_t rfl rfl ?_
  refine vo_move_pv rfl rfl ?_
  refine vo_split 12 rfl (fun hg2 => ?_) (fun hg2 => ?_)
  ·try simp only [zq0, zq1, zq2, zq3, zq4, zq5, zq6, zq7, zq8, zq9, zqa, zqb, zqc, zqd, zqe, zqf] at hg2
   refine vo_guard_on rfl rfl rfl ?_
   refine vo_move_pv rfl rfl ?_
   refine vo_guard_on rfl rfl rfl ?_
   refine vo_move_pv rfl rfl ?_
   refine vo_guard_on rfl rfl rfl ?_
   refine vo_binI rfl rfl rfl rfl sd ?_
   refine vo_guard_on rfl rfl rfl ?_
   refine vo_call0 Tryz.func151 rfl rfl rfl rfl (areUpTo_sat hlist) ?_
   rintro _ _ ⟨rfl, rfl⟩
   refine ⟨rfl, rfl, .inl rfl, ?_⟩
   refine vo_pick_t rfl rfl ?_
   refine vo_assign_pv rfl rfl ?_
   refine vo_nil ?_
   refine hK2 _ ?_
   refine vc_ret ?_
   change retPv _ _ _ _ _
   refine retPv_mk rfl rfl rfl ⟨?_, rfl⟩
   refine (congrArg (fun b => [bo b]) (?_ : _ = _) : [bo _] = [bo _])
   exact decide_eq_decide.2 ⟨fun h => ⟨fun e => by simp [e] at hg1, by have := hg2.1; omega, hg2.2, h⟩, fun h => h.2.2.2⟩
  ·try simp only [zq0, zq1, zq2, zq3, zq4, zq5, zq6, zq7, zq8, zq9, zqa, zqb, zqc, zqd, zqe, zqf] at hg2
   refine vo_guard_off rfl rfl rfl rfl rfl ?_
   refine vo_guard_off rfl rfl rfl rfl rfl ?_
   refine vo_guard_off rfl rfl rfl rfl rfl ?_
   refine vo_guard_off rfl rfl rfl rfl rfl ?_
   refine vo_pick_f rfl rfl ?_
   refine vo_assign_pv rfl rfl ?_
   refine vo_nil ?_
   refine hK2 _ ?_
   refine vc_ret ?_
   change retPv _ _ _ _ _
   refine retPv_mk rfl rfl rfl ⟨?_, rfl⟩
   refine (congrArg (fun b => [bo b]) (?_ : _ = _) : [bo _] = [bo _])
   exact bF fun h => hg2 ⟨by have := h.2.1; omega, h.2.2.1⟩
 ·try simp only [zq0, zq1, zq2, zq3, zq4, zq5, zq6, zq7, zq8, zq9, zqa, zqb, zqc, zqd, zqe, zqf] at hg1
  refine vo_guard_off rfl rfl rfl rfl rfl ?_
  refine vo_guard_off rfl rfl rfl rfl rfl ?_
  refine vo_pick_f rfl rfl ?_
  refine vo_move_pv rfl rfl ?_
  refine vo_guard_off rfl rfl rfl rfl rfl ?_
  refine vo_guard_off rfl rfl rfl rfl rfl ?_
  refine vo_guard_off rfl rfl rfl rfl rfl ?_
  refine vo_guard_off rfl rfl rfl rfl rfl ?_
  refine vo_pick_f rfl rfl ?_
  refine vo_assign_pv rfl rfl ?_
  refine vo_nil ?_
  refine hK2 _ ?_
  refine vc_ret ?_
  change retPv _ _ _ _ _
  refine retPv_mk rfl rfl rfl ⟨?_, rfl⟩
  refine (congrArg (fun b => [bo b]) (?_ : _ = _) : [bo _] = [bo _])
  exact bF fun h => h.1 (List.length_eq_zero_iff.1 (by omega))


theorem implValidBases_sat {nl0 : Option Bool} {bases : List (List Int)} (hbases : bases.length < 1000000000) (hlbases : ∀ l ∈ bases, l.length < 1000000000)  : SatAt Tryz.prog 105 [.pv false (.sl nl0 1 (bases.map ints))] [] (fun res rows => res = [bo (decide (VB bases))] ∧ rows = []) := by
 refine sat_entry (ts := [2]) Tryz.func105 rfl rfl (by decide) (Nat.le_of_ble_eq_true rfl) fun C hC => ?_
 rw [Tryz.ntmps105]
 replace hC : C.nb = 0 := hC
 refine vc_seq fun K1 hK1 => ?_
 refine vc_region ?_
 refine vo_assign_pv rfl rfl ?_
 refine vo_nil ?_
 refine hK1 _ ?_
 refine vc_seq fun K2 hK2 => ?_
 refine vc_seq fun K3 hK3 => ?_
 refine vc_region ?_
 refine vo_move_pv rfl rfl ?_
 refine vo_len_pv rfl rfl Tryz.underlying22 ?_
 refine vo_binI rfl rfl rfl rfl trivial ?_
 refine vo_move_pv rfl rfl ?_
 refine vo_split 7 rfl (fun hg1 => ?_) (fun hg1 => ?_)
 ·try simp only [zq0, zq1, zq2, zq3, zq4, zq5, zq6, zq7, zq8, zq9, zqa, zqb, zqc, zqd, zqe, zqf] at hg1
  refine vo_guard_off rfl rfl rfl rfl rfl ?_
  refine vo_guard_off rfl rfl rfl rfl rfl ?_
  refine vo_guard_off rfl rfl rfl rfl rfl ?_
  refine vo_pick_t rfl rfl ?_
  refine vo_move_pv rfl rfl ?_
  refine vo_guard_off rfl rfl rfl rfl rfl ?_
  refine vo_guard_off rfl rfl rfl rfl rfl ?_
  refine vo_guard_off rfl rfl rfl rfl rfl ?_
  refine vo_guard_off rfl rfl rfl rfl rfl ?_
  refine vo_guard_off rfl rfl rfl rfl rfl ?_
  refine vo_pick_t rfl rfl ?_
  refine vo_nil ?_
  refine hK3 _ ?_
  refine vc_cond_t rfl ?_
  refine vc_seq fun K4 hK4 => ?_
  refine vc_region ?_
  refine vo_assign_pv rfl rfl ?_
  refine vo_nil ?_
  refine hK4 _ ?_
  refine vc_ret ?_
  change retPv _ _ _ _ _
  refine retPv_mk rfl rfl rfl ⟨?_, rfl⟩
  refine (congrArg (fun b => [bo b]) (?_ : _ = _) : [bo _] = [bo _])
  exact bF fun h => by have := h.1; omega
 ·try simp only [zq0, zq1, zq2, zq3, zq4, zq5, zq6, zq7, zq8, zq9, zqa, zqb, zqc, zqd, zqe, zqf] at hg1
  refine vo_guard_on rfl rfl rfl ?_
  refine vo_move_pv rfl rfl ?_
  refine vo_guard_on rfl rfl rfl ?_
  refine vo_len_pv rfl rfl Tryz.underlying22 ?_
  refine vo_guard_on rfl rfl rfl ?_
  refine vo_binI rfl rfl rfl rfl trivial ?_
  refine vo_pick_f rfl rfl ?_
  refine vo_move_pv rfl rfl ?_
  refine vo_split 12 rfl (fun hg2 => ?_) (fun hg2 => ?_)
  ·try simp only [zq0, zq1, zq2, zq3, zq4, zq5, zq6, zq7, zq8, zq9, zqa, zqb, zqc, zqd, zqe, zqf] at hg2
   refine vo_guard_off rfl rfl rfl rfl rfl ?_
   refine vo_guard_off rfl rfl rfl rfl rfl ?_
   refine vo_guard_off rfl rfl rfl rfl rfl ?_
   refine vo_guard_off rfl rfl rfl rfl rfl ?_
   refine vo_guard_off rfl rfl rfl rfl rfl ?_
   refine vo_pick_t rfl rfl ?_
   refine vo_nil ?_
   refine hK3 _ ?_
   refine vc_cond_t rfl ?_
   refine vc_seq fun K5 hK5 => ?_
   refine vc_region ?_
   refine vo_assign_pv rfl rfl ?_
   refine vo_nil ?_
   refine hK5 _ ?_
   refine vc_ret ?_
   change retPv _ _ _ _ _
   refine retPv_mk rfl rfl rfl ⟨?_, rfl⟩
   refine (congrArg (fun b => [bo b]) (?_ : _ = _) : [bo _] = [bo _])
   exact bF fun h => by have := h.2.1; omega
  ·try simp only [zq0, zq1, zq2, zq3, zq4, zq5, zq6, zq7, zq8, zq9, zqa, zqb, zqc, zqd, zqe, zqf] at hg2
   refine vo_guard_on rfl rfl rfl ?_
   refine vo_move_pv rfl rfl ?_
   refine vo_guard_on rfl rfl rfl ?_
   refine vo_index_pv (.sl none 1 []) rfl rfl rfl E22.und inf28 sz28 sd sd ?_
   simp only [Int.toNat_natCast, Int.toNat_zero, getD_ints, getD_intss, getD_bools, getD_bytes, PV.cells]
   refine vo_guard_on rfl rfl rfl ?_
   refine vo_load_adr rfl rfl Tryz.underlying28 rfl ?_
   refine vo_guard_on rfl rfl rfl ?_
   refine vo_len_pv rfl rfl Tryz.underlying28 ?_
   refine vo_guard_on rfl rfl rfl ?_
   refine vo_binI rfl rfl rfl rfl trivial ?_
   refine vo_pick_f rfl rfl ?_
   refine vo_nil ?_
   refine hK3 _ ?_
   refine vc_cond rfl (fun hc3 => ?_) (fun hc3 => ?_)
   ·try simp only [zq0, zq1, zq2, zq3, zq4, zq5, zq6, zq7, zq8, zq9, zqa, zqb, zqc, zqd, zqe, zqf] at hc3
    refine vc_seq fun K6 hK6 => ?_
    refine vc_region ?_
    refine vo_assign_pv rfl rfl ?_
    refine vo_nil ?_
    refine hK6 _ ?_
    refine vc_ret ?_
    change retPv _ _ _ _ _
    refine retPv_mk rfl rfl rfl ⟨?_, rfl⟩
    refine (congrArg (fun b => [bo b]) (?_ : _ = _) : [bo _] = [bo _])
    exact bF fun h => by rw [h.2.2.1] at hc3; simp at hc3
   ·try simp only [zq0, zq1, zq2, zq3, zq4, zq5, zq6, zq7, zq8, zq9, zqa, zqb, zqc, zqd, zqe, zqf] at hc3
    refine vc_skip ?_
    refine hK2 _ ?_
    refine vc_seq fun K7 hK7 => ?_
    refine vc_seq fun K8 hK8 => ?_
    refine vc_region ?_
    refine vo_assign_pv rfl rfl ?_
    refine vo_nil ?_
    refine hK8 _ ?_
    refine vc_block ?_
    refine vc_stN ?_
    refine vc_loopF [0] [3] [.pv false (.sl nl0 1 (bases.map ints))] _ (fun mz vs => ∃ (k : Nat), mz = bases.length - k ∧ (k ≤ bases.length) ∧ (1 ≤ k) ∧ ((∀ i, i < k → 0 < i → CB (bases.getD i []) i)) ∧ vs = [i64 k]) (bases.length - 1) rfl rfl (le_len hC rfl) ⟨rfl, rfl, rfl⟩ ⟨1, rfl, by omega, Nat.le_refl _, (fun i h1 h2 => by omega), rfl⟩ ?_
    rintro mz vs - ⟨k, rfl, hk, h1, hf, rfl⟩
    refine vc_stN ?_
    refine vc_seq fun K9 hK9 => ?_
    refine vc_seq fun K10 hK10 => ?_
    refine vc_region ?_
    refine vo_move_pv rfl rfl ?_
    refine vo_move_pv rfl rfl ?_
    refine vo_len_pv rfl rfl Tryz.underlying22 ?_
    refine vo_binI rfl rfl rfl rfl trivial ?_
    refine vo_nil ?_
    refine hK10 _ ?_
    refine vc_cond rfl (fun hc4 => ?_) (fun hc4 => ?_)
    ·try simp only [zq0, zq1, zq2, zq3, zq4, zq5, zq6, zq7, zq8, zq9, zqa, zqb, zqc, zqd, zqe, zqf] at hc4
     refine vc_skip ?_
     refine hK9 _ ?_
     refine vc_seq fun K11 hK11 => ?_
     refine vc_block ?_
     refine vc_seq fun K12 hK12 => ?_
     refine vc_region ?_
     refine vo_move_pv rfl rfl ?_
     refine vo_move_pv rfl rfl ?_
     refine vo_index_pv (.sl none 1 []) rfl rfl rfl E22.und inf28 sz28 sd sd ?_
     simp only [Int.toNat_natCast, Int.toNat_zero, getD_ints, getD_intss, getD_bools, getD_bytes, PV.cells]
     refine vo_load_adr rfl rfl Tryz.underlying28 rfl ?_
     refine vo_move_pv rfl rfl ?_
     refine vo_call0 Tryz.func131 rfl rfl rfl rfl (canBeBases_sat (lens hlbases _ (by omega)) (by omega)) ?_
     rintro _ _ ⟨rfl, rfl⟩
     refine ⟨rfl, rfl, .inl rfl, ?_⟩
     refine vo_not rfl rfl ?_
     refine vo_nil ?_
     refine hK12 _ ?_
     refine vc_cond rfl (fun hc5 => ?_) (fun hc5 => ?_)
     ·try simp only [zq0, zq1, zq2, zq3, zq4, zq5, zq6, zq7, zq8, zq9, zqa, zqb, zqc, zqd, zqe, zqf] at hc5
      refine vc_seq fun K13 hK13 => ?_
      refine vc_region ?_
      refine vo_assign_pv rfl rfl ?_
      refine vo_nil ?_
      refine hK13 _ ?_
      refine vc_ret ?_
      change retPv _ _ _ _ _
      refine retPv_mk rfl rfl rfl ⟨?_, rfl⟩
      refine (congrArg (fun b => [bo b]) (?_ : _ = _) : [bo _] = [bo _])
      exact bF fun h => hc5 (h.2.2.2 k (by omega) (by omega))
     ·try simp only [zq0, zq1, zq2, zq3, zq4, zq5, zq6, zq7, zq8, zq9, zqa, zqb, zqc, zqd, zqe, zqf] at hc5
      refine vc_skip ?_
      refine hK11 _ ?_
      refine vc_region ?_
      refine vo_move_pv rfl rfl ?_
      refine vo_binI rfl rfl rfl rfl sd ?_
      refine vo_assign_pv rfl rfl ?_
      refine vo_nil ?_
      change againF _ _ _ _ _ _ _ _ _
      refine againF_mk rfl rfl rfl rfl rfl rfl ⟨_, ?_, k + 1, rfl, ?_, ?_, ?_, rfl⟩
      ·omega
      ·omega
      ·omega
      ·exact fun i h h0 => by rcases Nat.lt_or_ge i k with h1 | h1; exact hf i h1 h0; rwa [show i = k by omega]
    ·try simp only [zq0, zq1, zq2, zq3, zq4, zq5, zq6, zq7, zq8, zq9, zqa, zqb, zqc, zqd, zqe, zqf] at hc4
     refine vc_exit ?_
     refine hK7 _ ?_
     refine vc_seq fun K14 hK14 => ?_
     refine vc_region ?_
     refine vo_assign_pv rfl rfl ?_
     refine vo_nil ?_
     refine hK14 _ ?_
     refine vc_ret ?_
     change retPv _ _ _ _ _
     refine retPv_mk rfl rfl rfl ⟨?_, rfl⟩
     refine (congrArg (fun b => [bo b]) (?_ : _ = _) : [bo _] = [bo _])
     exact bT ⟨by omega, by omega, List.length_eq_zero_iff.1 (by omega), fun i h h0 => hf i (by omega) h0⟩

end Go.Vl

namespace Go.Vl
set_option linter.unusedVariables false
set_option linter.unusedSimpArgs false
open Go.Proofs

/-- The classes above a class; none where there is no such class. -/
def abvR (b : List (List Int)) (c : Int) : List Int := if VB b ∧ 0 ≤ c ∧ c < b.length then abvL b c.toNat else []
end Go.Vl

namespace Go.Vl
set_option linter.unusedVariables false
set_option linter.unusedSimpArgs false
open Go.Proofs

theorem row1_eq {el : TypeId} {e : Nat} {nl : Option Bool} {f : Bool} {xs ys : List PV} (h : xs = ys) : [Row.own el e nl f xs] = [Row.own el e nl f ys] := by rw [h]
theorem fill_set {α : Type} (f : α → PV) (a : List α) (k : Nat) (h : k < a.length) (d : α) (z : PV) : ((a.take k).map f ++ List.replicate (a.length - k) z).set k (f (a.getD k d)) = (a.take (k+1)).map f ++ List.replicate (a.length - (k+1)) z := by
  have e : a.getD k d = a[k] := by simp [List.getD, List.getElem?_eq_getElem h]
  rw [e, List.take_succ_eq_append_getElem h, List.map_append, List.set_append_right _ _ (by simp; omega), show a.length - k = (a.length - (k+1)) + 1 by omega, List.replicate_succ]
  simp [show min k a.length = k by omega]
theorem fill_set0 {α : Type} (a : List α) (k : Nat) (h : k < a.length) (d : α) (z : α) : ((a.take k) ++ List.replicate (a.length - k) z).set k (a.getD k d) = (a.take (k+1)) ++ List.replicate (a.length - (k+1)) z := by
  have e : a.getD k d = a[k] := by simp [List.getD, List.getElem?_eq_getElem h]
  rw [e, List.take_succ_eq_append_getElem h, List.set_append_right _ _ (by simp; omega), show a.length - k = (a.length - (k+1)) + 1 by omega, List.replicate_succ]
  simp [show min k a.length = k by omega]
  rw [List.take_succ_eq_append_getElem h, List.append_assoc]; rfl
theorem take_eq_succ {α : Type} {a b : List α} {k : Nat} (h : k < a.length) (h2 : k < b.length) (d : α) : a.take (k+1) = b.take (k+1) ↔ a.take k = b.take k ∧ a.getD k d = b.getD k d := by
  rw [List.take_succ_eq_append_getElem h, List.take_succ_eq_append_getElem h2]
  have e1 : a.getD k d = a[k] := by simp [List.getD, List.getElem?_eq_getElem h]
  have e2 : b.getD k d = b[k] := by simp [List.getD, List.getElem?_eq_getElem h2]
  rw [e1, e2]
  constructor
  · intro h3
    have := List.append_inj' h3 rfl
    exact ⟨this.1, by simpa using this.2⟩
  · rintro ⟨h3, h4⟩; rw [h3, h4]
theorem take_eq_of {α : Type} {a b : List α} (h : a = b) (k : Nat) : a.take k = b.take k := by rw [h]

theorem lens2 {b : List (List Int)} {N : Nat} (h : ∀ l ∈ b, l.length ≤ N) (k : Nat) : (b.getD k []).length ≤ N := by
  by_cases hk : k < b.length
  · exact h _ (getD_mem hk [])
  · simp [List.getD, List.getElem?_eq_none (by omega : b.length ≤ k)]

theorem eqIntS_sat {nl0 : Option Bool} {a : List Int} {nl1 : Option Bool} {b : List Int} (ha : a.length < 1000000000) (hb : b.length < 1000000000)  : SatAt Tryz.prog 14 [.pv false (.sl nl0 1 (a.map intP)), .pv false (.sl nl1 1 (b.map intP))] [] (fun res rows => res = [bo (decide (a = b))] ∧ rows = []) := by
 refine sat_entry (ts := [4]) Tryz.func14 rfl rfl (by decide) (Nat.le_of_ble_eq_true rfl) fun C hC => ?_
 rw [Tryz.ntmps14]
 replace hC : C.nb = 0 := hC
 refine vc_seq fun K1 hK1 => ?_
 refine vc_region ?_
 refine vo_assign_pv rfl rfl ?_
 refine vo_nil ?_
 refine hK1 _ ?_
 refine vc_seq fun K2 hK2 => ?_
 refine vc_seq fun K3 hK3 => ?_
 refine vc_region ?_
 refine vo_move_pv rfl rfl ?_
 refine vo_len_pv rfl rfl Tryz.underlying28 ?_
 refine vo_move_pv rfl rfl ?_
 refine vo_len_pv rfl rfl Tryz.underlying28 ?_
 refine vo_binI rfl rfl rfl rfl trivial ?_
 refine vo_nil ?_
 refine hK3 _ ?_
 refine vc_cond rfl (fun hc1 => ?_) (fun hc1 => ?_)
 ·try simp only [zq0, zq1, zq2, zq3, zq4, zq5, zq6, zq7, zq8, zq9, zqa, zqb, zqc, zqd, zqe, zqf] at hc1
  refine vc_seq fun K4 hK4 => ?_
  refine vc_region ?_
  refine vo_assign_pv rfl rfl ?_
  refine vo_nil ?_
  refine hK4 _ ?_
  refine vc_ret ?_
  change retPv _ _ _ _ _
  refine retPv_mk rfl rfl rfl ⟨?_, rfl⟩
  refine (congrArg (fun b => [bo b]) (?_ : _ = _) : [bo _] = [bo _])
  exact bF fun h => by subst h; omega
 ·try simp only [zq0, zq1, zq2, zq3, zq4, zq5, zq6, zq7, zq8, zq9, zqa, zqb, zqc, zqd, zqe, zqf] at hc1
  refine vc_skip ?_
  refine hK2 _ ?_
  refine vc_seq fun K5 hK5 => ?_
  refine vc_seq fun K6 hK6 => ?_
  refine vc_region ?_
  refine vo_assign_pv rfl rfl ?_
  refine vo_nil ?_
  refine hK6 _ ?_
  refine vc_block ?_
  refine vc_stN ?_
  refine vc_loopF [0, 1] [5] [.pv false (.sl nl0 1 (a.map intP)), .pv false (.sl nl1 1 (b.map intP))] _ (fun mz vs => ∃ (k : Nat), mz = a.length - k ∧ (k ≤ a.length) ∧ (a.take k = b.take k) ∧ vs = [i64 k]) (a.length) rfl rfl (le_len hC rfl) ⟨rfl, rfl, rfl⟩ ⟨0, rfl, Nat.zero_le _, rfl, rfl⟩ ?_
  rintro mz vs - ⟨k, rfl, hk, hf, rfl⟩
  refine vc_stN ?_
  refine vc_seq fun K7 hK7 => ?_
  refine vc_seq fun K8 hK8 => ?_
  refine vc_region ?_
  refine vo_move_pv rfl rfl ?_
  refine vo_move_pv rfl rfl ?_
  refine vo_len_pv rfl rfl Tryz.underlying28 ?_
  refine vo_binI rfl rfl rfl rfl trivial ?_
  refine vo_nil ?_
  refine hK8 _ ?_
  refine vc_cond rfl (fun hc2 => ?_) (fun hc2 => ?_)
  ·try simp only [zq0, zq1, zq2, zq3, zq4, zq5, zq6, zq7, zq8, zq9, zqa, zqb, zqc, zqd, zqe, zqf] at hc2
   refine vc_skip ?_
   refine hK7 _ ?_
   refine vc_seq fun K9 hK9 => ?_
   refine vc_block ?_
   refine vc_seq fun K10 hK10 => ?_
   refine vc_draw (by kernel_rfl) ?_
   change VD _ _ _ 9 _ _ _
   refine vd_light 0 rfl rfl rfl (by kernel_rfl) (by kernel_rfl) (by kernel_rfl) (wnt_none rfl) (lt_move_pv rfl) ?_
   refine vd_light 1 rfl rfl rfl (by kernel_rfl) (by kernel_rfl) (by kernel_rfl) (wnt_none rfl) (lt_move_pv rfl) ?_
   refine vd_light 2 rfl rfl rfl (by kernel_rfl) (by kernel_rfl) (by kernel_rfl) (wnt_none rfl) (lt_index_pv (.int .i64 0) rfl rfl E28.und inf3 sz3 sd sd) ?_
   simp only [Int.toNat_natCast, Int.toNat_zero, getD_ints, getD_intss, getD_bools, getD_bytes, PV.cells]
   refine vd_light 3 rfl rfl rfl (by kernel_rfl) (by kernel_rfl) (by kernel_rfl) (wnt_none rfl) (lt_load_adr rfl Tryz.underlying3 rfl) ?_
   refine vd_light 4 rfl rfl rfl (by kernel_rfl) (by kernel_rfl) (by kernel_rfl) (wnt_none rfl) (lt_move_pv rfl) ?_
   refine vd_light 5 rfl rfl rfl (by kernel_rfl) (by kernel_rfl) (by kernel_rfl) (wnt_none rfl) (lt_move_pv rfl) ?_
   refine vd_light 6 rfl rfl rfl (by kernel_rfl) (by kernel_rfl) (by kernel_rfl) (wnt_none rfl) (lt_index_pv (.int .i64 0) rfl rfl E28.und inf3 sz3 sd sd) ?_
   simp only [Int.toNat_natCast, Int.toNat_zero, getD_ints, getD_intss, getD_bools, getD_bytes, PV.cells]
   refine vd_light 7 rfl rfl rfl (by kernel_rfl) (by kernel_rfl) (by kernel_rfl) (wnt_none rfl) (lt_load_adr rfl Tryz.underlying3 rfl) ?_
   refine vd_light 8 rfl rfl rfl (by kernel_rfl) (by kernel_rfl) (by kernel_rfl) (wnt_none rfl) (lt_binI rfl rfl rfl trivial) ?_
   refine vd_nil (by kernel_rfl) ?_
   refine hK10 _ ?_
   refine vc_cond rfl (fun hc3 => ?_) (fun hc3 => ?_)
   ·try simp only [zq0, zq1, zq2, zq3, zq4, zq5, zq6, zq7, zq8, zq9, zqa, zqb, zqc, zqd, zqe, zqf] at hc3
    refine vc_seq fun K11 hK11 => ?_
    refine vc_region ?_
    refine vo_assign_pv rfl rfl ?_
    refine vo_nil ?_
    refine hK11 _ ?_
    refine vc_ret ?_
    change retPv _ _ _ _ _
    refine retPv_mk rfl rfl rfl ⟨?_, rfl⟩
    refine (congrArg (fun b => [bo b]) (?_ : _ = _) : [bo _] = [bo _])
    exact bF fun h => hc3 ((take_eq_succ (by omega) (by omega) 0).1 (take_eq_of h (k+1))).2
   ·try simp only [zq0, zq1, zq2, zq3, zq4, zq5, zq6, zq7, zq8, zq9, zqa, zqb, zqc, zqd, zqe, zqf] at hc3
    refine vc_skip ?_
    refine hK9 _ ?_
    refine vc_region ?_
    refine vo_move_pv rfl rfl ?_
    refine vo_binI rfl rfl rfl rfl sd ?_
    refine vo_assign_pv rfl rfl ?_
    refine vo_nil ?_
    change againF _ _ _ _ _ _ _ _ _
    refine againF_mk rfl rfl rfl rfl rfl rfl ⟨_, ?_, k + 1, rfl, ?_, ?_, rfl⟩
    ·omega
    ·omega
    ·exact (take_eq_succ (by omega) (by omega) 0).2 ⟨hf, hc3⟩
  ·try simp only [zq0, zq1, zq2, zq3, zq4, zq5, zq6, zq7, zq8, zq9, zqa, zqb, zqc, zqd, zqe, zqf] at hc2
   refine vc_exit ?_
   refine hK5 _ ?_
   refine vc_seq fun K12 hK12 => ?_
   refine vc_region ?_
   refine vo_assign_pv rfl rfl ?_
   refine vo_nil ?_
   refine hK12 _ ?_
   refine vc_ret ?_
   change retPv _ _ _ _ _
   refine retPv_mk rfl rfl rfl ⟨?_, rfl⟩
   refine (congrArg (fun b => [bo b]) (?_ : _ = _) : [bo _] = [bo _])
   rw [take_all (by omega), take_all (by omega)] at hf; exact bT hf


theorem eqIntSS_sat {nl0 : Option Bool} {a : List (List Int)} {nl1 : Option Bool} {b : List (List Int)} (ha : a.length < 1000000000) (hla : ∀ l ∈ a, l.length < 1000000000) (hb : b.length < 1000000000) (hlb : ∀ l ∈ b, l.length < 1000000000)  : SatAt Tryz.prog 41 [.pv false (.sl nl0 1 (a.map ints)), .pv false (.sl nl1 1 (b.map ints))] [] (fun res rows => res = [bo (decide (a = b))] ∧ rows = []) := by
 refine sat_entry (ts := [4]) Tryz.func41 rfl rfl (by decide) (Nat.le_of_ble_eq_true rfl) fun C hC => ?_
 rw [Tryz.ntmps41]
 replace hC : C.nb = 0 := hC
 refine vc_seq fun K1 hK1 => ?_
 refine vc_region ?_
 refine vo_assign_pv rfl rfl ?_
 refine vo_nil ?_
 refine hK1 _ ?_
 refine vc_seq fun K2 hK2 => ?_
 refine vc_seq fun K3 hK3 => ?_
 refine vc_region ?_
 refine vo_move_pv rfl rfl ?_
 refine vo_len_pv rfl rfl Tryz.underlying22 ?_
 refine vo_move_pv rfl rfl ?_
 refine vo_len_pv rfl rfl Tryz.underlying22 ?_
 refine vo_binI rfl rfl rfl rfl trivial ?_
 refine vo_nil ?_
 refine hK3 _ ?_
 refine vc_cond rfl (fun hc1 => ?_) (fun hc1 => ?_)
 ·try simp only [zq0, zq1, zq2, zq3, zq4, zq5, zq6, zq7, zq8, zq9, zqa, zqb, zqc, zqd, zqe, zqf] at hc1
  refine vc_seq fun K4 hK4 => ?_
  refine vc_region ?_
  refine vo_assign_pv rfl rfl ?_
  refine vo_nil ?_
  refine hK4 _ ?_
  refine vc_ret ?_
  change retPv _ _ _ _ _
  refine retPv_mk rfl rfl rfl ⟨?_, rfl⟩
  refine (congrArg (fun b => [bo b]) (?_ : _ = _) : [bo _] = [bo _])
  exact bF fun h => by subst h; omega
 ·try simp only [zq0, zq1, zq2, zq3, zq4, zq5, zq6, zq7, zq8, zq9, zqa, zqb, zqc, zqd, zqe, zqf] at hc1
  refine vc_skip ?_
  refine hK2 _ ?_
  refine vc_seq fun K5 hK5 => ?_
  refine vc_seq fun K6 hK6 => ?_
  refine vc_region ?_
  refine vo_assign_pv rfl rfl ?_
  refine vo_nil ?_
  refine hK6 _ ?_
  refine vc_block ?_
  refine vc_stN ?_
  refine vc_loopF [0, 1] [5] [.pv false (.sl nl0 1 (a.map ints)), .pv false (.sl nl1 1 (b.map ints))] _ (fun mz vs => ∃ (k : Nat), mz = a.length - k ∧ (k ≤ a.length) ∧ (a.take k = b.take k) ∧ vs = [i64 k]) (a.length) rfl rfl (le_len hC rfl) ⟨rfl, rfl, rfl⟩ ⟨0, rfl, Nat.zero_le _, rfl, rfl⟩ ?_
  rintro mz vs - ⟨k, rfl, hk, hf, rfl⟩
  refine vc_stN ?_
  refine vc_seq fun K7 hK7 => ?_
  refine vc_seq fun K8 hK8 => ?_
  refine vc_region ?_
  refine vo_move_pv rfl rfl ?_
  refine vo_move_pv rfl rfl ?_
  refine vo_len_pv rfl rfl Tryz.underlying22 ?_
  refine vo_binI rfl rfl rfl rfl trivial ?_
  refine vo_nil ?_
  refine hK8 _ ?_
  refine vc_cond rfl (fun hc2 => ?_) (fun hc2 => ?_)
  ·try simp only [zq0, zq1, zq2, zq3, zq4, zq5, zq6, zq7, zq8, zq9, zqa, zqb, zqc, zqd, zqe, zqf] at hc2
   refine vc_skip ?_
   refine hK7 _ ?_
   refine vc_seq fun K9 hK9 => ?_
   refine vc_block ?_
   refine vc_seq fun K10 hK10 => ?_
   refine vc_draw (by kernel_rfl) ?_
   change VD _ _ _ 10 _ _ _
   refine vd_light 0 rfl rfl rfl (by kernel_rfl) (by kernel_rfl) (by kernel_rfl) (wnt_none rfl) (lt_move_pv rfl) ?_
   refine vd_light 1 rfl rfl rfl (by kernel_rfl) (by kernel_rfl) (by kernel_rfl) (wnt_none rfl) (lt_move_pv rfl) ?_
   refine vd_light 2 rfl rfl rfl (by kernel_rfl) (by kernel_rfl) (by kernel_rfl) (wnt_none rfl) (lt_index_pv (.sl none 1 []) rfl rfl E22.und inf28 sz28 sd sd) ?_
   simp only [Int.toNat_natCast, Int.toNat_zero, getD_ints, getD_intss, getD_bools, getD_bytes, PV.cells]
   refine vd_light 3 rfl rfl rfl (by kernel_rfl) (by kernel_rfl) (by kernel_rfl) (wnt_none rfl) (lt_load_adr rfl Tryz.underlying28 rfl) ?_
   refine vd_light 4 rfl rfl rfl (by kernel_rfl) (by kernel_rfl) (by kernel_rfl) (wnt_none rfl) (lt_move_pv rfl) ?_
   refine vd_light 5 rfl rfl rfl (by kernel_rfl) (by kernel_rfl) (by kernel_rfl) (wnt_none rfl) (lt_move_pv rfl) ?_
   refine vd_light 6 rfl rfl rfl (by kernel_rfl) (by kernel_rfl) (by kernel_rfl) (wnt_none rfl) (lt_index_pv (.sl none 1 []) rfl rfl E22.und inf28 sz28 sd sd) ?_
   simp only [Int.toNat_natCast, Int.toNat_zero, getD_ints, getD_intss, getD_bools, getD_bytes, PV.cells]
   refine vd_light 7 rfl rfl rfl (by kernel_rfl) (by kernel_rfl) (by kernel_rfl) (wnt_none rfl) (lt_load_adr rfl Tryz.underlying28 rfl) ?_
   refine vd_call 8 rfl (by kernel_rfl) (wnt_none rfl) Tryz.func14 rfl rfl rfl rfl (eqIntS_sat (lens hla _ (by omega)) (lens hlb _ (by omega))) ?_
   rintro _ _ ⟨rfl, rfl⟩
   refine ⟨rfl, rfl, .inl rfl, ?_⟩
   refine vd_light 9 rfl rfl rfl (by kernel_rfl) (by kernel_rfl) (by kernel_rfl) (wnt_none rfl) (lt_not rfl) ?_
   refine vd_nil (by kernel_rfl) ?_
   refine hK10 _ ?_
   refine vc_cond rfl (fun hc3 => ?_) (fun hc3 => ?_)
   ·try simp only [zq0, zq1, zq2, zq3, zq4, zq5, zq6, zq7, zq8, zq9, zqa, zqb, zqc, zqd, zqe, zqf] at hc3
    refine vc_seq fun K11 hK11 => ?_
    refine vc_region ?_
    refine vo_assign_pv rfl rfl ?_
    refine vo_nil ?_
    refine hK11 _ ?_
    refine vc_ret ?_
    change retPv _ _ _ _ _
    refine retPv_mk rfl rfl rfl ⟨?_, rfl⟩
    refine (congrArg (fun b => [bo b]) (?_ : _ = _) : [bo _] = [bo _])
    exact bF fun h => hc3 ((take_eq_succ (by omega) (by omega) []).1 (take_eq_of h (k+1))).2
   ·try simp only [zq0, zq1, zq2, zq3, zq4, zq5, zq6, zq7, zq8, zq9, zqa, zqb, zqc, zqd, zqe, zqf] at hc3
    refine vc_skip ?_
    refine hK9 _ ?_
    refine vc_region ?_
    refine vo_move_pv rfl rfl ?_
    refine vo_binI rfl rfl rfl rfl sd ?_
    refine vo_assign_pv rfl rfl ?_
    refine vo_nil ?_
    change againF _ _ _ _ _ _ _ _ _
    refine againF_mk rfl rfl rfl rfl rfl rfl ⟨_, ?_, k + 1, rfl, ?_, ?_, rfl⟩
    ·omega
    ·omega
    ·exact (take_eq_succ (by omega) (by omega) []).2 ⟨hf, hc3⟩
  ·try simp only [zq0, zq1, zq2, zq3, zq4, zq5, zq6, zq7, zq8, zq9, zqa, zqb, zqc, zqd, zqe, zqf] at hc2
   refine vc_exit ?_
   refine hK5 _ ?_
   refine vc_seq fun K12 hK12 => ?_
   refine vc_region ?_
   refine vo_assign_pv rfl rfl ?_
   refine vo_nil ?_
   refine hK12 _ ?_
   refine vc_ret ?_
   change retPv _ _ _ _ _
   refine retPv_mk rfl rfl rfl ⟨?_, rfl⟩
   refine (congrArg (fun b => [bo b]) (?_ : _ = _) : [bo _] = [bo _])
   rw [take_all (by omega), take_all (by omega)] at hf; exact bT hf


theorem toIntS_sat {nl : Option Bool} {a : List Int} (ha : a.length < 1000000000) : SatAt Tryz.prog 86 [.pv false (.sl nl 1 (a.map intP))] [] (fun res rows => res = [.ref 0] ∧ rows = [Row.own 3 1 (some false) true ((a).map intP)]) := by
 refine sat_entry_g (ts := [2]) Tryz.func86 rfl rfl (by decide) (Nat.le_of_ble_eq_true rfl) fun C hC => ?_
 rw [Tryz.ntmps86]
 replace hC : C.nb = 0 := hC
 refine vc_seq fun K1 hK1 => ?_
 refine vc_region ?_
 refine vo_assign_pv rfl rfl ?_
 refine vo_nil ?_
 refine hK1 _ ?_
 refine vc_seq fun K2 hK2 => ?_
 refine vc_region ?_
 refine vo_move_pv rfl rfl ?_
 refine vo_len_pv rfl rfl Tryz.underlying28 ?_
 refine vo_make E28 rfl rfl rfl sd sd sd ?_
 refine vo_assign_ref rfl rfl ?_
 refine vo_nil ?_
 refine hK2 _ ?_
 refine vc_seq fun K3 hK3 => ?_
 refine vc_seq fun K4 hK4 => ?_
 refine vc_region ?_
 refine vo_assign_pv rfl rfl ?_
 refine vo_nil ?_
 refine hK4 _ ?_
 refine vc_block ?_
 refine vc_stN ?_
 refine vc_loop [0, 3, 4] (fun mz vs rows => ∃ (k : Nat), mz = a.length - k ∧ (k ≤ a.length) ∧ vs = [.pv false (.sl nl 1 (a.map intP)), .ref 0, i64 k] ∧ rows = [Row.own 3 1 (some false) true ((a.take k ++ List.replicate (a.length - k) 0).map intP)]) (a.length) (le_len hC rfl) ⟨rfl, rfl⟩ ⟨0, rfl, Nat.zero_le _, rfl, (row1_eq (by simp))⟩ ?_
 rintro mz vs rows - - ⟨k, rfl, hk, rfl, rfl⟩
 refine vc_seq fun K5 hK5 => ?_
 refine vc_seq fun K6 hK6 => ?_
 refine vc_region ?_
 refine vo_move_pv rfl rfl ?_
 refine vo_move_pv rfl rfl ?_
 refine vo_len_pv rfl rfl Tryz.underlying28 ?_
 refine vo_binI rfl rfl rfl rfl trivial ?_
 refine vo_nil ?_
 refine hK6 _ ?_
 refine vc_cond rfl (fun hc1 => ?_) (fun hc1 => ?_)
 ·try simp only [zq0, zq1, zq2, zq3, zq4, zq5, zq6, zq7, zq8, zq9, zqa, zqb, zqc, zqd, zqe, zqf] at hc1
  refine vc_skip ?_
  refine hK5 _ ?_
  refine vc_seq fun K7 hK7 => ?_
  refine vc_block ?_
  refine vc_region ?_
  refine vo_move_ref rfl rfl ?_
  refine vo_move_pv rfl rfl ?_
  refine vo_move_pv rfl rfl ?_
  refine vo_move_pv rfl rfl ?_
  refine vo_index_pv (.int .i64 0) rfl rfl rfl E28.und inf3 sz3 sd sd ?_
  simp only [Int.toNat_natCast, Int.toNat_zero, getD_ints, getD_intss, getD_bools, getD_bytes, PV.cells]
  refine vo_load_adr rfl rfl Tryz.underlying3 rfl ?_
  refine vo_index_ref rfl rfl rfl rfl E28.und inf3 sz3 sd sd ?_
  try simp only [Int.toNat_natCast]
  refine vo_store_own rfl rfl rfl inf3 sz3 (by decide) rfl sd ?_
  try simp only [set_ints, set_intss, set_bools, rep_bools, rep_ints, Int.toNat_natCast, Int.toNat_zero]
  refine vo_nil ?_
  refine hK7 _ ?_
  refine vc_region ?_
  refine vo_move_pv rfl rfl ?_
  refine vo_binI rfl rfl rfl rfl sd ?_
  refine vo_assign_pv rfl rfl ?_
  refine vo_nil ?_
  change again _ _ _ _ _ _
  refine again_mk rfl rfl rfl rfl ⟨_, ?_, k + 1, rfl, ?_, rfl, (rows_eq (g := intP) (fill_set0 a k (by omega) 0 _))⟩
  ·omega
  ·omega
 ·try simp only [zq0, zq1, zq2, zq3, zq4, zq5, zq6, zq7, zq8, zq9, zqa, zqb, zqc, zqd, zqe, zqf] at hc1
  refine vc_exit ?_
  refine hK3 _ ?_
  refine vc_seq fun K8 hK8 => ?_
  refine vc_region ?_
  refine vo_move_ref rfl rfl ?_
  refine vo_assign_ref rfl rfl ?_
  refine vo_nil ?_
  refine hK8 _ ?_
  refine vc_ret ?_
  change retG _ _ _ _ _
  refine retG_one 0 hC rfl rfl rfl rfl rfl ?_
  exact ⟨rfl, rows_eq (g := intP) (by rw [take_all (by omega), show a.length - k = 0 by omega]; simp)⟩


theorem szIntS_sat {nl0 : Option Bool} {a : List Int} {left : Int}  (ha : a.length ≤ 9223372036854775807) (h0 : 0 ≤ left) (h1 : left ≤ 1048576) : SatAt Tryz.prog 80 [.pv false (.sl nl0 1 (a.map intP)), i64 left] [] (fun res rows => res = [i64 (if left - a.length < 0 then -1 else left - a.length)] ∧ rows = []) := by
 refine sat_entry (ts := [4]) Tryz.func80 rfl rfl (by decide) (Nat.le_of_ble_eq_true rfl) fun C hC => ?_
 rw [Tryz.ntmps80]
 replace hC : C.nb = 0 := hC
 refine vc_seq fun K1 hK1 => ?_
 refine vc_region ?_
 refine vo_assign_pv rfl rfl ?_
 refine vo_nil ?_
 refine hK1 _ ?_
 refine vc_seq fun K2 hK2 => ?_
 refine vc_region ?_
 refine vo_move_pv rfl rfl ?_
 refine vo_move_pv rfl rfl ?_
 refine vo_len_pv rfl rfl Tryz.underlying28 ?_
 refine vo_binI rfl rfl rfl rfl sd ?_
 refine vo_assign_pv rfl rfl ?_
 refine vo_nil ?_
 refine hK2 _ ?_
 refine vc_seq fun K3 hK3 => ?_
 refine vc_seq fun K4 hK4 => ?_
 refine vc_region ?_
 refine vo_move_pv rfl rfl ?_
 refine vo_binI rfl rfl rfl rfl trivial ?_
 refine vo_nil ?_
 refine hK4 _ ?_
 refine vc_cond rfl (fun hc1 => ?_) (fun hc1 => ?_)
 ·try simp only [zq0, zq1, zq2, zq3, zq4, zq5, zq6, zq7, zq8, zq9, zqa, zqb, zqc, zqd, zqe, zqf] at hc1
  refine vc_seq fun K5 hK5 => ?_
  refine vc_region ?_
  refine vo_assign_pv rfl rfl ?_
  refine vo_nil ?_
  refine hK5 _ ?_
  refine vc_ret ?_
  change retPv _ _ _ _ _
  refine retPv_mk rfl rfl rfl ⟨?_, rfl⟩
  refine (congrArg (fun b => [i64 b]) (?_ : _ = _) : [i64 _] = [i64 _])
  rw [if_pos (by omega)]
 ·try simp only [zq0, zq1, zq2, zq3, zq4, zq5, zq6, zq7, zq8, zq9, zqa, zqb, zqc, zqd, zqe, zqf] at hc1
  refine vc_skip ?_
  refine hK3 _ ?_
  refine vc_seq fun K6 hK6 => ?_
  refine vc_region ?_
  refine vo_move_pv rfl rfl ?_
  refine vo_assign_pv rfl rfl ?_
  refine vo_nil ?_
  refine hK6 _ ?_
  refine vc_ret ?_
  change retPv _ _ _ _ _
  refine retPv_mk rfl rfl rfl ⟨?_, rfl⟩
  refine (congrArg (fun b => [i64 b]) (?_ : _ = _) : [i64 _] = [i64 _])
  rw [if_neg (by omega)]; simp


theorem szIntSS_sat {nl : Option Bool} {a : List (List Int)} {left : Int} (ha : a.length ≤ 9223372036854775807) (hla : ∀ l ∈ a, l.length ≤ 9223372036854775807) (h0 : 0 ≤ left) (h1 : left ≤ 1048576) : SatAt Tryz.prog 33 [.pv false (.sl nl 1 (a.map ints)), i64 left] [] (fun res rows => ∃ v : Int, (v < 0 ∨ (v ≤ left ∧ (a.length : Int) ≤ left ∧ ∀ l ∈ a, (l.length : Int) ≤ left)) ∧ res = [i64 v] ∧ rows = []) := by
 refine sat_entry (ts := [4]) Tryz.func33 rfl rfl (by decide) (Nat.le_of_ble_eq_true rfl) fun C hC => ?_
 rw [Tryz.ntmps33]
 replace hC : C.nb = 0 := hC
 refine vc_seq fun K1 hK1 => ?_
 refine vc_region ?_
 refine vo_assign_pv rfl rfl ?_
 refine vo_nil ?_
 refine hK1 _ ?_
 refine vc_seq fun K2 hK2 => ?_
 refine vc_region ?_
 refine vo_move_pv rfl rfl ?_
 refine vo_move_pv rfl rfl ?_
 refine vo_len_pv rfl rfl Tryz.underlying22 ?_
 refine vo_binI rfl rfl rfl rfl sd ?_
 refine vo_assign_pv rfl rfl ?_
 refine vo_nil ?_
 refine hK2 _ ?_
 refine vc_seq fun K3 hK3 => ?_
 refine vc_seq fun K4 hK4 => ?_
 refine vc_region ?_
 refine vo_move_pv rfl rfl ?_
 refine vo_binI rfl rfl rfl rfl trivial ?_
 refine vo_nil ?_
 refine hK4 _ ?_
 refine vc_cond rfl (fun hc1 => ?_) (fun hc1 => ?_)
 ·try simp only [zq0, zq1, zq2, zq3, zq4, zq5, zq6, zq7, zq8, zq9, zqa, zqb, zqc, zqd, zqe, zqf] at hc1
  refine vc_seq fun K5 hK5 => ?_
  refine vc_region ?_
  refine vo_assign_pv rfl rfl ?_
  refine vo_nil ?_
  refine hK5 _ ?_
  refine vc_ret ?_
  change retPv _ _ _ _ _
  refine retPv_mk rfl rfl rfl ?_
  exact ⟨_, .inl (by omega), rfl, rfl⟩
 ·try simp only [zq0, zq1, zq2, zq3, zq4, zq5, zq6, zq7, zq8, zq9, zqa, zqb, zqc, zqd, zqe, zqf] at hc1
  refine vc_skip ?_
  refine hK3 _ ?_
  refine vc_seq fun K6 hK6 => ?_
  refine vc_seq fun K7 hK7 => ?_
  refine vc_region ?_
  refine vo_assign_pv rfl rfl ?_
  refine vo_nil ?_
  refine hK7 _ ?_
  refine vc_block ?_
  refine vc_stN ?_
  refine vc_loopF [0] [1, 5] [.pv false (.sl nl 1 (a.map ints))] _ (fun mz vs => ∃ (k : Nat) (y : Int), mz = a.length - k ∧ (k ≤ a.length) ∧ (0 ≤ y ∧ y ≤ left - a.length) ∧ (∀ l ∈ a.take k, (l.length : Int) ≤ left) ∧ vs = [i64 y, i64 k]) (a.length) rfl rfl (le_len hC rfl) ⟨rfl, rfl, rfl⟩ ⟨0, _, rfl, Nat.zero_le _, (by simp at *; omega), (by simp), rfl⟩ ?_
  rintro mz vs - ⟨k, y, rfl, hk, hy, hf, rfl⟩
  refine vc_stN ?_
  refine vc_seq fun K8 hK8 => ?_
  refine vc_seq fun K9 hK9 => ?_
  refine vc_region ?_
  refine vo_move_pv rfl rfl ?_
  refine vo_move_pv rfl rfl ?_
  refine vo_len_pv rfl rfl Tryz.underlying22 ?_
  refine vo_binI rfl rfl rfl rfl trivial ?_
  refine vo_nil ?_
  refine hK9 _ ?_
  refine vc_cond rfl (fun hc2 => ?_) (fun hc2 => ?_)
  ·try simp only [zq0, zq1, zq2, zq3, zq4, zq5, zq6, zq7, zq8, zq9, zqa, zqb, zqc, zqd, zqe, zqf] at hc2
   refine vc_skip ?_
   refine hK8 _ ?_
   refine vc_seq fun K10 hK10 => ?_
   refine vc_block ?_
   refine vc_seq fun K11 hK11 => ?_
   refine vc_region ?_
   refine vo_move_pv rfl rfl ?_
   refine vo_move_pv rfl rfl ?_
   refine vo_index_pv (.sl none 1 []) rfl rfl rfl E22.und inf28 sz28 sd sd ?_
   simp only [Int.toNat_natCast, Int.toNat_zero, getD_ints, getD_intss, getD_bools, getD_bytes, PV.cells]
   refine vo_load_adr rfl rfl Tryz.underlying28 rfl ?_
   refine vo_move_pv rfl rfl ?_
   refine vo_call0 Tryz.func80 rfl rfl rfl rfl (szIntS_sat (lens2 hla _) hy.1 (by omega)) ?_
   rintro _ _ ⟨rfl, rfl⟩
   refine ⟨rfl, rfl, .inl rfl, ?_⟩
   refine vo_assign_pv rfl rfl ?_
   refine vo_nil ?_
   refine hK11 _ ?_
   refine vc_seq fun K12 hK12 => ?_
   refine vc_region ?_
   refine vo_move_pv rfl rfl ?_
   refine vo_binI rfl rfl rfl rfl trivial ?_
   refine vo_nil ?_
   refine hK12 _ ?_
   refine vc_cond rfl (fun hc3 => ?_) (fun hc3 => ?_)
   ·try simp only [zq0, zq1, zq2, zq3, zq4, zq5, zq6, zq7, zq8, zq9, zqa, zqb, zqc, zqd, zqe, zqf] at hc3
    refine vc_seq fun K13 hK13 => ?_
    refine vc_region ?_
    refine vo_assign_pv rfl rfl ?_
    refine vo_nil ?_
    refine hK13 _ ?_
    refine vc_ret ?_
    change retPv _ _ _ _ _
    refine retPv_mk rfl rfl rfl ?_
    exact ⟨_, .inl (by omega), rfl, rfl⟩
   ·try simp only [zq0, zq1, zq2, zq3, zq4, zq5, zq6, zq7, zq8, zq9, zqa, zqb, zqc, zqd, zqe, zqf] at hc3
    refine vc_skip ?_
    refine hK10 _ ?_
    refine vc_region ?_
    refine vo_move_pv rfl rfl ?_
    refine vo_binI rfl rfl rfl rfl sd ?_
    refine vo_assign_pv rfl rfl ?_
    refine vo_nil ?_
    change againF _ _ _ _ _ _ _ _ _
    refine againF_mk rfl rfl rfl rfl rfl rfl ⟨_, ?_, k + 1, _, rfl, ?_, ?_, ?_, rfl⟩
    ·omega
    ·omega
    ·split at hc3 <;> (try split) <;> omega
    ·refine (all_take_succ (by omega) []).2 ⟨hf, ?_⟩; split at hc3 <;> omega
  ·try simp only [zq0, zq1, zq2, zq3, zq4, zq5, zq6, zq7, zq8, zq9, zqa, zqb, zqc, zqd, zqe, zqf] at hc2
   refine vc_exit ?_
   refine hK6 _ ?_
   refine vc_seq fun K14 hK14 => ?_
   refine vc_region ?_
   refine vo_move_pv rfl rfl ?_
   refine vo_assign_pv rfl rfl ?_
   refine vo_nil ?_
   refine hK14 _ ?_
   refine vc_ret ?_
   change retPv _ _ _ _ _
   refine retPv_mk rfl rfl rfl ?_
   exact ⟨_, .inr ⟨by omega, by omega, by rwa [take_all (by omega)] at hf⟩, rfl, rfl⟩

end Go.Vl

namespace Go.Vl
set_option linter.unusedVariables false
set_option linter.unusedSimpArgs false
open Go.Proofs

def belR (b : List (List Int)) (c : Int) : List Int := if VB b ∧ 0 ≤ c ∧ c < b.length then belL b c.toNat else []
def OKLs (ls : List (List Int)) : Prop := (∀ l ∈ ls, OKL l 12) ∧ ls.length ≤ 6
instance {ls : List (List Int)} : Decidable (OKLs ls) := by unfold OKLs; infer_instance
def KeepP (long short : List Int) : Prop := OKL long 12 ∧ OKL short 12 ∧ kpN short long 0 = short.length
instance {a b : List Int} : Decidable (KeepP a b) := by unfold KeepP; infer_instance
def OC (b s : List (List Int)) : Prop := VS b s ∧ ∀ j, j < s.length → ∀ i, i < j → (s.getD i []).length > 0 → (s.getD j []).length > 0 → (i : Int) ∈ abvL b j
noncomputable instance {a b : List (List Int)} : Decidable (OC a b) := Classical.propDecidable _
end Go.Vl

namespace Go.Vl
set_option linter.unusedVariables false
set_option linter.unusedSimpArgs false
open Go.Proofs

theorem VB.take {b : List (List Int)} {k : Nat} (h : VB b) (h1 : 1 ≤ k) (h2 : k ≤ b.length) : VB (b.take k) := by
  obtain ⟨a1, a2, a3, a4⟩ := h
  have e : ∀ i, i < k → (b.take k).getD i [] = b.getD i [] := fun i hi => by simp [List.getD, List.getElem?_take, hi]
  have l : (b.take k).length = k := by rw [List.length_take]; omega
  exact ⟨by omega, by omega, by rw [e 0 (by omega)]; exact a3, fun i hi h0 => by rw [e i (by omega)]; exact a4 i (by omega) h0⟩
theorem set_lens {B : List (List Int)} {l : List Int} {i N : Nat} (h : ∀ x ∈ B, x.length ≤ N) (hl : l.length ≤ N) : ∀ x ∈ B.set i l, x.length ≤ N := by
  intro x hx
  rcases List.mem_or_eq_of_mem_set hx with hx | rfl
  · exact h x hx
  · exact hl
end Go.Vl

/- From a function's contract to the row of a law over bytes. -/
namespace Go.Vl
set_option linter.unusedVariables false
set_option linter.unusedSimpArgs false
open Go.RowKit Go.WideShapes

/-- What is known of bytes that come in. -/
def BytesAt (w : World) (a0 : Option Addr) (len cap : Nat) : Prop :=
  (a0 = none ∧ len = 0 ∧ cap = 0) ∨ ∃ (x : Addr) (zs : List Int), a0 = some x ∧ x.spot = none ∧ x.block < w.heap.size ∧ len ≤ cap ∧ zs.length = cap ∧
    (∀ i, i < zs.length → w.cell? (x.add i) = some (.int .u8 (zs.getD i 0))) ∧ ∀ n ∈ zs, (Lit.int .u8 n).wf = true

end Go.Vl

/- From a function's contract to the row of a law over lists of numbers, and numbers. -/
namespace Go.Vl
set_option linter.unusedVariables false
set_option linter.unusedSimpArgs false
open Go.RowKit Go.WideShapes Go.ChangeShapes

/-- The setting of a law's call. -/
def C0 (w : World) : Ctx := ⟨w, fun b => b < w.heap.size, 0, fun _ => default⟩
def G0 (w : World) : Bool → Nat → Prop := Gd (C0 w) [] (fun _ => default) w
theorem G0_of {w : World} {b : Nat} (h : b < w.heap.size) : G0 w false b := by
  refine ⟨h, ?_, fun _ => .inl h, fun e => by cases e⟩
  rintro ⟨id, ⟨r, hr, _⟩, _⟩
  simp at hr

theorem law_gen {P : Program} {f : FuncId} {w : World} {args : List SV} {vals : Array Value} (hl : vals.size = args.length)
    (hv : ∀ (j : Nat) (a : SV), args[j]? = some a → RS w (G0 w) (fun _ => default) 0 a (vals.getD j undef))
    (h : SatAt P f args [] (fun res rows => res = [bo true] ∧ rows = [])) :
    Calls P f vals w fun e w' => e = .returned (.bool true) ∧ Below w.heap.size w w' := by
  have hsim : SimM (C0 w) ⟨vals.size, enumE 0 args, []⟩ (fun _ => default) ⟨vals, []⟩ w := {
    defs := rfl
    size := rfl
    os := rfl
    tape := rfl
    output := rfl
    hsz := Nat.le_refl _
    old := fun _ _ _ => rfl
    bor := fun id hid => by cases hid
    nbl := Nat.zero_le _
    newb := fun id b _ ⟨r, hr, _⟩ => by simp at hr
    dist := fun i j b ⟨r, hr, _⟩ => by simp at hr
    rows := fun id r hr => by simp at hr
    env := fun t => by
      show RS _ _ _ _ (look (enumE 0 _) t) _
      rw [look_enumE]
      simp only [Nat.zero_le, if_true, Nat.sub_zero]
      cases ha : args[t]? with
      | none => exact .any _
      | some a => exact hv t a ha }
  refine (h (C0 w) (fun _ => default) vals rfl (fun b hb => hb) hl hsim).mono fun e w' hx => ?_
  obtain ⟨us, res, rows', m', rfl, hus, hs, rfl, rfl⟩ := hx
  have hv := hs.env 0
  have h1 : us.size = 1 := hus
  refine ⟨?_, hs.os, hs.tape, hs.output, hs.hsz, fun k hk => hs.old k hk (fun id hid => by cases hid)⟩
  have hv : RS w' (Gd (C0 w) [] m' w') m' 0 (bo true) (us.getD 0 undef) := hv
  have hb := hv.pv_inv
  unfold pack
  rw [dif_pos h1]
  simp only [Array.getD, h1, Nat.lt_succ_self, dif_pos, Nat.zero_lt_one] at hb
  cases hu : us[0]
  all_goals (simp only [Array.getInternal_eq_getElem, hu] at hb; cases hb)
  rfl

theorem cell_block {w : World} {a : Addr} {v : Value} (h : w.cell? a = some v) : a.block < w.heap.size := by
  unfold World.cell? at h
  rcases Nat.lt_or_ge a.block w.heap.size with h3 | h3
  · exact h3
  · rw [Array.getElem?_eq_none h3] at h; cases h

theorem addr_add (a : Addr) (i : Nat) (hs : a.spot = none) : a.add i = ⟨a.block, a.off + i, none⟩ := by
  obtain ⟨b, o, s⟩ := a
  simp only at hs
  subst hs
  unfold Addr.add
  split
  · rename_i h; simp [h]
  · rfl

section
variable {H : Type} {enc : TypeId × Value → H} {P : Program} {w : World} {base : Nat} {held : Bool}
end
end Go.Vl

/- Arguments of any type of numbers, truth values, slices and structs, opened by their types. -/
namespace Go.Vl
set_option linter.unusedVariables false
set_option linter.unusedSimpArgs false
open Go.RowKit Go.ChangeShapes Go.WideShapes Go.ChangeAt

/-- A value of the type reads as one of the values that pv tells. -/
def Opens (P : Program) (t : TypeId) (k : Nat) {α : Type} (pv : α → PV) (good : α → Prop) : Prop :=
  ∀ (H : Type) (enc : TypeId × Value → H) (w : World) (base : Nat) (held : Bool) (fuel : Nat) (cs : List Value) (x : DataW H × List MemPlace), DataW.trod enc P w base (fun _ => true) held fuel t cs = some x →
    ∃ a, good a ∧ (pv a).fits k ∧ cs.length = k ∧ ∀ (j : Nat) (c : PV) (v : Value), (pv a).cells[j]? = some c → cs[j]? = some v → RP w (G0 w false) c v

def i64R (n : Int) : Prop := -9223372036854775808 ≤ n ∧ n ≤ 9223372036854775807

theorem opens_int {P : Program} {t : TypeId} (ht : P.underlying t = some (.int .i64)) : Opens P t 1 intP i64R := by
  intro H enc w base held fuel cs x h
  obtain ⟨n, hcs, hx, hw⟩ := DataW.trod_int ht h
  subst hcs
  refine ⟨n, ?_, fits_of rfl, rfl, fun j c v hc hv => ?_⟩
  · simp only [Lit.wf, IntKind.signed, IntKind.bits, IntKind.min, IntKind.max, Bool.and_eq_true, decide_eq_true_eq] at hw
    simpa [i64R] using hw
  · match j, hc, hv with
    | 0, hc, hv => cases hc; cases hv; exact .int _ _

theorem opens_map {P : Program} {t k : Nat} {α β : Type} {pv : α → PV} {pv' : β → PV} {good : α → Prop} {good' : β → Prop} (h : Opens P t k pv good) (g : α → β) (hp : ∀ a, pv' (g a) = pv a) (hg : ∀ a, good a → good' (g a)) : Opens P t k pv' good' := by
  intro H enc w base held fuel cs x hx
  obtain ⟨a, h1, h2, h3, h4⟩ := h H enc w base held fuel cs x hx
  exact ⟨g a, hg a h1, by rw [hp]; exact h2, h3, by rw [hp]; exact h4⟩

/-- A list by functions on its places. -/
theorem opens_slice {P : Program} {t e : TypeId} {k : Nat} {α : Type} {pv : α → PV} {good : α → Prop} (ht : P.underlying t = some (.slice e)) (hc : P.cellsOf e = k) (hk : 0 < k) (he : Opens P e k pv good) :
    Opens P t 1 (fun l : List α => .sl none k (l.map pv)) (fun l => l.length ≤ 9223372036854775807 ∧ ∀ a ∈ l, good a) := by
  intro H enc w base held fuel cs x h
  have hone : ∀ (l : List α) (v : Value), RP w (G0 w false) (.sl none k (l.map pv)) v → cs = [v] → ∀ (j : Nat) (c : PV) (u : Value), (PV.sl none k (l.map pv)).cells[j]? = some c → cs[j]? = some u → RP w (G0 w false) c u := by
    intro l v hr hcs j c u hc hu
    subst hcs
    match j, hc, hu with
    | 0, hc, hu => cases hc; cases hu; exact hr
  rcases DataW.trod_slice ht h with ⟨rfl, _⟩ | ⟨a, len, cap, elems, rest, n, _, rfl, _, hb, hl, hm, hel, hge, _, _⟩
  · exact ⟨[], ⟨by simp, by simp⟩, fits_of rfl, rfl, hone [] _ (.nilsl _ _ (by simp)) rfl⟩
  · have hrd : ∀ i, i < len → ∃ (b : α) (ws : List Value), good b ∧ (pv b).fits k ∧ ws.length = k ∧ (∀ (j : Nat) (c : PV) (v : Value), (pv b).cells[j]? = some c → ws[j]? = some v → RP w (G0 w false) c v) ∧ ∀ j, j < k → w.cell? ((a.add (i * k)).add j) = ws[j]? := by
      intro i hi
      have h1 := hge i hi
      rw [List.getElem?_eq_getElem (by omega), Option.bind_eq_some_iff] at h1
      obtain ⟨ws, h2, h3⟩ := h1
      obtain ⟨b, g1, g2, g3, g4⟩ := he H enc w base held n ws _ h3
      rw [hc] at h2
      obtain ⟨_, q2, q3⟩ := World.cells?_some h2
      exact ⟨b, ws, g1, g2, g3, g4, q3⟩
    have hex : ∀ i, ∃ (q : Option (α × List Value)), i < len → ∃ (b : α) (ws : List Value), q = some (b, ws) ∧ good b ∧ (pv b).fits k ∧ ws.length = k ∧ (∀ (j : Nat) (c : PV) (v : Value), (pv b).cells[j]? = some c → ws[j]? = some v → RP w (G0 w false) c v) ∧ ∀ j, j < k → w.cell? ((a.add (i * k)).add j) = ws[j]? := by
      intro i
      rcases Nat.lt_or_ge i len with hi | hi
      · obtain ⟨b, ws, h1, h2, h3, h4, h5⟩ := hrd i hi
        exact ⟨some (b, ws), fun _ => ⟨b, ws, rfl, h1, h2, h3, h4, h5⟩⟩
      · exact ⟨none, fun h => by omega⟩
    obtain ⟨q, hq⟩ := Classical.axiomOfChoice hex
    let l : List α := ((List.range len).filterMap q).map (·.1)
    have hfm : ∀ n, n ≤ len → ((List.range n).filterMap q).length = n ∧ ∀ i, i < n → ((List.range n).filterMap q)[i]? = q i := by
      intro n
      induction n with
      | zero => intro _; exact ⟨rfl, fun i h => by omega⟩
      | succ n ih =>
        intro hn
        obtain ⟨ih1, ih2⟩ := ih (by omega)
        obtain ⟨b, ws, hqn, _⟩ := hq n (by omega)
        rw [List.range_succ, List.filterMap_append]
        simp only [List.filterMap_cons, hqn, List.filterMap_nil]
        refine ⟨by simp [ih1], fun i hi => ?_⟩
        rw [List.getElem?_append]
        rcases Nat.lt_or_ge i n with h1 | h1
        · rw [if_pos (by omega)]; exact ih2 i h1
        · have : i = n := by omega
          subst this
          rw [if_neg (by omega), ih1, Nat.sub_self]
          exact hqn.symm
    obtain ⟨hll, hlg⟩ := hfm len (Nat.le_refl _)
    have hlen : l.length = len := by simp [l, hll]
    have hget : ∀ (i : Nat) (b : α), l[i]? = some b → i < len ∧ ∃ ws : List Value, good b ∧ (pv b).fits k ∧ ws.length = k ∧ (∀ (j : Nat) (c : PV) (v : Value), (pv b).cells[j]? = some c → ws[j]? = some v → RP w (G0 w false) c v) ∧ ∀ j, j < k → w.cell? ((a.add (i * k)).add j) = ws[j]? := by
      intro i b hb
      have hi : i < len := by rw [← hlen]; exact (List.getElem?_eq_some_iff.1 hb).1
      refine ⟨hi, ?_⟩
      simp only [l, List.getElem?_map, hlg i hi, Option.map_eq_some_iff] at hb
      obtain ⟨y, hy, rfl⟩ := hb
      obtain ⟨b, ws, h1, h2⟩ := hq i hi
      rw [hy] at h1
      cases h1
      exact ⟨ws, h2⟩
    refine ⟨l, ⟨by rw [hlen]; simp only [maxLen] at hm; omega, fun b hb => ?_⟩, fits_of rfl, rfl, hone l _ ?_ rfl⟩
    · obtain ⟨i, hi⟩ := List.getElem?_of_mem hb
      exact (hget i b hi).2.choose_spec.1
    · have hsp : 0 < len → a.spot = none := by
        intro h0
        have hl0 : 0 < l.length := by omega
        obtain ⟨_, ws, _, _, h3, _, h5⟩ := hget 0 _ (List.getElem?_eq_getElem hl0)
        have h6 := h5 0 hk
        rw [List.getElem?_eq_getElem (by omega)] at h6
        have := World.cell?_spot h6
        simpa [Addr.add] using this
      have hW : ∀ i, ∃ (f : Nat → Value), ∀ b, l[i]? = some b → ∀ (j : Nat) (c : PV), (pv b).cells[j]? = some c → w.cell? ⟨a.block, a.off + i * k + j, none⟩ = some (f j) ∧ RP w (G0 w false) c (f j) := by
        intro i
        cases hb : l[i]? with
        | none => exact ⟨fun _ => undef, fun b h => by cases h⟩
        | some b =>
          obtain ⟨hi, ws, _, h2, h3, h4, h5⟩ := hget i b hb
          refine ⟨fun j => ws.getD j undef, fun b' h j c hc => ?_⟩
          cases h
          have hj : j < k := by rw [← h2.1]; exact (List.getElem?_eq_some_iff.1 hc).1
          have hwj : ws[j]? = some (ws.getD j undef) := by rw [List.getD_eq_getElem?_getD, List.getElem?_eq_getElem (by omega)]; rfl
          refine ⟨?_, h4 j c _ hc hwj⟩
          have h6 := h5 j hj
          rw [hwj, addr_add _ _ (hsp (by omega)), addr_add _ _ rfl] at h6
          exact h6
      obtain ⟨f, hf⟩ := Classical.axiomOfChoice hW
      have hpg : ∀ (i : Nat) (y : PV), (l.map pv)[i]? = some y → ∃ b, l[i]? = some b ∧ y = pv b := by
        intro i y hy
        simp only [List.getElem?_map, Option.map_eq_some_iff] at hy
        obtain ⟨b, hb, rfl⟩ := hy
        exact ⟨b, hb, rfl⟩
      refine .sl none k _ a len cap f (by simp) (fun hne => hsp ?_) (by simp [hlen]) hl (fun hne => ?_) (fun i y hy => ?_) (fun i y j c hy hcj => ?_) (fun i y j c hy hcj => ?_)
      · have : (l.map pv).length ≠ 0 := fun h => hne (List.eq_nil_of_length_eq_zero h)
        simp [hlen] at this; omega
      · have h0 : 0 < len := by
          have : (l.map pv).length ≠ 0 := fun h => hne (List.eq_nil_of_length_eq_zero h)
          simp [hlen] at this; omega
        obtain ⟨_, ws, _, _, h3, _, h5⟩ := hget 0 _ (List.getElem?_eq_getElem (show 0 < l.length by omega))
        have h6 := h5 0 hk
        rw [List.getElem?_eq_getElem (by omega)] at h6
        exact G0_of (by have := cell_block h6; simpa [Addr.add] using this)
      · obtain ⟨b, hb, rfl⟩ := hpg i y hy
        obtain ⟨_, ws, _, h2, _⟩ := hget i b hb
        exact h2
      · obtain ⟨b, hb, rfl⟩ := hpg i y hy
        exact (hf i b hb j c hcj).1
      · obtain ⟨b, hb, rfl⟩ := hpg i y hy
        exact (hf i b hb j c hcj).2

/-- Fields one behind another. -/
theorem fields2 {w : World} {G : Nat → Prop} {cs : List Value} {off n1 n2 : Nat} {c1 c2 : List PV} (h1 : c1.length = n1)
    (g1 : ∀ (j : Nat) (c : PV) (v : Value), c1[j]? = some c → ((cs.drop off).take n1)[j]? = some v → RP w G c v) (g2 : ∀ (j : Nat) (c : PV) (v : Value), c2[j]? = some c → ((cs.drop (off + n1)).take n2)[j]? = some v → RP w G c v) (hl2 : c2.length = n2) :
    ∀ (j : Nat) (c : PV) (v : Value), (c1 ++ c2)[j]? = some c → ((cs.drop off).take (n1 + n2))[j]? = some v → RP w G c v := by
  intro j c v hc hv
  rw [List.getElem?_append] at hc
  split at hc
  · rename_i hj
    refine g1 j c v hc ?_
    rw [List.getElem?_take] at hv ⊢
    split at hv
    · rw [if_pos (by omega)]; exact hv
    · cases hv
  · rename_i hj
    have hj2 : j - c1.length < n2 := by rw [← hl2]; exact (List.getElem?_eq_some_iff.1 hc).1
    refine g2 (j - c1.length) c v hc ?_
    rw [List.getElem?_take] at hv ⊢
    rw [if_pos hj2]
    split at hv
    · rw [List.getElem?_drop] at hv ⊢
      rw [← hv]; congr 1; omega
    · cases hv

/-- A struct, field by field, from a place on. -/
def OpenF (P : Program) (off : Nat) (fs : List Field) (k : Nat) {α : Type} (cells : α → List PV) (good : α → Prop) : Prop :=
  ∀ (H : Type) (enc : TypeId × Value → H) (w : World) (base : Nat) (held : Bool) (fuel : Nat) (cs : List Value),
    (∀ (i : Nat) (f : Field), fs[i]? = some f → ∃ x, DataW.trod enc P w base (fun _ => true) held fuel f.type ((cs.drop f.offset).take (P.cellsOf f.type)) = some x) →
    ∃ a, good a ∧ (cells a).length = k ∧ (∀ c ∈ cells a, c.isAgg = false) ∧ ∀ (j : Nat) (c : PV) (v : Value), (cells a)[j]? = some c → ((cs.drop off).take k)[j]? = some v → RP w (G0 w false) c v

theorem openF_nil {P : Program} {off : Nat} : OpenF P off [] 0 (fun _ : Unit => []) (fun _ => True) := by
  intro H enc w base held fuel cs _
  exact ⟨(), trivial, rfl, by simp, fun j c v h => by simp at h⟩

theorem openF_cons {P : Program} {off : Nat} {fs : List Field} {f : Field} {k n : Nat} {α β : Type} {cells : α → List PV} {pv : β → PV} {good : α → Prop} {good2 : β → Prop} (hf : Opens P f.type n pv good2) (ho : f.offset = off) (hn : P.cellsOf f.type = n) (h : OpenF P (off + n) fs k cells good) :
    OpenF P off (f :: fs) (n + k) (fun a : β × α => (pv a.1).cells ++ cells a.2) (fun a => good2 a.1 ∧ good a.2) := by
  intro H enc w base held fuel cs hall
  obtain ⟨a, g1, g2, g3, g4⟩ := h H enc w base held fuel cs (fun i f' hi => hall (i + 1) f' (by simpa using hi))
  obtain ⟨x, hx⟩ := hall 0 f rfl
  rw [ho, hn] at hx
  obtain ⟨b, b1, b2, b3, b4⟩ := hf H enc w base held fuel _ x hx
  refine ⟨(b, a), ⟨b1, g1⟩, by simp [g2, b2.1], fun c hc => ?_, fields2 b2.1 b4 g4 g2⟩
  rcases List.mem_append.1 hc with hc | hc
  · obtain ⟨j, hj⟩ := List.getElem?_of_mem hc
    exact b2.2 j c hj
  · exact g3 c hc

theorem opens_struct {P : Program} {t k : Nat} {fs : Array Field} {α : Type} {cells : α → List PV} {good : α → Prop} (ht : P.underlying t = some (.struct fs)) (hc : P.cellsOf t = k) (h : OpenF P 0 fs.toList k cells good) : Opens P t k (fun a => .agg (cells a)) good := by
  intro H enc w base held fuel cs x hx
  obtain ⟨xs, n, rfl, _, hl, hlen, hf⟩ := DataW.trod_struct ht hx
  rw [hc] at hl
  obtain ⟨a, g1, g2, g3, g4⟩ := h H enc w base held n cs (fun i f hi => by
    have h1 := hf i f (by simpa using hi)
    have hi2 : i < xs.length := by rw [hlen]; simpa using (List.getElem?_eq_some_iff.1 hi).1
    exact ⟨xs[i], by rw [h1]; exact List.getElem?_eq_getElem hi2⟩)
  refine ⟨a, g1, ⟨g2, fun j c hj => g3 c (List.mem_of_getElem? hj)⟩, hl, fun j c v hcj hv => g4 j c v hcj ?_⟩
  have hj : j < k := by rw [← g2]; exact (List.getElem?_eq_some_iff.1 hcj).1
  rw [List.drop_zero, List.getElem?_take, if_pos hj]
  exact hv

/-- The value of an argument of one cell. -/
theorem Opens.one {P : Program} {t : TypeId} {α : Type} {pv : α → PV} {good : α → Prop} (h : Opens P t 1 pv good) (hna : ∀ a, (pv a).cells = [pv a]) {H : Type} {enc : TypeId × Value → H} {w : World} {base : Nat} {held : Bool} {v : Value} {d : DataW H} {ps : List MemPlace} (hv : v.cells.toList = [v])
    (hd : DataW.Trod enc P w base (fun _ => true) held t v d ps) : ∃ a, good a ∧ RP w (G0 w false) (pv a) v := by
  obtain ⟨fuel, hf⟩ := hd
  rw [hv] at hf
  obtain ⟨a, g1, g2, g3, g4⟩ := h H enc w base held fuel _ _ hf
  exact ⟨a, g1, g4 0 _ _ (by rw [hna]; rfl) rfl⟩

/-- The value of an argument that is a struct. -/
theorem Opens.agg {P : Program} {t k : Nat} {α : Type} {cells : α → List PV} {good : α → Prop} (h : Opens P t k (fun a => .agg (cells a)) good) {H : Type} {enc : TypeId × Value → H} {w : World} {base : Nat} {held : Bool} {cs : Array Value} {d : DataW H} {ps : List MemPlace}
    (hd : DataW.Trod enc P w base (fun _ => true) held t (.agg cs) d ps) : ∃ a, good a ∧ RP w (G0 w false) (.agg (cells a)) (.agg cs) := by
  obtain ⟨fuel, hf⟩ := hd
  obtain ⟨a, g1, g2, g3, g4⟩ := h H enc w base held fuel _ _ hf
  refine ⟨a, g1, .agg _ _ ?_ (fun j c hc => g2.2 j c hc) (fun j c v hc hv => g4 j c v hc ?_)⟩
  · have h1 : (cells a).length = k := g2.1
    have h2 : cs.toList.length = k := g3
    rw [h1, ← h2]; simp
  · show cs.toList[j]? = some v
    simpa using hv
end Go.Vl

namespace Go.Vl
set_option linter.unusedVariables false
set_option linter.unusedSimpArgs false
open Go.Proofs

structure OpM where
  who : Int
  name : Int
  value : Int
  gone : Bool
  deriving Inhabited, DecidableEq
abbrev opP (o : OpM) : PV := .agg [.int .i64 o.who, .int .i64 o.name, .int .i64 o.value, .bool o.gone]
abbrev pairP (p : Int × Int) : PV := .agg [.int .i64 p.1, .int .i64 p.2]
structure InstM where
  shares : Bool
  order : List Int
  values : List Int
  own : List (Int × Int)
  deriving Inhabited, DecidableEq
abbrev instP (x : InstM) : PV := .agg [.bool x.shares, .sl none 1 (x.order.map intP), .sl none 1 (x.values.map intP), .sl none 2 (x.own.map pairP)]
structure HeapM where
  keys : List Int
  insts : List InstM
  deriving Inhabited, DecidableEq
abbrev heapP (h : HeapM) : PV := .agg [.sl none 1 (h.keys.map intP), .sl none 4 (h.insts.map instP)]
theorem getD_map0 {α β : Type} (f : α → β) (l : List α) (k : Nat) (d : α) (d' : β) (h : f d = d') : (l.map f).getD k d' = f (l.getD k d) := by
  subst h
  simp only [List.getD, List.getElem?_map]
  cases l[k]? <;> rfl
theorem getD_ops (l : List OpM) (k : Nat) : (l.map opP).getD k (.agg [.int .i64 0, .int .i64 0, .int .i64 0, .bool false]) = opP (l.getD k ⟨0, 0, 0, false⟩) := getD_map0 opP l k ⟨0, 0, 0, false⟩ _ rfl
theorem getD_pairs (l : List (Int × Int)) (k : Nat) : (l.map pairP).getD k (.agg [.int .i64 0, .int .i64 0]) = pairP (l.getD k (0, 0)) := getD_map0 pairP l k (0, 0) _ rfl
theorem getD_insts (l : List InstM) (k : Nat) : (l.map instP).getD k (.agg [.bool false, .sl none 1 [], .sl none 1 [], .sl none 2 []]) = instP (l.getD k ⟨false, [], [], []⟩) := getD_map0 instP l k ⟨false, [], [], []⟩ _ rfl
/-- A copy that is under way. -/
def cpy {α : Type} (d : α) (l : List α) (k : Nat) : List α := l.take k ++ List.replicate (l.length - k) d
theorem take_eqS {α : Type} {a b : List α} {k : Nat} (d : α) (h : k < a.length) (hb : k < b.length) : a.take (k+1) = b.take (k+1) ↔ a.take k = b.take k ∧ a.getD k d = b.getD k d := by
  have ha : a.take (k+1) = a.take k ++ [a.getD k d] := by rw [List.take_add_one, List.getD, List.getElem?_eq_getElem h]; rfl
  have hbb : b.take (k+1) = b.take k ++ [b.getD k d] := by rw [List.take_add_one, List.getD, List.getElem?_eq_getElem hb]; rfl
  rw [ha, hbb]
  constructor
  · intro he
    have := List.append_inj he (by simp; omega)
    exact ⟨this.1, by simpa using this.2⟩
  · rintro ⟨h1, h2⟩; rw [h1, h2]
def okOp (o : OpM) : Prop := (0 ≤ o.who ∧ o.who ≤ 3) ∧ (0 ≤ o.name ∧ o.name ≤ 9) ∧ (0 ≤ o.value ∧ o.value ≤ 99)
instance (o : OpM) : Decidable (okOp o) := by unfold okOp; exact inferInstance
def VOps (l : List OpM) : Prop := l.length ≤ 40 ∧ ∀ o ∈ l, okOp o
instance (l : List OpM) : Decidable (VOps l) := by unfold VOps; exact inferInstance

end Go.Vl

namespace Go.Vl
set_option linter.unusedVariables false
set_option linter.unusedSimpArgs false
open Go.Proofs
open Go.Proofs
theorem opn_int : Opens Tryz.prog 3 1 intP i64R := opens_int Tryz.underlying3
end Go.Vl

namespace Go.Vl
set_option linter.unusedVariables false
set_option linter.unusedSimpArgs false
open Go.Proofs
open Go.Proofs
theorem opn_lpair : Opens Tryz.prog 170 2 pairP (fun _ => True) := by
  have h := opens_struct (P := Tryz.prog) (t := 170) Tryz.underlying170 (by kernel_rfl) (openF_cons opn_int rfl (show Tryz.prog.cellsOf 3 = 1 by kernel_rfl) (openF_cons opn_int rfl (show Tryz.prog.cellsOf 3 = 1 by kernel_rfl) openF_nil))
  exact opens_map h (fun a => (a.1, a.2.1)) (fun _ => rfl) (fun _ _ => trivial)
theorem opn_lpairs : Opens Tryz.prog 116 1 (fun l : List (Int × Int) => .sl none 2 (l.map pairP)) (fun l => l.length ≤ 9223372036854775807 ∧ ∀ a ∈ l, True) := opens_slice (P := Tryz.prog) Tryz.underlying116 (show Tryz.prog.cellsOf 170 = 2 by kernel_rfl) (by decide) opn_lpair
def nms (l : List (Int × Int)) : List Int := l.map Prod.fst
theorem getD_nms (l : List (Int × Int)) (k : Nat) : (nms l).getD k 0 = (l.getD k (0, 0)).1 := getD_map0 Prod.fst l k (0, 0) 0 rfl
@[simp] theorem nms_len (l : List (Int × Int)) : (nms l).length = l.length := by simp [nms]
theorem take_nms (l : List (Int × Int)) (k : Nat) : (nms l).take k = nms (l.take k) := by simp [nms]
theorem findM_nms (n : Int) (l : List (Int × Int)) (k : Nat) (h : k < l.length) : findM n ((nms l).drop k) k = if (l.getD k (0, 0)).1 = n then (k : Int) else findM n ((nms l).drop (k+1)) (k+1) := by
  rw [findM_drop _ _ _ (by rw [nms_len]; exact h), getD_nms]
theorem nodup_nms_succ {l : List (Int × Int)} {k : Nat} (h : k < l.length) : (nms (l.take (k+1))).Nodup ↔ (nms (l.take k)).Nodup ∧ (l.getD k (0, 0)).1 ∉ nms (l.take k) := by
  rw [← take_nms, ← take_nms, nodup_take_succ (by rw [nms_len]; exact h) 0, getD_nms]
theorem nodup_nms_take {l : List (Int × Int)} (k : Nat) (h : (nms l).Nodup) : (nms (l.take k)).Nodup := by
  rw [← take_nms]; exact nodup_take k h
theorem app_nm1 (l : List (Int × Int)) (k : Nat) (h : k < l.length) : nms (l.take k) ++ [(l.getD k (0, 0)).1] = nms (l.take (k+1)) := by
  have : l.take (k+1) = l.take k ++ [l.getD k (0,0)] := by rw [List.take_add_one, List.getD, List.getElem?_eq_getElem h]; rfl
  rw [this]; simp [nms]
def SPairs (a b : List (Int × Int)) : Prop := a.length ≤ 40 ∧ (nms a).Nodup ∧ a.length = b.length ∧ ∀ p ∈ a, p ∈ b
instance (a b : List (Int × Int)) : Decidable (SPairs a b) := by unfold SPairs; exact inferInstance
theorem findM_pos_iff {n : Int} {l : List Int} : ∀ {k : Int}, 0 ≤ k → 0 ≤ findM n l k → ∃ i, i < l.length ∧ findM n l k = k + i ∧ l.getD i 0 = n ∧ ∀ j, j < i → l.getD j 0 ≠ n := by
  induction l with
  | nil => intro k hk h; simp [findM] at h
  | cons x xs ih =>
    intro k hk h
    by_cases hx : x = n
    · exact ⟨0, by simp, by simp [findM, hx], by simp [hx], fun j hj => by omega⟩
    · have e : findM n (x :: xs) k = findM n xs (k + 1) := by simp [findM, hx]
      rw [e] at h
      obtain ⟨i, hi, h1, h2, h3⟩ := ih (by omega) h
      refine ⟨i + 1, by simp; omega, by rw [e, h1]; push_cast; omega, by simpa using h2, fun j hj => ?_⟩
      cases j with
      | zero => simpa using hx
      | succ j => simpa using h3 j (by omega)
theorem pairAt_sat {nl0 : Option Bool} {list : List (Int × Int)} {name : Int} (hlist : list.length < 1000000000)  : SatAt Tryz.prog 84 [.pv false (.sl nl0 2 (list.map pairP)), i64 name] [] (fun res rows => res = [i64 (findM name (nms list) 0)] ∧ rows = []) := by
 refine sat_entry_G (rs := [(4, none)]) Tryz.func84 rfl rfl (Nat.le_of_ble_eq_true rfl) (Nat.le_of_ble_eq_true rfl) (resTs1 trivial) fun C hC => ?_
 rw [Tryz.ntmps84]
 replace hC : C.nb = 0 := hC
 refine vc_seq fun K1 hK1 => ?_
 refine vc_region ?_
 refine vo_assign_pv rfl rfl ?_
 refine vo_nil ?_
 refine hK1 _ ?_
 refine vc_seq fun K2 hK2 => ?_
 refine vc_seq fun K3 hK3 => ?_
 refine vc_region ?_
 refine vo_assign_pv rfl rfl ?_
 refine vo_nil ?_
 refine hK3 _ ?_
 refine vc_block ?_
 refine vc_stM ?_
 refine vc_loopE [0, 1] [5] [] _ _ (fun mz vs rs => ∃ (k : Nat), mz = list.length - k ∧ (k ≤ list.length) ∧ (findM name (nms list) 0 = findM name ((nms list).drop k) k) ∧ vs = [i64 k] ∧ rs = []) (list.length) rfl rfl (le_len hC rfl) ⟨rfl, rfl, rfl⟩ rfl ⟨0, rfl, Nat.zero_le _, rfl, rfl, rfl⟩ ?_
 rintro mz vs rs - - ⟨k, rfl, hk, hf, rfl, rfl⟩
 refine vc_stM ?_
 refine vc_seq fun K4 hK4 => ?_
 refine vc_seq fun K5 hK5 => ?_
 refine vc_region ?_
 refine vo_move_pv rfl rfl ?_
 refine vo_move_pv rfl rfl ?_
 refine vo_len_pv rfl rfl Tryz.underlying55 ?_
 refine vo_binI rfl rfl rfl rfl trivial ?_
 refine vo_nil ?_
 refine hK5 _ ?_
 refine vc_cond rfl (fun hc1 => ?_) (fun hc1 => ?_)
 ·try simp only [zq0, zq1, zq2, zq3, zq4, zq5, zq6, zq7, zq8, zq9, zqa, zqb, zqc, zqd, zqe, zqf] at hc1
  refine vc_skip ?_
  refine hK4 _ ?_
  refine vc_seq fun K6 hK6 => ?_
  refine vc_block ?_
  refine vc_seq fun K7 hK7 => ?_
  refine vc_region ?_
  refine vo_move_pv rfl rfl ?_
  refine vo_move_pv rfl rfl ?_
  refine vo_index_pv (.agg [(.int .i64 0), (.int .i64 0)]) rfl rfl rfl E55.und inf102 sz102 sd sd ?_
  simp only [Int.toNat_natCast, Int.toNat_zero, getD_ints, getD_intss, getD_bools, getD_bytes, PV.cells, getD_ops, getD_pairs, getD_insts]
  refine vo_fieldAddr_adr rfl rfl Tryz.underlying102 rfl inf3 (by rw [sz3]; decide) ?_
  refine vo_load_adr rfl rfl Tryz.underlying3 rfl ?_
  refine vo_move_pv rfl rfl ?_
  refine vo_binI rfl rfl rfl rfl trivial ?_
  refine vo_nil ?_
  refine hK7 _ ?_
  refine vc_cond rfl (fun hc2 => ?_) (fun hc2 => ?_)
  ·try simp only [zq0, zq1, zq2, zq3, zq4, zq5, zq6, zq7, zq8, zq9, zqa, zqb, zqc, zqd, zqe, zqf] at hc2
   refine vc_seq fun K8 hK8 => ?_
   refine vc_region ?_
   refine vo_move_pv rfl rfl ?_
   refine vo_assign_pv rfl rfl ?_
   refine vo_nil ?_
   refine hK8 _ ?_
   refine vc_ret ?_
   change retQ _ _ _ _ _
   refine retQ_sel [] (srows := []) (.inr rfl) hC rfl rfl rfl rfl rfl rfl rfl ?_
   refine ⟨?_, rfl⟩
   refine (congrArg (fun b => [i64 b]) (?_ : _ = _) : [i64 _] = [i64 _])
   rw [hf, findM_nms _ _ _ (by omega), if_pos (by omega)]
  ·try simp only [zq0, zq1, zq2, zq3, zq4, zq5, zq6, zq7, zq8, zq9, zqa, zqb, zqc, zqd, zqe, zqf] at hc2
   refine vc_skip ?_
   refine hK6 _ ?_
   refine vc_region ?_
   refine vo_move_pv rfl rfl ?_
   refine vo_binI rfl rfl rfl rfl sd ?_
   refine vo_assign_pv rfl rfl ?_
   refine vo_nil ?_
   change againE _ _ _ _ _ _ _ _ _ _
   refine againE_mk rfl rfl rfl rfl rfl rfl ⟨_, ?_, k + 1, rfl, ?_, ?_, rfl, rfl⟩
   ·omega
   ·omega
   ·rw [hf, findM_nms _ _ _ (by omega), if_neg (by omega)]; rfl
 ·try simp only [zq0, zq1, zq2, zq3, zq4, zq5, zq6, zq7, zq8, zq9, zqa, zqb, zqc, zqd, zqe, zqf] at hc1
  refine vc_exit ?_
  refine hK2 _ ?_
  refine vc_seq fun K9 hK9 => ?_
  refine vc_region ?_
  refine vo_assign_pv rfl rfl ?_
  refine vo_nil ?_
  refine hK9 _ ?_
  refine vc_ret ?_
  change retQ _ _ _ _ _
  refine retQ_sel [] (srows := []) (.inr rfl) hC rfl rfl rfl rfl rfl rfl rfl ?_
  refine ⟨?_, rfl⟩
  refine (congrArg (fun b => [i64 b]) (?_ : _ = _) : [i64 _] = [i64 _])
  rw [hf, show k = (nms list).length by rw [nms_len]; omega, List.drop_length]; rfl


theorem goodPairs_sat {nl0 : Option Bool} {list : List (Int × Int)} (hlist : list.length < 1000000000)  : SatAt Tryz.prog 115 [.pv false (.sl nl0 2 (list.map pairP))] [] (fun res rows => res = [bo (decide (list.length ≤ 40 ∧ (nms list).Nodup))] ∧ rows = []) := by
 refine sat_entry_G (rs := [(2, none)]) Tryz.func115 rfl rfl (Nat.le_of_ble_eq_true rfl) (Nat.le_of_ble_eq_true rfl) (resTs1 trivial) fun C hC => ?_
 rw [Tryz.ntmps115]
 replace hC : C.nb = 0 := hC
 refine vc_seq fun K1 hK1 => ?_
 refine vc_region ?_
 refine vo_assign_pv rfl rfl ?_
 refine vo_nil ?_
 refine hK1 _ ?_
 refine vc_seq fun K2 hK2 => ?_
 refine vc_seq fun K3 hK3 => ?_
 refine vc_region ?_
 refine vo_assign_pv rfl rfl ?_
 refine vo_nil ?_
 refine hK3 _ ?_
 refine vc_block ?_
 refine vc_stM ?_
 refine vc_loopE [0] [3] [] _ _ (fun mz vs rs => ∃ (k : Nat), mz = list.length - k ∧ (k ≤ list.length) ∧ ((nms (list.take k)).Nodup) ∧ vs = [i64 k] ∧ rs = []) (list.length) rfl rfl (le_len hC rfl) ⟨rfl, rfl, rfl⟩ rfl ⟨0, rfl, Nat.zero_le _, (by simp [nms]), rfl, rfl⟩ ?_
 rintro mz vs rs - - ⟨k, rfl, hk, hf, rfl, rfl⟩
 refine vc_stM ?_
 refine vc_seq fun K4 hK4 => ?_
 refine vc_seq fun K5 hK5 => ?_
 refine vc_region ?_
 refine vo_move_pv rfl rfl ?_
 refine vo_move_pv rfl rfl ?_
 refine vo_len_pv rfl rfl Tryz.underlying55 ?_
 refine vo_binI rfl rfl rfl rfl trivial ?_
 refine vo_nil ?_
 refine hK5 _ ?_
 refine vc_cond rfl (fun hc1 => ?_) (fun hc1 => ?_)
 ·try simp only [zq0, zq1, zq2, zq3, zq4, zq5, zq6, zq7, zq8, zq9, zqa, zqb, zqc, zqd, zqe, zqf] at hc1
  refine vc_skip ?_
  refine hK4 _ ?_
  refine vc_seq fun K6 hK6 => ?_
  refine vc_block ?_
  refine vc_seq fun K7 hK7 => ?_
  refine vc_draw (by kernel_rfl) ?_
  change VD _ _ _ 10 _ _ _
  refine vd_light 0 rfl rfl rfl (by kernel_rfl) (by kernel_rfl) (by kernel_rfl) (wnt_none rfl) (lt_move_pv rfl) ?_
  refine vd_light 1 rfl rfl rfl (by kernel_rfl) (by kernel_rfl) (by kernel_rfl) (wnt_none rfl) (lt_move_pv rfl) ?_
  refine vd_light 2 rfl rfl rfl (by kernel_rfl) (by kernel_rfl) (by kernel_rfl) (wnt_none rfl) (lt_slice_pv rfl rfl rfl E55.und inf102 sz102 sd sd sd) ?_
  simp only [Int.toNat_natCast, Int.toNat_zero, List.drop_zero, Nat.sub_zero, ← List.map_drop, ← List.map_take]
  refine vd_light 3 rfl rfl rfl (by kernel_rfl) (by kernel_rfl) (by kernel_rfl) (wnt_none rfl) (lt_move_pv rfl) ?_
  refine vd_light 4 rfl rfl rfl (by kernel_rfl) (by kernel_rfl) (by kernel_rfl) (wnt_none rfl) (lt_move_pv rfl) ?_
  refine vd_light 5 rfl rfl rfl (by kernel_rfl) (by kernel_rfl) (by kernel_rfl) (wnt_none rfl) (lt_index_pv (.agg [(.int .i64 0), (.int .i64 0)]) rfl rfl E55.und inf102 sz102 sd sd) ?_
  simp only [Int.toNat_natCast, Int.toNat_zero, getD_ints, getD_intss, getD_bools, getD_bytes, PV.cells, getD_ops, getD_pairs, getD_insts]
  refine vd_light 6 rfl rfl rfl (by kernel_rfl) (by kernel_rfl) (by kernel_rfl) (wnt_none rfl) (lt_fieldAddr_adr rfl Tryz.underlying102 rfl inf3 (by rw [sz3]; decide)) ?_
  refine vd_light 7 rfl rfl rfl (by kernel_rfl) (by kernel_rfl) (by kernel_rfl) (wnt_none rfl) (lt_load_adr rfl Tryz.underlying3 rfl) ?_
  refine vd_call 8 rfl (by kernel_rfl) (wnt_none rfl) Tryz.func84 rfl rfl rfl rfl (pairAt_sat (list := list.take k) (by simp; omega)) ?_
  rintro _ _ ⟨rfl, rfl⟩
  refine ⟨rfl, rfl, .inl rfl, ?_⟩
  refine vd_stM ?_
  refine vd_light 9 rfl rfl rfl (by kernel_rfl) (by kernel_rfl) (by kernel_rfl) (wnt_none rfl) (lt_binI rfl rfl rfl trivial) ?_
  refine vd_nil (by kernel_rfl) ?_
  refine hK7 _ ?_
  refine vc_cond rfl (fun hc2 => ?_) (fun hc2 => ?_)
  ·try simp only [zq0, zq1, zq2, zq3, zq4, zq5, zq6, zq7, zq8, zq9, zqa, zqb, zqc, zqd, zqe, zqf] at hc2
   refine vc_seq fun K8 hK8 => ?_
   refine vc_region ?_
   refine vo_assign_pv rfl rfl ?_
   refine vo_nil ?_
   refine hK8 _ ?_
   refine vc_ret ?_
   change retQ _ _ _ _ _
   refine retQ_sel [] (srows := []) (.inr rfl) hC rfl rfl rfl rfl rfl rfl rfl ?_
   refine ⟨?_, rfl⟩
   refine (congrArg (fun b => [bo b]) (?_ : _ = _) : [bo _] = [bo _])
   exact bF fun h => ((nodup_nms_succ (by omega)).1 (nodup_nms_take (k+1) h.2)).2 ((findM_mem _ _ 0 (by omega)).1 (by omega))
  ·try simp only [zq0, zq1, zq2, zq3, zq4, zq5, zq6, zq7, zq8, zq9, zqa, zqb, zqc, zqd, zqe, zqf] at hc2
   refine vc_skip ?_
   refine hK6 _ ?_
   refine vc_region ?_
   refine vo_move_pv rfl rfl ?_
   refine vo_binI rfl rfl rfl rfl sd ?_
   refine vo_assign_pv rfl rfl ?_
   refine vo_nil ?_
   change againE _ _ _ _ _ _ _ _ _ _
   refine againE_mk rfl rfl rfl rfl rfl rfl ⟨_, ?_, k + 1, rfl, ?_, ?_, rfl, rfl⟩
   ·omega
   ·omega
   ·exact (nodup_nms_succ (by omega)).2 ⟨hf, (findM_not _ _ 0 (by omega)).1 (by omega)⟩
 ·try simp only [zq0, zq1, zq2, zq3, zq4, zq5, zq6, zq7, zq8, zq9, zqa, zqb, zqc, zqd, zqe, zqf] at hc1
  refine vc_exit ?_
  refine hK2 _ ?_
  refine vc_seq fun K9 hK9 => ?_
  refine vc_region ?_
  refine vo_move_pv rfl rfl ?_
  refine vo_len_pv rfl rfl Tryz.underlying55 ?_
  refine vo_binI rfl rfl rfl rfl trivial ?_
  refine vo_assign_pv rfl rfl ?_
  refine vo_nil ?_
  refine hK9 _ ?_
  refine vc_ret ?_
  change retQ _ _ _ _ _
  refine retQ_sel [] (srows := []) (.inr rfl) hC rfl rfl rfl rfl rfl rfl rfl ?_
  refine ⟨?_, rfl⟩
  refine (congrArg (fun b => [bo b]) (?_ : _ = _) : [bo _] = [bo _])
  rw [take_all (by omega)] at hf; exact decide_eq_decide.2 ⟨fun h => ⟨by simp at h; omega, hf⟩, fun h => by have := h.1; simp; omega⟩


theorem szPairS_sat {nl0 : Option Bool} {a : List (Int × Int)} {left : Int}  (ha : a.length ≤ 9223372036854775807) (hl : 0 ≤ left ∧ left ≤ 2000000) : SatAt Tryz.prog 117 [.pv false (.sl nl0 2 (a.map pairP)), i64 left] [] (fun res rows => res = [i64 (if left - (a.length : Int) < 0 then -1 else left - (a.length : Int))] ∧ rows = []) := by
 refine sat_entry_G (rs := [(4, none)]) Tryz.func117 rfl rfl (Nat.le_of_ble_eq_true rfl) (Nat.le_of_ble_eq_true rfl) (resTs1 trivial) fun C hC => ?_
 rw [Tryz.ntmps117]
 replace hC : C.nb = 0 := hC
 refine vc_seq fun K1 hK1 => ?_
 refine vc_region ?_
 refine vo_assign_pv rfl rfl ?_
 refine vo_nil ?_
 refine hK1 _ ?_
 refine vc_seq fun K2 hK2 => ?_
 refine vc_region ?_
 refine vo_move_pv rfl rfl ?_
 refine vo_move_pv rfl rfl ?_
 refine vo_len_pv rfl rfl Tryz.underlying116 ?_
 refine vo_binI rfl rfl rfl rfl sd ?_
 refine vo_assign_pv rfl rfl ?_
 refine vo_nil ?_
 refine hK2 _ ?_
 refine vc_seq fun K3 hK3 => ?_
 refine vc_seq fun K4 hK4 => ?_
 refine vc_region ?_
 refine vo_move_pv rfl rfl ?_
 refine vo_binI rfl rfl rfl rfl trivial ?_
 refine vo_nil ?_
 refine hK4 _ ?_
 refine vc_cond rfl (fun hc1 => ?_) (fun hc1 => ?_)
 ·try simp only [zq0, zq1, zq2, zq3, zq4, zq5, zq6, zq7, zq8, zq9, zqa, zqb, zqc, zqd, zqe, zqf] at hc1
  refine vc_seq fun K5 hK5 => ?_
  refine vc_region ?_
  refine vo_assign_pv rfl rfl ?_
  refine vo_nil ?_
  refine hK5 _ ?_
  refine vc_ret ?_
  change retQ _ _ _ _ _
  refine retQ_sel [] (srows := []) (.inr rfl) hC rfl rfl rfl rfl rfl rfl rfl ?_
  refine ⟨?_, rfl⟩
  refine (congrArg (fun b => [i64 b]) (?_ : _ = _) : [i64 _] = [i64 _])
  rw [if_pos (by omega)]
 ·try simp only [zq0, zq1, zq2, zq3, zq4, zq5, zq6, zq7, zq8, zq9, zqa, zqb, zqc, zqd, zqe, zqf] at hc1
  refine vc_skip ?_
  refine hK3 _ ?_
  refine vc_seq fun K6 hK6 => ?_
  refine vc_region ?_
  refine vo_move_pv rfl rfl ?_
  refine vo_assign_pv rfl rfl ?_
  refine vo_nil ?_
  refine hK6 _ ?_
  refine vc_ret ?_
  change retQ _ _ _ _ _
  refine retQ_sel [] (srows := []) (.inr rfl) hC rfl rfl rfl rfl rfl rfl rfl ?_
  refine ⟨?_, rfl⟩
  refine (congrArg (fun b => [i64 b]) (?_ : _ = _) : [i64 _] = [i64 _])
  simp only [List.length_map]; rw [if_neg (by omega)]


theorem toPair_sat {a : Int × Int}   : SatAt Tryz.prog 139 [.pv false (pairP a)] [] (fun res rows => res = [.pv true (pairP a)] ∧ rows = []) := by
 refine sat_entry_G (rs := [(2, some (102, 2))]) Tryz.func139 rfl rfl (Nat.le_of_ble_eq_true rfl) (Nat.le_of_ble_eq_true rfl) (resTs1 ⟨_, _, Tryz.underlying102, rfl, inf102, sz102⟩) fun C hC => ?_
 rw [Tryz.ntmps139]
 replace hC : C.nb = 0 := hC
 refine vc_seq fun K1 hK1 => ?_
 refine vc_region ?_
 refine vo_box rfl rfl ?_
 refine vo_stM ?_
 refine vo_alloc Z102 rfl ?_
 refine vo_stM ?_
 refine vo_nil ?_
 refine hK1 _ ?_
 refine vc_seq fun K2 hK2 => ?_
 refine vc_region ?_
 refine vo_alloc Z102 rfl ?_
 refine vo_stM ?_
 refine vo_nil ?_
 refine hK2 _ ?_
 refine vc_seq fun K3 hK3 => ?_
 refine vc_region ?_
 refine vo_fieldAddr_ptr rfl rfl Tryz.underlying170 rfl inf3 (by rw [sz3]; decide) ?_
 try simp only [Nat.zero_add]
 refine vo_load_var rfl rfl rfl Tryz.underlying3 rfl rfl ?_
 refine vo_fieldAddr_ptr rfl rfl Tryz.underlying102 rfl inf3 (by rw [sz3]; decide) ?_
 try simp only [Nat.zero_add]
 refine vo_store_var rfl rfl rfl rfl inf3 sz3 rfl ?_
 refine vo_stM ?_
 refine vo_nil ?_
 refine hK3 _ ?_
 refine vc_seq fun K4 hK4 => ?_
 refine vc_region ?_
 refine vo_fieldAddr_ptr rfl rfl Tryz.underlying170 rfl inf3 (by rw [sz3]; decide) ?_
 try simp only [Nat.zero_add]
 refine vo_load_var rfl rfl rfl Tryz.underlying3 rfl rfl ?_
 refine vo_fieldAddr_ptr rfl rfl Tryz.underlying102 rfl inf3 (by rw [sz3]; decide) ?_
 try simp only [Nat.zero_add]
 refine vo_store_var rfl rfl rfl rfl inf3 sz3 rfl ?_
 refine vo_stM ?_
 refine vo_nil ?_
 refine hK4 _ ?_
 refine vc_seq fun K5 hK5 => ?_
 refine vc_region ?_
 refine vo_load_varS rfl rfl rfl Tryz.underlying102 rfl inf102 sz102 rfl rfl ?_
 refine vo_store_varS rfl rfl rfl inf102 sz102 rfl ?_
 refine vo_stM ?_
 refine vo_nil ?_
 refine hK5 _ ?_
 refine vc_ret ?_
 change retQ _ _ _ _ _
 refine retQ_sel [] (srows := []) (.inr rfl) hC rfl rfl rfl rfl rfl rfl rfl ?_
 exact ⟨rfl, rfl⟩


theorem eqPair_sat {a : Int × Int} {b : Int × Int}   : SatAt Tryz.prog 140 [.pv false (pairP a), .pv false (pairP b)] [] (fun res rows => res = [bo (decide (a = b))] ∧ rows = []) := by
 refine sat_entry_G (rs := [(4, none)]) Tryz.func140 rfl rfl (Nat.le_of_ble_eq_true rfl) (Nat.le_of_ble_eq_true rfl) (resTs1 trivial) fun C hC => ?_
 rw [Tryz.ntmps140]
 replace hC : C.nb = 0 := hC
 refine vc_seq fun K1 hK1 => ?_
 refine vc_region ?_
 refine vo_box rfl rfl ?_
 refine vo_stM ?_
 refine vo_box rfl rfl ?_
 refine vo_stM ?_
 refine vo_assign_pv rfl rfl ?_
 refine vo_nil ?_
 refine hK1 _ ?_
 refine vc_seq fun K2 hK2 => ?_
 refine vc_seq fun K3 hK3 => ?_
 refine vc_region ?_
 refine vo_fieldAddr_ptr rfl rfl Tryz.underlying102 rfl inf3 (by rw [sz3]; decide) ?_
 try simp only [Nat.zero_add]
 refine vo_load_var rfl rfl rfl Tryz.underlying3 rfl rfl ?_
 refine vo_fieldAddr_ptr rfl rfl Tryz.underlying102 rfl inf3 (by rw [sz3]; decide) ?_
 try simp only [Nat.zero_add]
 refine vo_load_var rfl rfl rfl Tryz.underlying3 rfl rfl ?_
 refine vo_binI rfl rfl rfl rfl trivial ?_
 refine vo_nil ?_
 refine hK3 _ ?_
 refine vc_cond rfl (fun hc1 => ?_) (fun hc1 => ?_)
 ·try simp only [zq0, zq1, zq2, zq3, zq4, zq5, zq6, zq7, zq8, zq9, zqa, zqb, zqc, zqd, zqe, zqf] at hc1
  refine vc_seq fun K4 hK4 => ?_
  refine vc_region ?_
  refine vo_assign_pv rfl rfl ?_
  refine vo_nil ?_
  refine hK4 _ ?_
  refine vc_ret ?_
  change retQ _ _ _ _ _
  refine retQ_sel [] (srows := []) (.inr rfl) hC rfl rfl rfl rfl rfl rfl rfl ?_
  refine ⟨?_, rfl⟩
  refine (congrArg (fun b => [bo b]) (?_ : _ = _) : [bo _] = [bo _])
  cases a; cases b; simp_all
 ·try simp only [zq0, zq1, zq2, zq3, zq4, zq5, zq6, zq7, zq8, zq9, zqa, zqb, zqc, zqd, zqe, zqf] at hc1
  refine vc_skip ?_
  refine hK2 _ ?_
  refine vc_seq fun K5 hK5 => ?_
  refine vc_seq fun K6 hK6 => ?_
  refine vc_region ?_
  refine vo_fieldAddr_ptr rfl rfl Tryz.underlying102 rfl inf3 (by rw [sz3]; decide) ?_
  try simp only [Nat.zero_add]
  refine vo_load_var rfl rfl rfl Tryz.underlying3 rfl rfl ?_
  refine vo_fieldAddr_ptr rfl rfl Tryz.underlying102 rfl inf3 (by rw [sz3]; decide) ?_
  try simp only [Nat.zero_add]
  refine vo_load_var rfl rfl rfl Tryz.underlying3 rfl rfl ?_
  refine vo_binI rfl rfl rfl rfl trivial ?_
  refine vo_nil ?_
  refine hK6 _ ?_
  refine vc_cond rfl (fun hc2 => ?_) (fun hc2 => ?_)
  ·try simp only [zq0, zq1, zq2, zq3, zq4, zq5, zq6, zq7, zq8, zq9, zqa, zqb, zqc, zqd, zqe, zqf] at hc2
   refine vc_seq fun K7 hK7 => ?_
   refine vc_region ?_
   refine vo_assign_pv rfl rfl ?_
   refine vo_nil ?_
   refine hK7 _ ?_
   refine vc_ret ?_
   change retQ _ _ _ _ _
   refine retQ_sel [] (srows := []) (.inr rfl) hC rfl rfl rfl rfl rfl rfl rfl ?_
   refine ⟨?_, rfl⟩
   refine (congrArg (fun b => [bo b]) (?_ : _ = _) : [bo _] = [bo _])
   cases a; cases b; simp_all
  ·try simp only [zq0, zq1, zq2, zq3, zq4, zq5, zq6, zq7, zq8, zq9, zqa, zqb, zqc, zqd, zqe, zqf] at hc2
   refine vc_skip ?_
   refine hK5 _ ?_
   refine vc_seq fun K8 hK8 => ?_
   refine vc_region ?_
   refine vo_assign_pv rfl rfl ?_
   refine vo_nil ?_
   refine hK8 _ ?_
   refine vc_ret ?_
   change retQ _ _ _ _ _
   refine retQ_sel [] (srows := []) (.inr rfl) hC rfl rfl rfl rfl rfl rfl rfl ?_
   refine ⟨?_, rfl⟩
   refine (congrArg (fun b => [bo b]) (?_ : _ = _) : [bo _] = [bo _])
   cases a; cases b; simp_all


theorem eqPairS_sat {nl0 : Option Bool} {a : List (Int × Int)} {nl1 : Option Bool} {b : List (Int × Int)} (ha : a.length < 1000000000) (hb : b.length < 1000000000)  : SatAt Tryz.prog 123 [.pv false (.sl nl0 2 (a.map pairP)), .pv false (.sl nl1 2 (b.map pairP))] [] (fun res rows => res = [bo (decide (a = b))] ∧ rows = []) := by
 refine sat_entry_G (rs := [(4, none)]) Tryz.func123 rfl rfl (Nat.le_of_ble_eq_true rfl) (Nat.le_of_ble_eq_true rfl) (resTs1 trivial) fun C hC => ?_
 rw [Tryz.ntmps123]
 replace hC : C.nb = 0 := hC
 refine vc_seq fun K1 hK1 => ?_
 refine vc_region ?_
 refine vo_assign_pv rfl rfl ?_
 refine vo_nil ?_
 refine hK1 _ ?_
 refine vc_seq fun K2 hK2 => ?_
 refine vc_seq fun K3 hK3 => ?_
 refine vc_region ?_
 refine vo_move_pv rfl rfl ?_
 refine vo_len_pv rfl rfl Tryz.underlying55 ?_
 refine vo_move_pv rfl rfl ?_
 refine vo_len_pv rfl rfl Tryz.underlying55 ?_
 refine vo_binI rfl rfl rfl rfl trivial ?_
 refine vo_nil ?_
 refine hK3 _ ?_
 refine vc_cond rfl (fun hc1 => ?_) (fun hc1 => ?_)
 ·try simp only [zq0, zq1, zq2, zq3, zq4, zq5, zq6, zq7, zq8, zq9, zqa, zqb, zqc, zqd, zqe, zqf] at hc1
  refine vc_seq fun K4 hK4 => ?_
  refine vc_region ?_
  refine vo_assign_pv rfl rfl ?_
  refine vo_nil ?_
  refine hK4 _ ?_
  refine vc_ret ?_
  change retQ _ _ _ _ _
  refine retQ_sel [] (srows := []) (.inr rfl) hC rfl rfl rfl rfl rfl rfl rfl ?_
  refine ⟨?_, rfl⟩
  refine (congrArg (fun b => [bo b]) (?_ : _ = _) : [bo _] = [bo _])
  exact bF fun h => by rw [h] at hc1; exact hc1 rfl
 ·try simp only [zq0, zq1, zq2, zq3, zq4, zq5, zq6, zq7, zq8, zq9, zqa, zqb, zqc, zqd, zqe, zqf] at hc1
  refine vc_skip ?_
  refine hK2 _ ?_
  refine vc_seq fun K5 hK5 => ?_
  refine vc_seq fun K6 hK6 => ?_
  refine vc_region ?_
  refine vo_assign_pv rfl rfl ?_
  refine vo_nil ?_
  refine hK6 _ ?_
  refine vc_block ?_
  refine vc_stM ?_
  refine vc_loopE [0, 1] [5] [] _ _ (fun mz vs rs => ∃ (k : Nat), mz = a.length - k ∧ (k ≤ a.length) ∧ (a.take k = b.take k) ∧ vs = [i64 k] ∧ rs = []) (a.length) rfl rfl (le_len hC rfl) ⟨rfl, rfl, rfl⟩ rfl ⟨0, rfl, Nat.zero_le _, (by simp), rfl, rfl⟩ ?_
  rintro mz vs rs - - ⟨k, rfl, hk, hf, rfl, rfl⟩
  refine vc_stM ?_
  refine vc_seq fun K7 hK7 => ?_
  refine vc_seq fun K8 hK8 => ?_
  refine vc_region ?_
  refine vo_move_pv rfl rfl ?_
  refine vo_move_pv rfl rfl ?_
  refine vo_len_pv rfl rfl Tryz.underlying55 ?_
  refine vo_binI rfl rfl rfl rfl trivial ?_
  refine vo_nil ?_
  refine hK8 _ ?_
  refine vc_cond rfl (fun hc2 => ?_) (fun hc2 => ?_)
  ·try simp only [zq0, zq1, zq2, zq3, zq4, zq5, zq6, zq7, zq8, zq9, zqa, zqb, zqc, zqd, zqe, zqf] at hc2
   refine vc_skip ?_
   refine hK7 _ ?_
   refine vc_seq fun K9 hK9 => ?_
   refine vc_block ?_
   refine vc_seq fun K10 hK10 => ?_
   refine vc_draw (by kernel_rfl) ?_
   change VD _ _ _ 10 _ _ _
   refine vd_light 0 rfl rfl rfl (by kernel_rfl) (by kernel_rfl) (by kernel_rfl) (wnt_none rfl) (lt_move_pv rfl) ?_
   refine vd_light 1 rfl rfl rfl (by kernel_rfl) (by kernel_rfl) (by kernel_rfl) (wnt_none rfl) (lt_move_pv rfl) ?_
   refine vd_light 2 rfl rfl rfl (by kernel_rfl) (by kernel_rfl) (by kernel_rfl) (wnt_none rfl) (lt_index_pv (.agg [(.int .i64 0), (.int .i64 0)]) rfl rfl E55.und inf102 sz102 sd sd) ?_
   simp only [Int.toNat_natCast, Int.toNat_zero, getD_ints, getD_intss, getD_bools, getD_bytes, PV.cells, getD_ops, getD_pairs, getD_insts]
   refine vd_light 3 rfl rfl rfl (by kernel_rfl) (by kernel_rfl) (by kernel_rfl) (wnt_none rfl) (lt_load_adrS rfl Tryz.underlying102 rfl inf102 sz102 rfl) ?_
   refine vd_st (by (try simp only [St.put, PV.cells, PV.scal, List.drop_succ_cons, List.drop_zero, List.take_succ_cons, List.take_zero, List.map_cons, List.map_nil, Bool.or_true, Bool.or_false, Bool.false_or, Bool.true_or, opP, pairP, instP, heapP]); exact eq_refl _) ?_
   refine vd_light 4 rfl rfl rfl (by kernel_rfl) (by kernel_rfl) (by kernel_rfl) (wnt_none rfl) (lt_move_pv rfl) ?_
   refine vd_light 5 rfl rfl rfl (by kernel_rfl) (by kernel_rfl) (by kernel_rfl) (wnt_none rfl) (lt_move_pv rfl) ?_
   refine vd_light 6 rfl rfl rfl (by kernel_rfl) (by kernel_rfl) (by kernel_rfl) (wnt_none rfl) (lt_index_pv (.agg [(.int .i64 0), (.int .i64 0)]) rfl rfl E55.und inf102 sz102 sd sd) ?_
   simp only [Int.toNat_natCast, Int.toNat_zero, getD_ints, getD_intss, getD_bools, getD_bytes, PV.cells, getD_ops, getD_pairs, getD_insts]
   refine vd_light 7 rfl rfl rfl (by kernel_rfl) (by kernel_rfl) (by kernel_rfl) (wnt_none rfl) (lt_load_adrS rfl Tryz.underlying102 rfl inf102 sz102 rfl) ?_
   refine vd_st (by (try simp only [St.put, PV.cells, PV.scal, List.drop_succ_cons, List.drop_zero, List.take_succ_cons, List.take_zero, List.map_cons, List.map_nil, Bool.or_true, Bool.or_false, Bool.false_or, Bool.true_or, opP, pairP, instP, heapP]); exact eq_refl _) ?_
   refine vd_call 8 rfl (by kernel_rfl) (wnt_none rfl) Tryz.func140 rfl rfl rfl rfl eqPair_sat ?_
   rintro _ _ ⟨rfl, rfl⟩
   refine ⟨rfl, rfl, .inl rfl, ?_⟩
   refine vd_stM ?_
   refine vd_light 9 rfl rfl rfl (by kernel_rfl) (by kernel_rfl) (by kernel_rfl) (wnt_none rfl) (lt_not rfl) ?_
   refine vd_nil (by kernel_rfl) ?_
   refine hK10 _ ?_
   refine vc_cond rfl (fun hc3 => ?_) (fun hc3 => ?_)
   ·try simp only [zq0, zq1, zq2, zq3, zq4, zq5, zq6, zq7, zq8, zq9, zqa, zqb, zqc, zqd, zqe, zqf] at hc3
    refine vc_seq fun K11 hK11 => ?_
    refine vc_region ?_
    refine vo_assign_pv rfl rfl ?_
    refine vo_nil ?_
    refine hK11 _ ?_
    refine vc_ret ?_
    change retQ _ _ _ _ _
    refine retQ_sel [] (srows := []) (.inr rfl) hC rfl rfl rfl rfl rfl rfl rfl ?_
    refine ⟨?_, rfl⟩
    refine (congrArg (fun b => [bo b]) (?_ : _ = _) : [bo _] = [bo _])
    exact bF fun h => hc3 (by rw [h])
   ·try simp only [zq0, zq1, zq2, zq3, zq4, zq5, zq6, zq7, zq8, zq9, zqa, zqb, zqc, zqd, zqe, zqf] at hc3
    refine vc_skip ?_
    refine hK9 _ ?_
    refine vc_region ?_
    refine vo_move_pv rfl rfl ?_
    refine vo_binI rfl rfl rfl rfl sd ?_
    refine vo_assign_pv rfl rfl ?_
    refine vo_nil ?_
    change againE _ _ _ _ _ _ _ _ _ _
    refine againE_mk rfl rfl rfl rfl rfl rfl ⟨_, ?_, k + 1, rfl, ?_, ?_, rfl, rfl⟩
    ·omega
    ·omega
    ·exact (take_eqS (0, 0) (by omega) (by omega)).2 ⟨hf, by first | assumption | (simpa using hc3)⟩
  ·try simp only [zq0, zq1, zq2, zq3, zq4, zq5, zq6, zq7, zq8, zq9, zqa, zqb, zqc, zqd, zqe, zqf] at hc2
   refine vc_exit ?_
   refine hK5 _ ?_
   refine vc_seq fun K12 hK12 => ?_
   refine vc_region ?_
   refine vo_assign_pv rfl rfl ?_
   refine vo_nil ?_
   refine hK12 _ ?_
   refine vc_ret ?_
   change retQ _ _ _ _ _
   refine retQ_sel [] (srows := []) (.inr rfl) hC rfl rfl rfl rfl rfl rfl rfl ?_
   refine ⟨?_, rfl⟩
   refine (congrArg (fun b => [bo b]) (?_ : _ = _) : [bo _] = [bo _])
   rw [take_all (by omega), take_all (by omega)] at hf; exact bT hf


theorem pairNames_sat {nl0 : Option Bool} {pairs : List (Int × Int)} (hpairs : pairs.length < 1000000000)  : SatAt Tryz.prog 101 [.pv false (.sl nl0 2 (pairs.map pairP))] [] (fun res rows => ∃ nl, res = [.pv true (.sl nl 1 ((nms pairs).map intP))] ∧ rows = []) := by
 refine sat_entry_G (rs := [(2, none)]) Tryz.func101 rfl rfl (Nat.le_of_ble_eq_true rfl) (Nat.le_of_ble_eq_true rfl) (resTs1 trivial) fun C hC => ?_
 rw [Tryz.ntmps101]
 replace hC : C.nb = 0 := hC
 refine vc_seq fun K1 hK1 => ?_
 refine vc_region ?_
 refine vo_assign_pv rfl rfl ?_
 refine vo_nil ?_
 refine hK1 _ ?_
 refine vc_seq fun K2 hK2 => ?_
 refine vc_region ?_
 refine vo_assign_pv rfl rfl ?_
 refine vo_nil ?_
 refine hK2 _ ?_
 refine vc_seq fun K3 hK3 => ?_
 refine vc_seq fun K4 hK4 => ?_
 refine vc_region ?_
 refine vo_move_pv rfl rfl ?_
 refine vo_len_pv rfl rfl Tryz.underlying55 ?_
 refine vo_move_pv rfl rfl ?_
 refine vo_nil ?_
 refine hK4 _ ?_
 refine vc_block ?_
 refine vc_own_nil 3 E28 rfl ?_
 refine vc_stM ?_
 refine vc_loopE [6, 7] [3, 8] [0] _ _ (fun mz vs rs => ∃ (k : Nat), mz = pairs.length - k ∧ (k ≤ pairs.length) ∧ vs = [.ref 0, i64 k] ∧ rs = [Row.own 3 1 none true ((nms (pairs.take k)).map intP)]) (pairs.length) rfl rfl (le_len hC rfl) ⟨rfl, rfl, rfl⟩ rfl ⟨0, rfl, Nat.zero_le _, rfl, rfl⟩ ?_
 rintro mz vs rs - - ⟨k, rfl, hk, rfl, rfl⟩
 refine vc_stM ?_
 refine vc_seq fun K5 hK5 => ?_
 refine vc_region ?_
 refine vo_binI rfl rfl rfl rfl trivial ?_
 refine vo_nil ?_
 refine hK5 _ ?_
 refine vc_seq fun K6 hK6 => ?_
 refine vc_cond rfl (fun hc1 => ?_) (fun hc1 => ?_)
 ·try simp only [zq0, zq1, zq2, zq3, zq4, zq5, zq6, zq7, zq8, zq9, zqa, zqb, zqc, zqd, zqe, zqf] at hc1
  refine vc_skip ?_
  refine hK6 _ ?_
  refine vc_seq fun K7 hK7 => ?_
  refine vc_block ?_
  refine vc_seq fun K8 hK8 => ?_
  refine vc_region ?_
  refine vo_index_pv (.agg [(.int .i64 0), (.int .i64 0)]) rfl rfl rfl E55.und inf102 sz102 sd sd ?_
  simp only [Int.toNat_natCast, Int.toNat_zero, getD_ints, getD_intss, getD_bools, getD_bytes, PV.cells, getD_ops, getD_pairs, getD_insts]
  refine vo_load_adrS rfl rfl Tryz.underlying102 rfl inf102 sz102 rfl ?_
  refine vo_st (by (try simp only [St.put, PV.cells, PV.scal, List.drop_succ_cons, List.drop_zero, List.take_succ_cons, List.take_zero, List.map_cons, List.map_nil, Bool.or_true, Bool.or_false, Bool.false_or, Bool.true_or, opP, pairP, instP, heapP]); exact eq_refl _) ?_
  refine vo_alloc Z102 rfl ?_
  refine vo_stM ?_
  refine vo_store_varS rfl rfl rfl inf102 sz102 rfl ?_
  refine vo_stM ?_
  refine vo_nil ?_
  refine hK8 _ ?_
  refine vc_region ?_
  refine vo_move_ref rfl rfl ?_
  refine vo_fieldAddr_ptr rfl rfl Tryz.underlying102 rfl inf3 (by rw [sz3]; decide) ?_
  try simp only [Nat.zero_add]
  refine vo_load_var rfl rfl rfl Tryz.underlying3 rfl rfl ?_
  refine vo_buildSlice E28 rfl rfl rfl rfl rfl ?_
  refine vo_stM ?_
  refine vo_append E28 rfl (by omega) rfl rfl rfl sd sd ?_
  refine vo_stM ?_
  try simp only [app_ints, app_intss, app_bools]
  refine vo_assign_ref rfl rfl ?_
  refine vo_nil ?_
  refine hK7 _ ?_
  refine vc_region ?_
  refine vo_binI rfl rfl rfl rfl sd ?_
  refine vo_move_pv rfl rfl ?_
  refine vo_nil ?_
  change againE _ _ _ _ _ _ _ _ _ _
  refine againE_mk rfl rfl rfl rfl rfl rfl ⟨_, ?_, k + 1, rfl, ?_, rfl, (by rw [← app_nm1 _ _ (by omega)]; rfl)⟩
  ·omega
  ·omega
 ·try simp only [zq0, zq1, zq2, zq3, zq4, zq5, zq6, zq7, zq8, zq9, zqa, zqb, zqc, zqd, zqe, zqf] at hc1
  refine vc_exit ?_
  refine hK3 _ ?_
  refine vc_seq fun K9 hK9 => ?_
  refine vc_region ?_
  refine vo_move_ref rfl rfl ?_
  refine vo_assign_ref rfl rfl ?_
  refine vo_nil ?_
  refine hK9 _ ?_
  refine vc_expose 0 (by omega) rfl ?_
  refine vc_stM ?_
  refine vc_ret ?_
  change retQ _ _ _ _ _
  refine retQ_sel [] (srows := []) (.inr rfl) hC rfl rfl rfl rfl rfl rfl rfl ?_
  rw [show pairs.take k = pairs from take_all (by omega)]; exact ⟨_, rfl, rfl⟩


theorem haveDifferentNames_sat {nl0 : Option Bool} {pairs : List (Int × Int)} {most : Int} (hpairs : pairs.length < 1000000000)  : SatAt Tryz.prog 108 [.pv false (.sl nl0 2 (pairs.map pairP)), i64 most] [] (fun res rows => res = [bo (decide (pairs.length ≤ most ∧ (nms pairs).Nodup))] ∧ rows = []) := by
 refine sat_entry_G (rs := [(4, none)]) Tryz.func108 rfl rfl (Nat.le_of_ble_eq_true rfl) (Nat.le_of_ble_eq_true rfl) (resTs1 trivial) fun C hC => ?_
 rw [Tryz.ntmps108]
 replace hC : C.nb = 0 := hC
 refine vc_seq fun K1 hK1 => ?_
 refine vc_region ?_
 refine vo_assign_pv rfl rfl ?_
 refine vo_nil ?_
 refine hK1 _ ?_
 refine vc_seq fun K2 hK2 => ?_
 refine vc_region ?_
 refine vo_move_pv rfl rfl ?_
 refine vo_len_pv rfl rfl Tryz.underlying55 ?_
 refine vo_move_pv rfl rfl ?_
 refine vo_binI rfl rfl rfl rfl trivial ?_
 refine vo_move_pv rfl rfl ?_
 refine vo_split 9 rfl (fun hg1 => ?_) (fun hg1 => ?_)
 ·try simp only [zq0, zq1, zq2, zq3, zq4, zq5, zq6, zq7, zq8, zq9, zqa, zqb, zqc, zqd, zqe, zqf] at hg1
  refine vo_guard_on rfl rfl rfl ?_
  refine vo_move_pv rfl rfl ?_
  refine vo_guard_on rfl rfl rfl ?_
  refine vo_call0 Tryz.func101 rfl rfl rfl rfl (pairNames_sat hpairs) ?_
  rintro _ _ ⟨nl9, rfl, rfl⟩
  refine ⟨rfl, rfl, .inl rfl, ?_⟩
  refine vo_stM ?_
  refine vo_guard_on rfl rfl rfl ?_
  refine vo_move_pv rfl rfl ?_
  refine vo_guard_on rfl rfl rfl ?_
  refine vo_call0 Tryz.func106 rfl rfl rfl rfl (isList_sat (list := nms pairs) (by rw [nms_len]; omega)) ?_
  rintro _ _ ⟨rfl, rfl⟩
  refine ⟨rfl, rfl, .inl rfl, ?_⟩
  refine vo_stM ?_
  refine vo_pick_t rfl rfl ?_
  refine vo_assign_pv rfl rfl ?_
  refine vo_nil ?_
  refine hK2 _ ?_
  refine vc_ret ?_
  change retQ _ _ _ _ _
  refine retQ_sel [] (srows := []) (.inr rfl) hC rfl rfl rfl rfl rfl rfl rfl ?_
  refine ⟨?_, rfl⟩
  refine (congrArg (fun b => [bo b]) (?_ : _ = _) : [bo _] = [bo _])
  exact decide_eq_decide.2 ⟨fun h => ⟨by omega, h.2⟩, fun h => ⟨by rw [nms_len]; omega, h.2⟩⟩
 ·try simp only [zq0, zq1, zq2, zq3, zq4, zq5, zq6, zq7, zq8, zq9, zqa, zqb, zqc, zqd, zqe, zqf] at hg1
  refine vo_guard_off rfl rfl rfl rfl rfl ?_
  refine vo_guard_off rfl rfl rfl rfl rfl ?_
  refine vo_guard_off rfl rfl rfl rfl rfl ?_
  refine vo_guard_off rfl rfl rfl rfl rfl ?_
  refine vo_pick_f rfl rfl ?_
  refine vo_assign_pv rfl rfl ?_
  refine vo_nil ?_
  refine hK2 _ ?_
  refine vc_ret ?_
  change retQ _ _ _ _ _
  refine retQ_sel [] (srows := []) (.inr rfl) hC rfl rfl rfl rfl rfl rfl rfl ?_
  refine ⟨?_, rfl⟩
  refine (congrArg (fun b => [bo b]) (?_ : _ = _) : [bo _] = [bo _])
  exact bF fun h => by have := h.1; omega

end Go.Vl

namespace Go.Vl
set_option linter.unusedVariables false
set_option linter.unusedSimpArgs false
open Go.Proofs

structure AttrM where
  name : Int
  kind : Int
  value : Int
  deriving Inhabited, DecidableEq
abbrev attrP (a : AttrM) : PV := .agg [.int .i64 a.name, .int .i64 a.kind, .int .i64 a.value]
abbrev attrsP (l : List AttrM) : PV := .sl none 3 (l.map attrP)
structure ObjM where
  cls : Int
  pairs : List (Int × Int)
  deriving Inhabited, DecidableEq
abbrev objP (o : ObjM) : PV := .agg [.int .i64 o.cls, .sl none 2 (o.pairs.map pairP)]
structure WorldM where
  bases : List (List Int)
  attrs : List (List AttrM)
  objs : List ObjM
  deriving Inhabited, DecidableEq
abbrev worldP (w : WorldM) : PV := .agg [.sl none 1 (w.bases.map ints), .sl none 1 (w.attrs.map attrsP), .sl none 2 (w.objs.map objP)]
theorem getD_attrs (l : List AttrM) (k : Nat) : (l.map attrP).getD k (.agg [.int .i64 0, .int .i64 0, .int .i64 0]) = attrP (l.getD k ⟨0, 0, 0⟩) := getD_map0 attrP l k ⟨0, 0, 0⟩ _ rfl
theorem getD_attrss (l : List (List AttrM)) (k : Nat) : (l.map attrsP).getD k (.sl none 3 []) = attrsP (l.getD k []) := getD_map0 attrsP l k [] _ rfl
theorem getD_objs (l : List ObjM) (k : Nat) : (l.map objP).getD k (.agg [.int .i64 0, .sl none 2 []]) = objP (l.getD k ⟨0, []⟩) := getD_map0 objP l k ⟨0, []⟩ _ rfl
open Go.Proofs
def GO63 (x : ObjM) : Prop := x.pairs.length ≤ 9223372036854775807
def GW63 (w : WorldM) : Prop := (w.bases.length ≤ 9223372036854775807 ∧ ∀ l ∈ w.bases, l.length ≤ 9223372036854775807) ∧ (w.attrs.length ≤ 9223372036854775807 ∧ ∀ l ∈ w.attrs, l.length ≤ 9223372036854775807) ∧ w.objs.length ≤ 9223372036854775807 ∧ ∀ o ∈ w.objs, GO63 o
theorem opn_ints : Opens Tryz.prog 28 1 (fun l : List Int => .sl none 1 (l.map intP)) (fun l => l.length ≤ 9223372036854775807 ∧ ∀ a ∈ l, i64R a) := opens_slice (P := Tryz.prog) Tryz.underlying28 (show Tryz.prog.cellsOf 3 = 1 by kernel_rfl) (by decide) opn_int
theorem opn_intss : Opens Tryz.prog 22 1 (fun l : List (List Int) => .sl none 1 (l.map ints)) (fun l => l.length ≤ 9223372036854775807 ∧ ∀ a ∈ l, (a.length ≤ 9223372036854775807 ∧ ∀ x ∈ a, i64R x)) := opens_slice (P := Tryz.prog) Tryz.underlying22 (show Tryz.prog.cellsOf 28 = 1 by kernel_rfl) (by decide) opn_ints
theorem opn_lattr : Opens Tryz.prog 157 3 attrP (fun _ => True) := by
  have h := opens_struct (P := Tryz.prog) (t := 157) Tryz.underlying157 (by kernel_rfl) (openF_cons opn_int rfl (show Tryz.prog.cellsOf 3 = 1 by kernel_rfl) (openF_cons opn_int rfl (show Tryz.prog.cellsOf 3 = 1 by kernel_rfl) (openF_cons opn_int rfl (show Tryz.prog.cellsOf 3 = 1 by kernel_rfl) openF_nil)))
  exact opens_map h (fun a => ⟨a.1, a.2.1, a.2.2.1⟩) (fun _ => rfl) (fun _ _ => trivial)
theorem opn_lattrs : Opens Tryz.prog 114 1 (fun l : List AttrM => attrsP l) (fun l => l.length ≤ 9223372036854775807 ∧ ∀ a ∈ l, True) := opens_slice (P := Tryz.prog) Tryz.underlying114 (show Tryz.prog.cellsOf 157 = 3 by kernel_rfl) (by decide) opn_lattr
theorem opn_lattrss : Opens Tryz.prog 23 1 (fun l : List (List AttrM) => .sl none 1 (l.map attrsP)) (fun l => l.length ≤ 9223372036854775807 ∧ ∀ a ∈ l, (a.length ≤ 9223372036854775807 ∧ ∀ x ∈ a, True)) := opens_slice (P := Tryz.prog) Tryz.underlying23 (show Tryz.prog.cellsOf 114 = 1 by kernel_rfl) (by decide) opn_lattrs
theorem opn_lobj : Opens Tryz.prog 118 2 objP GO63 := by
  have h := opens_struct (P := Tryz.prog) (t := 118) Tryz.underlying118 (by kernel_rfl) (openF_cons opn_int rfl (show Tryz.prog.cellsOf 3 = 1 by kernel_rfl) (openF_cons opn_lpairs rfl (show Tryz.prog.cellsOf 116 = 1 by kernel_rfl) openF_nil))
  exact opens_map h (fun a => ⟨a.1, a.2.1⟩) (fun _ => rfl) (fun _ h => h.2.1.1)
theorem opn_lobjs : Opens Tryz.prog 24 1 (fun l : List ObjM => .sl none 2 (l.map objP)) (fun l => l.length ≤ 9223372036854775807 ∧ ∀ a ∈ l, GO63 a) := opens_slice (P := Tryz.prog) Tryz.underlying24 (show Tryz.prog.cellsOf 118 = 2 by kernel_rfl) (by decide) opn_lobj
theorem opn_lworld : Opens Tryz.prog 26 3 worldP GW63 := by
  have h := opens_struct (P := Tryz.prog) (t := 26) Tryz.underlying26 (by kernel_rfl) (openF_cons opn_intss rfl (show Tryz.prog.cellsOf 22 = 1 by kernel_rfl) (openF_cons opn_lattrss rfl (show Tryz.prog.cellsOf 23 = 1 by kernel_rfl) (openF_cons opn_lobjs rfl (show Tryz.prog.cellsOf 24 = 1 by kernel_rfl) openF_nil)))
  exact opens_map h (fun a => ⟨a.1, a.2.1, a.2.2.1⟩) (fun _ => rfl) (fun _ h => ⟨⟨h.1.1, fun l hl => (h.1.2 l hl).1⟩, ⟨h.2.1.1, fun l hl => (h.2.1.2 l hl).1⟩, h.2.2.1.1, h.2.2.1.2⟩)
def SO (x : ObjM) : Prop := x.pairs.length ≤ 2000000
def SW (w : WorldM) : Prop := (w.bases.length ≤ 2000000 ∧ ∀ l ∈ w.bases, l.length ≤ 2000000) ∧ (w.attrs.length ≤ 2000000 ∧ ∀ l ∈ w.attrs, l.length ≤ 2000000) ∧ w.objs.length ≤ 2000000 ∧ ∀ o ∈ w.objs, SO o
theorem getD_all {α : Type} {p : α → Prop} {l : List α} (h : ∀ x ∈ l, p x) (d : α) (hd : p d) (k : Nat) : p (l.getD k d) := by
  by_cases hk : k < l.length
  · exact h _ (getD_mem hk d)
  · rw [List.getD, List.getElem?_eq_none (by omega)]; exact hd
theorem rowI_eq {el : TypeId} {e : Nat} {nl : Option Bool} {f : Bool} {xs ys : List PV} (h : xs = ys) : [Row.own el e nl f xs] = [Row.own el e nl f ys] := by rw [h]
theorem SO_zero : SO ⟨0, []⟩ := by simp [SO]

theorem toAttr_sat {a : AttrM}   : SatAt Tryz.prog 120 [.pv false (attrP a)] [] (fun res rows => res = [.pv true (attrP a)] ∧ rows = []) := by
 refine sat_entry_G (rs := [(2, some (52, 3))]) Tryz.func120 rfl rfl (Nat.le_of_ble_eq_true rfl) (Nat.le_of_ble_eq_true rfl) (resTs1 ⟨_, _, Tryz.underlying52, rfl, inf52, sz52⟩) fun C hC => ?_
 rw [Tryz.ntmps120]
 replace hC : C.nb = 0 := hC
 refine vc_seq fun K1 hK1 => ?_
 refine vc_region ?_
 refine vo_box rfl rfl ?_
 refine vo_stM ?_
 refine vo_alloc Z52 rfl ?_
 refine vo_stM ?_
 refine vo_nil ?_
 refine hK1 _ ?_
 refine vc_seq fun K2 hK2 => ?_
 refine vc_region ?_
 refine vo_alloc Z52 rfl ?_
 refine vo_stM ?_
 refine vo_nil ?_
 refine hK2 _ ?_
 refine vc_seq fun K3 hK3 => ?_
 refine vc_region ?_
 refine vo_fieldAddr_ptr rfl rfl Tryz.underlying157 rfl inf3 (by rw [sz3]; decide) ?_
 try simp only [Nat.zero_add]
 refine vo_load_var rfl rfl rfl Tryz.underlying3 rfl rfl ?_
 refine vo_fieldAddr_ptr rfl rfl Tryz.underlying52 rfl inf3 (by rw [sz3]; decide) ?_
 try simp only [Nat.zero_add]
 refine vo_store_var rfl rfl rfl rfl inf3 sz3 rfl ?_
 refine vo_stM ?_
 refine vo_nil ?_
 refine hK3 _ ?_
 refine vc_seq fun K4 hK4 => ?_
 refine vc_region ?_
 refine vo_fieldAddr_ptr rfl rfl Tryz.underlying157 rfl inf3 (by rw [sz3]; decide) ?_
 try simp only [Nat.zero_add]
 refine vo_load_var rfl rfl rfl Tryz.underlying3 rfl rfl ?_
 refine vo_fieldAddr_ptr rfl rfl Tryz.underlying52 rfl inf3 (by rw [sz3]; decide) ?_
 try simp only [Nat.zero_add]
 refine vo_store_var rfl rfl rfl rfl inf3 sz3 rfl ?_
 refine vo_stM ?_
 refine vo_nil ?_
 refine hK4 _ ?_
 refine vc_seq fun K5 hK5 => ?_
 refine vc_region ?_
 refine vo_fieldAddr_ptr rfl rfl Tryz.underlying157 rfl inf3 (by rw [sz3]; decide) ?_
 try simp only [Nat.zero_add]
 refine vo_load_var rfl rfl rfl Tryz.underlying3 rfl rfl ?_
 refine vo_fieldAddr_ptr rfl rfl Tryz.underlying52 rfl inf3 (by rw [sz3]; decide) ?_
 try simp only [Nat.zero_add]
 refine vo_store_var rfl rfl rfl rfl inf3 sz3 rfl ?_
 refine vo_stM ?_
 refine vo_nil ?_
 refine hK5 _ ?_
 refine vc_seq fun K6 hK6 => ?_
 refine vc_region ?_
 refine vo_load_varS rfl rfl rfl Tryz.underlying52 rfl inf52 sz52 rfl rfl ?_
 refine vo_store_varS rfl rfl rfl inf52 sz52 rfl ?_
 refine vo_stM ?_
 refine vo_nil ?_
 refine hK6 _ ?_
 refine vc_ret ?_
 change retQ _ _ _ _ _
 refine retQ_sel [] (srows := []) (.inr rfl) hC rfl rfl rfl rfl rfl rfl rfl ?_
 exact ⟨rfl, rfl⟩


theorem eqAttr_sat {a : AttrM} {b : AttrM}   : SatAt Tryz.prog 122 [.pv false (attrP a), .pv false (attrP b)] [] (fun res rows => res = [bo (decide (a = b))] ∧ rows = []) := by
 refine sat_entry_G (rs := [(4, none)]) Tryz.func122 rfl rfl (Nat.le_of_ble_eq_true rfl) (Nat.le_of_ble_eq_true rfl) (resTs1 trivial) fun C hC => ?_
 rw [Tryz.ntmps122]
 replace hC : C.nb = 0 := hC
 refine vc_seq fun K1 hK1 => ?_
 refine vc_region ?_
 refine vo_box rfl rfl ?_
 refine vo_stM ?_
 refine vo_box rfl rfl ?_
 refine vo_stM ?_
 refine vo_assign_pv rfl rfl ?_
 refine vo_nil ?_
 refine hK1 _ ?_
 refine vc_seq fun K2 hK2 => ?_
 refine vc_seq fun K3 hK3 => ?_
 refine vc_region ?_
 refine vo_fieldAddr_ptr rfl rfl Tryz.underlying52 rfl inf3 (by rw [sz3]; decide) ?_
 try simp only [Nat.zero_add]
 refine vo_load_var rfl rfl rfl Tryz.underlying3 rfl rfl ?_
 refine vo_fieldAddr_ptr rfl rfl Tryz.underlying52 rfl inf3 (by rw [sz3]; decide) ?_
 try simp only [Nat.zero_add]
 refine vo_load_var rfl rfl rfl Tryz.underlying3 rfl rfl ?_
 refine vo_binI rfl rfl rfl rfl trivial ?_
 refine vo_nil ?_
 refine hK3 _ ?_
 refine vc_cond rfl (fun hc1 => ?_) (fun hc1 => ?_)
 ·try simp only [zq0, zq1, zq2, zq3, zq4, zq5, zq6, zq7, zq8, zq9, zqa, zqb, zqc, zqd, zqe, zqf] at hc1
  refine vc_seq fun K4 hK4 => ?_
  refine vc_region ?_
  refine vo_assign_pv rfl rfl ?_
  refine vo_nil ?_
  refine hK4 _ ?_
  refine vc_ret ?_
  change retQ _ _ _ _ _
  refine retQ_sel [] (srows := []) (.inr rfl) hC rfl rfl rfl rfl rfl rfl rfl ?_
  refine ⟨?_, rfl⟩
  refine (congrArg (fun b => [bo b]) (?_ : _ = _) : [bo _] = [bo _])
  cases a; cases b; simp_all
 ·try simp only [zq0, zq1, zq2, zq3, zq4, zq5, zq6, zq7, zq8, zq9, zqa, zqb, zqc, zqd, zqe, zqf] at hc1
  refine vc_skip ?_
  refine hK2 _ ?_
  refine vc_seq fun K5 hK5 => ?_
  refine vc_seq fun K6 hK6 => ?_
  refine vc_region ?_
  refine vo_fieldAddr_ptr rfl rfl Tryz.underlying52 rfl inf3 (by rw [sz3]; decide) ?_
  try simp only [Nat.zero_add]
  refine vo_load_var rfl rfl rfl Tryz.underlying3 rfl rfl ?_
  refine vo_fieldAddr_ptr rfl rfl Tryz.underlying52 rfl inf3 (by rw [sz3]; decide) ?_
  try simp only [Nat.zero_add]
  refine vo_load_var rfl rfl rfl Tryz.underlying3 rfl rfl ?_
  refine vo_binI rfl rfl rfl rfl trivial ?_
  refine vo_nil ?_
  refine hK6 _ ?_
  refine vc_cond rfl (fun hc2 => ?_) (fun hc2 => ?_)
  ·try simp only [zq0, zq1, zq2, zq3, zq4, zq5, zq6, zq7, zq8, zq9, zqa, zqb, zqc, zqd, zqe, zqf] at hc2
   refine vc_seq fun K7 hK7 => ?_
   refine vc_region ?_
   refine vo_assign_pv rfl rfl ?_
   refine vo_nil ?_
   refine hK7 _ ?_
   refine vc_ret ?_
   change retQ _ _ _ _ _
   refine retQ_sel [] (srows := []) (.inr rfl) hC rfl rfl rfl rfl rfl rfl rfl ?_
   refine ⟨?_, rfl⟩
   refine (congrArg (fun b => [bo b]) (?_ : _ = _) : [bo _] = [bo _])
   cases a; cases b; simp_all
  ·try simp only [zq0, zq1, zq2, zq3, zq4, zq5, zq6, zq7, zq8, zq9, zqa, zqb, zqc, zqd, zqe, zqf] at hc2
   refine vc_skip ?_
   refine hK5 _ ?_
   refine vc_seq fun K8 hK8 => ?_
   refine vc_seq fun K9 hK9 => ?_
   refine vc_region ?_
   refine vo_fieldAddr_ptr rfl rfl Tryz.underlying52 rfl inf3 (by rw [sz3]; decide) ?_
   try simp only [Nat.zero_add]
   refine vo_load_var rfl rfl rfl Tryz.underlying3 rfl rfl ?_
   refine vo_fieldAddr_ptr rfl rfl Tryz.underlying52 rfl inf3 (by rw [sz3]; decide) ?_
   try simp only [Nat.zero_add]
   refine vo_load_var rfl rfl rfl Tryz.underlying3 rfl rfl ?_
   refine vo_binI rfl rfl rfl rfl trivial ?_
   refine vo_nil ?_
   refine hK9 _ ?_
   refine vc_cond rfl (fun hc3 => ?_) (fun hc3 => ?_)
   ·try simp only [zq0, zq1, zq2, zq3, zq4, zq5, zq6, zq7, zq8, zq9, zqa, zqb, zqc, zqd, zqe, zqf] at hc3
    refine vc_seq fun K10 hK10 => ?_
    refine vc_region ?_
    refine vo_assign_pv rfl rfl ?_
    refine vo_nil ?_
    refine hK10 _ ?_
    refine vc_ret ?_
    change retQ _ _ _ _ _
    refine retQ_sel [] (srows := []) (.inr rfl) hC rfl rfl rfl rfl rfl rfl rfl ?_
    refine ⟨?_, rfl⟩
    refine (congrArg (fun b => [bo b]) (?_ : _ = _) : [bo _] = [bo _])
    cases a; cases b; simp_all
   ·try simp only [zq0, zq1, zq2, zq3, zq4, zq5, zq6, zq7, zq8, zq9, zqa, zqb, zqc, zqd, zqe, zqf] at hc3
    refine vc_skip ?_
    refine hK8 _ ?_
    refine vc_seq fun K11 hK11 => ?_
    refine vc_region ?_
    refine vo_assign_pv rfl rfl ?_
    refine vo_nil ?_
    refine hK11 _ ?_
    refine vc_ret ?_
    change retQ _ _ _ _ _
    refine retQ_sel [] (srows := []) (.inr rfl) hC rfl rfl rfl rfl rfl rfl rfl ?_
    refine ⟨?_, rfl⟩
    refine (congrArg (fun b => [bo b]) (?_ : _ = _) : [bo _] = [bo _])
    cases a; cases b; simp_all


theorem eqAttrS_sat {nl0 : Option Bool} {a : List AttrM} {nl1 : Option Bool} {b : List AttrM} (ha : a.length < 1000000000) (hb : b.length < 1000000000)  : SatAt Tryz.prog 89 [.pv false (.sl nl0 3 (a.map attrP)), .pv false (.sl nl1 3 (b.map attrP))] [] (fun res rows => res = [bo (decide (a = b))] ∧ rows = []) := by
 refine sat_entry_G (rs := [(4, none)]) Tryz.func89 rfl rfl (Nat.le_of_ble_eq_true rfl) (Nat.le_of_ble_eq_true rfl) (resTs1 trivial) fun C hC => ?_
 rw [Tryz.ntmps89]
 replace hC : C.nb = 0 := hC
 refine vc_seq fun K1 hK1 => ?_
 refine vc_region ?_
 refine vo_assign_pv rfl rfl ?_
 refine vo_nil ?_
 refine hK1 _ ?_
 refine vc_seq fun K2 hK2 => ?_
 refine vc_seq fun K3 hK3 => ?_
 refine vc_region ?_
 refine vo_move_pv rfl rfl ?_
 refine vo_len_pv rfl rfl Tryz.underlying97 ?_
 refine vo_move_pv rfl rfl ?_
 refine vo_len_pv rfl rfl Tryz.underlying97 ?_
 refine vo_binI rfl rfl rfl rfl trivial ?_
 refine vo_nil ?_
 refine hK3 _ ?_
 refine vc_cond rfl (fun hc1 => ?_) (fun hc1 => ?_)
 ·try simp only [zq0, zq1, zq2, zq3, zq4, zq5, zq6, zq7, zq8, zq9, zqa, zqb, zqc, zqd, zqe, zqf] at hc1
  refine vc_seq fun K4 hK4 => ?_
  refine vc_region ?_
  refine vo_assign_pv rfl rfl ?_
  refine vo_nil ?_
  refine hK4 _ ?_
  refine vc_ret ?_
  change retQ _ _ _ _ _
  refine retQ_sel [] (srows := []) (.inr rfl) hC rfl rfl rfl rfl rfl rfl rfl ?_
  refine ⟨?_, rfl⟩
  refine (congrArg (fun b => [bo b]) (?_ : _ = _) : [bo _] = [bo _])
  exact bF fun h => by rw [h] at hc1; exact hc1 rfl
 ·try simp only [zq0, zq1, zq2, zq3, zq4, zq5, zq6, zq7, zq8, zq9, zqa, zqb, zqc, zqd, zqe, zqf] at hc1
  refine vc_skip ?_
  refine hK2 _ ?_
  refine vc_seq fun K5 hK5 => ?_
  refine vc_seq fun K6 hK6 => ?_
  refine vc_region ?_
  refine vo_assign_pv rfl rfl ?_
  refine vo_nil ?_
  refine hK6 _ ?_
  refine vc_block ?_
  refine vc_stM ?_
  refine vc_loopE [0, 1] [5] [] _ _ (fun mz vs rs => ∃ (k : Nat), mz = a.length - k ∧ (k ≤ a.length) ∧ (a.take k = b.take k) ∧ vs = [i64 k] ∧ rs = []) (a.length) rfl rfl (le_len hC rfl) ⟨rfl, rfl, rfl⟩ rfl ⟨0, rfl, Nat.zero_le _, (by simp), rfl, rfl⟩ ?_
  rintro mz vs rs - - ⟨k, rfl, hk, hf, rfl, rfl⟩
  refine vc_stM ?_
  refine vc_seq fun K7 hK7 => ?_
  refine vc_seq fun K8 hK8 => ?_
  refine vc_region ?_
  refine vo_move_pv rfl rfl ?_
  refine vo_move_pv rfl rfl ?_
  refine vo_len_pv rfl rfl Tryz.underlying97 ?_
  refine vo_binI rfl rfl rfl rfl trivial ?_
  refine vo_nil ?_
  refine hK8 _ ?_
  refine vc_cond rfl (fun hc2 => ?_) (fun hc2 => ?_)
  ·try simp only [zq0, zq1, zq2, zq3, zq4, zq5, zq6, zq7, zq8, zq9, zqa, zqb, zqc, zqd, zqe, zqf] at hc2
   refine vc_skip ?_
   refine hK7 _ ?_
   refine vc_seq fun K9 hK9 => ?_
   refine vc_block ?_
   refine vc_seq fun K10 hK10 => ?_
   refine vc_draw (by kernel_rfl) ?_
   change VD _ _ _ 10 _ _ _
   refine vd_light 0 rfl rfl rfl (by kernel_rfl) (by kernel_rfl) (by kernel_rfl) (wnt_none rfl) (lt_move_pv rfl) ?_
   refine vd_light 1 rfl rfl rfl (by kernel_rfl) (by kernel_rfl) (by kernel_rfl) (wnt_none rfl) (lt_move_pv rfl) ?_
   refine vd_light 2 rfl rfl rfl (by kernel_rfl) (by kernel_rfl) (by kernel_rfl) (wnt_none rfl) (lt_index_pv (.agg [(.int .i64 0), (.int .i64 0), (.int .i64 0)]) rfl rfl E97.und inf52 sz52 sd sd) ?_
   simp only [Int.toNat_natCast, Int.toNat_zero, getD_ints, getD_intss, getD_bools, getD_bytes, PV.cells, getD_ops, getD_pairs, getD_insts, getD_attrs, getD_attrss, getD_objs]
   refine vd_light 3 rfl rfl rfl (by kernel_rfl) (by kernel_rfl) (by kernel_rfl) (wnt_none rfl) (lt_load_adrS rfl Tryz.underlying52 rfl inf52 sz52 rfl) ?_
   refine vd_st (by (try simp only [St.put, PV.cells, PV.scal, List.drop_succ_cons, List.drop_zero, List.take_succ_cons, List.take_zero, List.map_cons, List.map_nil, Bool.or_true, Bool.or_false, Bool.false_or, Bool.true_or, opP, pairP, instP, heapP]); exact eq_refl _) ?_
   refine vd_light 4 rfl rfl rfl (by kernel_rfl) (by kernel_rfl) (by kernel_rfl) (wnt_none rfl) (lt_move_pv rfl) ?_
   refine vd_light 5 rfl rfl rfl (by kernel_rfl) (by kernel_rfl) (by kernel_rfl) (wnt_none rfl) (lt_move_pv rfl) ?_
   refine vd_light 6 rfl rfl rfl (by kernel_rfl) (by kernel_rfl) (by kernel_rfl) (wnt_none rfl) (lt_index_pv (.agg [(.int .i64 0), (.int .i64 0), (.int .i64 0)]) rfl rfl E97.und inf52 sz52 sd sd) ?_
   simp only [Int.toNat_natCast, Int.toNat_zero, getD_ints, getD_intss, getD_bools, getD_bytes, PV.cells, getD_ops, getD_pairs, getD_insts, getD_attrs, getD_attrss, getD_objs]
   refine vd_light 7 rfl rfl rfl (by kernel_rfl) (by kernel_rfl) (by kernel_rfl) (wnt_none rfl) (lt_load_adrS rfl Tryz.underlying52 rfl inf52 sz52 rfl) ?_
   refine vd_st (by (try simp only [St.put, PV.cells, PV.scal, List.drop_succ_cons, List.drop_zero, List.take_succ_cons, List.take_zero, List.map_cons, List.map_nil, Bool.or_true, Bool.or_false, Bool.false_or, Bool.true_or, opP, pairP, instP, heapP]); exact eq_refl _) ?_
   refine vd_call 8 rfl (by kernel_rfl) (wnt_none rfl) Tryz.func122 rfl rfl rfl rfl eqAttr_sat ?_
   rintro _ _ ⟨rfl, rfl⟩
   refine ⟨rfl, rfl, .inl rfl, ?_⟩
   refine vd_stM ?_
   refine vd_light 9 rfl rfl rfl (by kernel_rfl) (by kernel_rfl) (by kernel_rfl) (wnt_none rfl) (lt_not rfl) ?_
   refine vd_nil (by kernel_rfl) ?_
   refine hK10 _ ?_
   refine vc_cond rfl (fun hc3 => ?_) (fun hc3 => ?_)
   ·try simp only [zq0, zq1, zq2, zq3, zq4, zq5, zq6, zq7, zq8, zq9, zqa, zqb, zqc, zqd, zqe, zqf] at hc3
    refine vc_seq fun K11 hK11 => ?_
    refine vc_region ?_
    refine vo_assign_pv rfl rfl ?_
    refine vo_nil ?_
    refine hK11 _ ?_
    refine vc_ret ?_
    change retQ _ _ _ _ _
    refine retQ_sel [] (srows := []) (.inr rfl) hC rfl rfl rfl rfl rfl rfl rfl ?_
    refine ⟨?_, rfl⟩
    refine (congrArg (fun b => [bo b]) (?_ : _ = _) : [bo _] = [bo _])
    exact bF fun h => hc3 (by rw [h])
   ·try simp only [zq0, zq1, zq2, zq3, zq4, zq5, zq6, zq7, zq8, zq9, zqa, zqb, zqc, zqd, zqe, zqf] at hc3
    refine vc_skip ?_
    refine hK9 _ ?_
    refine vc_region ?_
    refine vo_move_pv rfl rfl ?_
    refine vo_binI rfl rfl rfl rfl sd ?_
    refine vo_assign_pv rfl rfl ?_
    refine vo_nil ?_
    change againE _ _ _ _ _ _ _ _ _ _
    refine againE_mk rfl rfl rfl rfl rfl rfl ⟨_, ?_, k + 1, rfl, ?_, ?_, rfl, rfl⟩
    ·omega
    ·omega
    ·exact (take_eqS ⟨0, 0, 0⟩ (by omega) (by omega)).2 ⟨hf, by first | assumption | (simpa using hc3)⟩
  ·try simp only [zq0, zq1, zq2, zq3, zq4, zq5, zq6, zq7, zq8, zq9, zqa, zqb, zqc, zqd, zqe, zqf] at hc2
   refine vc_exit ?_
   refine hK5 _ ?_
   refine vc_seq fun K12 hK12 => ?_
   refine vc_region ?_
   refine vo_assign_pv rfl rfl ?_
   refine vo_nil ?_
   refine hK12 _ ?_
   refine vc_ret ?_
   change retQ _ _ _ _ _
   refine retQ_sel [] (srows := []) (.inr rfl) hC rfl rfl rfl rfl rfl rfl rfl ?_
   refine ⟨?_, rfl⟩
   refine (congrArg (fun b => [bo b]) (?_ : _ = _) : [bo _] = [bo _])
   rw [take_all (by omega), take_all (by omega)] at hf; exact bT hf


theorem eqAttrSS_sat {nl0 : Option Bool} {a : List (List AttrM)} {nl1 : Option Bool} {b : List (List AttrM)} (ha : a.length < 1000000000) (hb : b.length < 1000000000) (hsa : ∀ l ∈ a, l.length < 1000000000) (hsb : ∀ l ∈ b, l.length < 1000000000) : SatAt Tryz.prog 42 [.pv false (.sl nl0 1 (a.map attrsP)), .pv false (.sl nl1 1 (b.map attrsP))] [] (fun res rows => res = [bo (decide (a = b))] ∧ rows = []) := by
 refine sat_entry_G (rs := [(4, none)]) Tryz.func42 rfl rfl (Nat.le_of_ble_eq_true rfl) (Nat.le_of_ble_eq_true rfl) (resTs1 trivial) fun C hC => ?_
 rw [Tryz.ntmps42]
 replace hC : C.nb = 0 := hC
 refine vc_seq fun K1 hK1 => ?_
 refine vc_region ?_
 refine vo_assign_pv rfl rfl ?_
 refine vo_nil ?_
 refine hK1 _ ?_
 refine vc_seq fun K2 hK2 => ?_
 refine vc_seq fun K3 hK3 => ?_
 refine vc_region ?_
 refine vo_move_pv rfl rfl ?_
 refine vo_len_pv rfl rfl Tryz.underlying30 ?_
 refine vo_move_pv rfl rfl ?_
 refine vo_len_pv rfl rfl Tryz.underlying30 ?_
 refine vo_binI rfl rfl rfl rfl trivial ?_
 refine vo_nil ?_
 refine hK3 _ ?_
 refine vc_cond rfl (fun hc1 => ?_) (fun hc1 => ?_)
 ·try simp only [zq0, zq1, zq2, zq3, zq4, zq5, zq6, zq7, zq8, zq9, zqa, zqb, zqc, zqd, zqe, zqf] at hc1
  refine vc_seq fun K4 hK4 => ?_
  refine vc_region ?_
  refine vo_assign_pv rfl rfl ?_
  refine vo_nil ?_
  refine hK4 _ ?_
  refine vc_ret ?_
  change retQ _ _ _ _ _
  refine retQ_sel [] (srows := []) (.inr rfl) hC rfl rfl rfl rfl rfl rfl rfl ?_
  refine ⟨?_, rfl⟩
  refine (congrArg (fun b => [bo b]) (?_ : _ = _) : [bo _] = [bo _])
  exact bF fun h => by rw [h] at hc1; exact hc1 rfl
 ·try simp only [zq0, zq1, zq2, zq3, zq4, zq5, zq6, zq7, zq8, zq9, zqa, zqb, zqc, zqd, zqe, zqf] at hc1
  refine vc_skip ?_
  refine hK2 _ ?_
  refine vc_seq fun K5 hK5 => ?_
  refine vc_seq fun K6 hK6 => ?_
  refine vc_region ?_
  refine vo_assign_pv rfl rfl ?_
  refine vo_nil ?_
  refine hK6 _ ?_
  refine vc_block ?_
  refine vc_stM ?_
  refine vc_loopE [0, 1] [5] [] _ _ (fun mz vs rs => ∃ (k : Nat), mz = a.length - k ∧ (k ≤ a.length) ∧ (a.take k = b.take k) ∧ vs = [i64 k] ∧ rs = []) (a.length) rfl rfl (le_len hC rfl) ⟨rfl, rfl, rfl⟩ rfl ⟨0, rfl, Nat.zero_le _, (by simp), rfl, rfl⟩ ?_
  rintro mz vs rs - - ⟨k, rfl, hk, hf, rfl, rfl⟩
  refine vc_stM ?_
  refine vc_seq fun K7 hK7 => ?_
  refine vc_seq fun K8 hK8 => ?_
  refine vc_region ?_
  refine vo_move_pv rfl rfl ?_
  refine vo_move_pv rfl rfl ?_
  refine vo_len_pv rfl rfl Tryz.underlying30 ?_
  refine vo_binI rfl rfl rfl rfl trivial ?_
  refine vo_nil ?_
  refine hK8 _ ?_
  refine vc_cond rfl (fun hc2 => ?_) (fun hc2 => ?_)
  ·try simp only [zq0, zq1, zq2, zq3, zq4, zq5, zq6, zq7, zq8, zq9, zqa, zqb, zqc, zqd, zqe, zqf] at hc2
   refine vc_skip ?_
   refine hK7 _ ?_
   refine vc_seq fun K9 hK9 => ?_
   refine vc_block ?_
   refine vc_seq fun K10 hK10 => ?_
   refine vc_draw (by kernel_rfl) ?_
   change VD _ _ _ 10 _ _ _
   refine vd_light 0 rfl rfl rfl (by kernel_rfl) (by kernel_rfl) (by kernel_rfl) (wnt_none rfl) (lt_move_pv rfl) ?_
   refine vd_light 1 rfl rfl rfl (by kernel_rfl) (by kernel_rfl) (by kernel_rfl) (wnt_none rfl) (lt_move_pv rfl) ?_
   refine vd_light 2 rfl rfl rfl (by kernel_rfl) (by kernel_rfl) (by kernel_rfl) (wnt_none rfl) (lt_index_pv (.sl none 3 []) rfl rfl E30.und inf97 sz97 sd sd) ?_
   simp only [Int.toNat_natCast, Int.toNat_zero, getD_ints, getD_intss, getD_bools, getD_bytes, PV.cells, getD_ops, getD_pairs, getD_insts, getD_attrs, getD_attrss, getD_objs]
   refine vd_light 3 rfl rfl rfl (by kernel_rfl) (by kernel_rfl) (by kernel_rfl) (wnt_none rfl) (lt_load_adr rfl Tryz.underlying97 rfl) ?_
   refine vd_light 4 rfl rfl rfl (by kernel_rfl) (by kernel_rfl) (by kernel_rfl) (wnt_none rfl) (lt_move_pv rfl) ?_
   refine vd_light 5 rfl rfl rfl (by kernel_rfl) (by kernel_rfl) (by kernel_rfl) (wnt_none rfl) (lt_move_pv rfl) ?_
   refine vd_light 6 rfl rfl rfl (by kernel_rfl) (by kernel_rfl) (by kernel_rfl) (wnt_none rfl) (lt_index_pv (.sl none 3 []) rfl rfl E30.und inf97 sz97 sd sd) ?_
   simp only [Int.toNat_natCast, Int.toNat_zero, getD_ints, getD_intss, getD_bools, getD_bytes, PV.cells, getD_ops, getD_pairs, getD_insts, getD_attrs, getD_attrss, getD_objs]
   refine vd_light 7 rfl rfl rfl (by kernel_rfl) (by kernel_rfl) (by kernel_rfl) (wnt_none rfl) (lt_load_adr rfl Tryz.underlying97 rfl) ?_
   refine vd_call 8 rfl (by kernel_rfl) (wnt_none rfl) Tryz.func89 rfl rfl rfl rfl (eqAttrS_sat (getD_all (p := fun l : List AttrM => l.length < 1000000000) hsa [] (by simp) _) (getD_all (p := fun l : List AttrM => l.length < 1000000000) hsb [] (by simp) _)) ?_
   rintro _ _ ⟨rfl, rfl⟩
   refine ⟨rfl, rfl, .inl rfl, ?_⟩
   refine vd_stM ?_
   refine vd_light 9 rfl rfl rfl (by kernel_rfl) (by kernel_rfl) (by kernel_rfl) (wnt_none rfl) (lt_not rfl) ?_
   refine vd_nil (by kernel_rfl) ?_
   refine hK10 _ ?_
   refine vc_cond rfl (fun hc3 => ?_) (fun hc3 => ?_)
   ·try simp only [zq0, zq1, zq2, zq3, zq4, zq5, zq6, zq7, zq8, zq9, zqa, zqb, zqc, zqd, zqe, zqf] at hc3
    refine vc_seq fun K11 hK11 => ?_
    refine vc_region ?_
    refine vo_assign_pv rfl rfl ?_
    refine vo_nil ?_
    refine hK11 _ ?_
    refine vc_ret ?_
    change retQ _ _ _ _ _
    refine retQ_sel [] (srows := []) (.inr rfl) hC rfl rfl rfl rfl rfl rfl rfl ?_
    refine ⟨?_, rfl⟩
    refine (congrArg (fun b => [bo b]) (?_ : _ = _) : [bo _] = [bo _])
    exact bF fun h => hc3 (by rw [h])
   ·try simp only [zq0, zq1, zq2, zq3, zq4, zq5, zq6, zq7, zq8, zq9, zqa, zqb, zqc, zqd, zqe, zqf] at hc3
    refine vc_skip ?_
    refine hK9 _ ?_
    refine vc_region ?_
    refine vo_move_pv rfl rfl ?_
    refine vo_binI rfl rfl rfl rfl sd ?_
    refine vo_assign_pv rfl rfl ?_
    refine vo_nil ?_
    change againE _ _ _ _ _ _ _ _ _ _
    refine againE_mk rfl rfl rfl rfl rfl rfl ⟨_, ?_, k + 1, rfl, ?_, ?_, rfl, rfl⟩
    ·omega
    ·omega
    ·exact (take_eqS [] (by omega) (by omega)).2 ⟨hf, by first | assumption | (simpa using hc3)⟩
  ·try simp only [zq0, zq1, zq2, zq3, zq4, zq5, zq6, zq7, zq8, zq9, zqa, zqb, zqc, zqd, zqe, zqf] at hc2
   refine vc_exit ?_
   refine hK5 _ ?_
   refine vc_seq fun K12 hK12 => ?_
   refine vc_region ?_
   refine vo_assign_pv rfl rfl ?_
   refine vo_nil ?_
   refine hK12 _ ?_
   refine vc_ret ?_
   change retQ _ _ _ _ _
   refine retQ_sel [] (srows := []) (.inr rfl) hC rfl rfl rfl rfl rfl rfl rfl ?_
   refine ⟨?_, rfl⟩
   refine (congrArg (fun b => [bo b]) (?_ : _ = _) : [bo _] = [bo _])
   rw [take_all (by omega), take_all (by omega)] at hf; exact bT hf


theorem eqObject_sat {a : ObjM} {b : ObjM}  (ha : SO a) (hb : SO b) : SatAt Tryz.prog 90 [.pv false (objP a), .pv false (objP b)] [] (fun res rows => res = [bo (decide (a = b))] ∧ rows = []) := by
 unfold SO at ha hb
 refine sat_entry_G (rs := [(4, none)]) Tryz.func90 rfl rfl (Nat.le_of_ble_eq_true rfl) (Nat.le_of_ble_eq_true rfl) (resTs1 trivial) fun C hC => ?_
 rw [Tryz.ntmps90]
 replace hC : C.nb = 0 := hC
 refine vc_seq fun K1 hK1 => ?_
 refine vc_region ?_
 refine vo_box rfl rfl ?_
 refine vo_stM ?_
 refine vo_box rfl rfl ?_
 refine vo_stM ?_
 refine vo_assign_pv rfl rfl ?_
 refine vo_nil ?_
 refine hK1 _ ?_
 refine vc_seq fun K2 hK2 => ?_
 refine vc_seq fun K3 hK3 => ?_
 refine vc_region ?_
 refine vo_fieldAddr_ptr rfl rfl Tryz.underlying57 rfl inf3 (by rw [sz3]; decide) ?_
 try simp only [Nat.zero_add]
 refine vo_load_var rfl rfl rfl Tryz.underlying3 rfl rfl ?_
 refine vo_fieldAddr_ptr rfl rfl Tryz.underlying57 rfl inf3 (by rw [sz3]; decide) ?_
 try simp only [Nat.zero_add]
 refine vo_load_var rfl rfl rfl Tryz.underlying3 rfl rfl ?_
 refine vo_binI rfl rfl rfl rfl trivial ?_
 refine vo_nil ?_
 refine hK3 _ ?_
 refine vc_cond rfl (fun hc1 => ?_) (fun hc1 => ?_)
 ·try simp only [zq0, zq1, zq2, zq3, zq4, zq5, zq6, zq7, zq8, zq9, zqa, zqb, zqc, zqd, zqe, zqf] at hc1
  refine vc_seq fun K4 hK4 => ?_
  refine vc_region ?_
  refine vo_assign_pv rfl rfl ?_
  refine vo_nil ?_
  refine hK4 _ ?_
  refine vc_ret ?_
  change retQ _ _ _ _ _
  refine retQ_sel [] (srows := []) (.inr rfl) hC rfl rfl rfl rfl rfl rfl rfl ?_
  refine ⟨?_, rfl⟩
  refine (congrArg (fun b => [bo b]) (?_ : _ = _) : [bo _] = [bo _])
  cases a; cases b; simp_all
 ·try simp only [zq0, zq1, zq2, zq3, zq4, zq5, zq6, zq7, zq8, zq9, zqa, zqb, zqc, zqd, zqe, zqf] at hc1
  refine vc_skip ?_
  refine hK2 _ ?_
  refine vc_seq fun K5 hK5 => ?_
  refine vc_seq fun K6 hK6 => ?_
  refine vc_region ?_
  refine vo_fieldAddr_ptr rfl rfl Tryz.underlying57 rfl inf55 (by rw [sz55]; decide) ?_
  try simp only [Nat.zero_add]
  refine vo_load_var rfl rfl rfl Tryz.underlying55 rfl rfl ?_
  refine vo_fieldAddr_ptr rfl rfl Tryz.underlying57 rfl inf55 (by rw [sz55]; decide) ?_
  try simp only [Nat.zero_add]
  refine vo_load_var rfl rfl rfl Tryz.underlying55 rfl rfl ?_
  refine vo_call0 Tryz.func123 rfl rfl rfl rfl (eqPairS_sat (by omega) (by omega)) ?_
  rintro _ _ ⟨rfl, rfl⟩
  refine ⟨rfl, rfl, .inl rfl, ?_⟩
  refine vo_stM ?_
  refine vo_not rfl rfl ?_
  refine vo_nil ?_
  refine hK6 _ ?_
  refine vc_cond rfl (fun hc2 => ?_) (fun hc2 => ?_)
  ·try simp only [zq0, zq1, zq2, zq3, zq4, zq5, zq6, zq7, zq8, zq9, zqa, zqb, zqc, zqd, zqe, zqf] at hc2
   refine vc_seq fun K7 hK7 => ?_
   refine vc_region ?_
   refine vo_assign_pv rfl rfl ?_
   refine vo_nil ?_
   refine hK7 _ ?_
   refine vc_ret ?_
   change retQ _ _ _ _ _
   refine retQ_sel [] (srows := []) (.inr rfl) hC rfl rfl rfl rfl rfl rfl rfl ?_
   refine ⟨?_, rfl⟩
   refine (congrArg (fun b => [bo b]) (?_ : _ = _) : [bo _] = [bo _])
   cases a; cases b; simp_all
  ·try simp only [zq0, zq1, zq2, zq3, zq4, zq5, zq6, zq7, zq8, zq9, zqa, zqb, zqc, zqd, zqe, zqf] at hc2
   refine vc_skip ?_
   refine hK5 _ ?_
   refine vc_seq fun K8 hK8 => ?_
   refine vc_region ?_
   refine vo_assign_pv rfl rfl ?_
   refine vo_nil ?_
   refine hK8 _ ?_
   refine vc_ret ?_
   change retQ _ _ _ _ _
   refine retQ_sel [] (srows := []) (.inr rfl) hC rfl rfl rfl rfl rfl rfl rfl ?_
   refine ⟨?_, rfl⟩
   refine (congrArg (fun b => [bo b]) (?_ : _ = _) : [bo _] = [bo _])
   cases a; cases b; simp_all


theorem eqObjectS_sat {nl0 : Option Bool} {a : List ObjM} {nl1 : Option Bool} {b : List ObjM} (ha : a.length < 1000000000) (hb : b.length < 1000000000) (hsa : ∀ o ∈ a, SO o) (hsb : ∀ o ∈ b, SO o) : SatAt Tryz.prog 43 [.pv false (.sl nl0 2 (a.map objP)), .pv false (.sl nl1 2 (b.map objP))] [] (fun res rows => res = [bo (decide (a = b))] ∧ rows = []) := by
 refine sat_entry_G (rs := [(4, none)]) Tryz.func43 rfl rfl (Nat.le_of_ble_eq_true rfl) (Nat.le_of_ble_eq_true rfl) (resTs1 trivial) fun C hC => ?_
 rw [Tryz.ntmps43]
 replace hC : C.nb = 0 := hC
 refine vc_seq fun K1 hK1 => ?_
 refine vc_region ?_
 refine vo_assign_pv rfl rfl ?_
 refine vo_nil ?_
 refine hK1 _ ?_
 refine vc_seq fun K2 hK2 => ?_
 refine vc_seq fun K3 hK3 => ?_
 refine vc_region ?_
 refine vo_move_pv rfl rfl ?_
 refine vo_len_pv rfl rfl Tryz.underlying31 ?_
 refine vo_move_pv rfl rfl ?_
 refine vo_len_pv rfl rfl Tryz.underlying31 ?_
 refine vo_binI rfl rfl rfl rfl trivial ?_
 refine vo_nil ?_
 refine hK3 _ ?_
 refine vc_cond rfl (fun hc1 => ?_) (fun hc1 => ?_)
 ·try simp only [zq0, zq1, zq2, zq3, zq4, zq5, zq6, zq7, zq8, zq9, zqa, zqb, zqc, zqd, zqe, zqf] at hc1
  refine vc_seq fun K4 hK4 => ?_
  refine vc_region ?_
  refine vo_assign_pv rfl rfl ?_
  refine vo_nil ?_
  refine hK4 _ ?_
  refine vc_ret ?_
  change retQ _ _ _ _ _
  refine retQ_sel [] (srows := []) (.inr rfl) hC rfl rfl rfl rfl rfl rfl rfl ?_
  refine ⟨?_, rfl⟩
  refine (congrArg (fun b => [bo b]) (?_ : _ = _) : [bo _] = [bo _])
  exact bF fun h => by rw [h] at hc1; exact hc1 rfl
 ·try simp only [zq0, zq1, zq2, zq3, zq4, zq5, zq6, zq7, zq8, zq9, zqa, zqb, zqc, zqd, zqe, zqf] at hc1
  refine vc_skip ?_
  refine hK2 _ ?_
  refine vc_seq fun K5 hK5 => ?_
  refine vc_seq fun K6 hK6 => ?_
  refine vc_region ?_
  refine vo_assign_pv rfl rfl ?_
  refine vo_nil ?_
  refine hK6 _ ?_
  refine vc_block ?_
  refine vc_stM ?_
  refine vc_loopE [0, 1] [5] [] _ _ (fun mz vs rs => ∃ (k : Nat), mz = a.length - k ∧ (k ≤ a.length) ∧ (a.take k = b.take k) ∧ vs = [i64 k] ∧ rs = []) (a.length) rfl rfl (le_len hC rfl) ⟨rfl, rfl, rfl⟩ rfl ⟨0, rfl, Nat.zero_le _, (by simp), rfl, rfl⟩ ?_
  rintro mz vs rs - - ⟨k, rfl, hk, hf, rfl, rfl⟩
  refine vc_stM ?_
  refine vc_seq fun K7 hK7 => ?_
  refine vc_seq fun K8 hK8 => ?_
  refine vc_region ?_
  refine vo_move_pv rfl rfl ?_
  refine vo_move_pv rfl rfl ?_
  refine vo_len_pv rfl rfl Tryz.underlying31 ?_
  refine vo_binI rfl rfl rfl rfl trivial ?_
  refine vo_nil ?_
  refine hK8 _ ?_
  refine vc_cond rfl (fun hc2 => ?_) (fun hc2 => ?_)
  ·try simp only [zq0, zq1, zq2, zq3, zq4, zq5, zq6, zq7, zq8, zq9, zqa, zqb, zqc, zqd, zqe, zqf] at hc2
   refine vc_skip ?_
   refine hK7 _ ?_
   refine vc_seq fun K9 hK9 => ?_
   refine vc_block ?_
   refine vc_seq fun K10 hK10 => ?_
   refine vc_draw (by kernel_rfl) ?_
   change VD _ _ _ 10 _ _ _
   refine vd_light 0 rfl rfl rfl (by kernel_rfl) (by kernel_rfl) (by kernel_rfl) (wnt_none rfl) (lt_move_pv rfl) ?_
   refine vd_light 1 rfl rfl rfl (by kernel_rfl) (by kernel_rfl) (by kernel_rfl) (wnt_none rfl) (lt_move_pv rfl) ?_
   refine vd_light 2 rfl rfl rfl (by kernel_rfl) (by kernel_rfl) (by kernel_rfl) (wnt_none rfl) (lt_index_pv (.agg [(.int .i64 0), (.sl none 2 [])]) rfl rfl E31.und inf57 sz57 sd sd) ?_
   simp only [Int.toNat_natCast, Int.toNat_zero, getD_ints, getD_intss, getD_bools, getD_bytes, PV.cells, getD_ops, getD_pairs, getD_insts, getD_attrs, getD_attrss, getD_objs]
   refine vd_light 3 rfl rfl rfl (by kernel_rfl) (by kernel_rfl) (by kernel_rfl) (wnt_none rfl) (lt_load_adrS rfl Tryz.underlying57 rfl inf57 sz57 rfl) ?_
   refine vd_st (by (try simp only [St.put, PV.cells, PV.scal, List.drop_succ_cons, List.drop_zero, List.take_succ_cons, List.take_zero, List.map_cons, List.map_nil, Bool.or_true, Bool.or_false, Bool.false_or, Bool.true_or, opP, pairP, instP, heapP]); exact eq_refl _) ?_
   refine vd_light 4 rfl rfl rfl (by kernel_rfl) (by kernel_rfl) (by kernel_rfl) (wnt_none rfl) (lt_move_pv rfl) ?_
   refine vd_light 5 rfl rfl rfl (by kernel_rfl) (by kernel_rfl) (by kernel_rfl) (wnt_none rfl) (lt_move_pv rfl) ?_
   refine vd_light 6 rfl rfl rfl (by kernel_rfl) (by kernel_rfl) (by kernel_rfl) (wnt_none rfl) (lt_index_pv (.agg [(.int .i64 0), (.sl none 2 [])]) rfl rfl E31.und inf57 sz57 sd sd) ?_
   simp only [Int.toNat_natCast, Int.toNat_zero, getD_ints, getD_intss, getD_bools, getD_bytes, PV.cells, getD_ops, getD_pairs, getD_insts, getD_attrs, getD_attrss, getD_objs]
   refine vd_light 7 rfl rfl rfl (by kernel_rfl) (by kernel_rfl) (by kernel_rfl) (wnt_none rfl) (lt_load_adrS rfl Tryz.underlying57 rfl inf57 sz57 rfl) ?_
   refine vd_st (by (try simp only [St.put, PV.cells, PV.scal, List.drop_succ_cons, List.drop_zero, List.take_succ_cons, List.take_zero, List.map_cons, List.map_nil, Bool.or_true, Bool.or_false, Bool.false_or, Bool.true_or, opP, pairP, instP, heapP]); exact eq_refl _) ?_
   refine vd_call 8 rfl (by kernel_rfl) (wnt_none rfl) Tryz.func90 rfl rfl rfl rfl (eqObject_sat (getD_all hsa _ SO_zero _) (getD_all hsb _ SO_zero _)) ?_
   rintro _ _ ⟨rfl, rfl⟩
   refine ⟨rfl, rfl, .inl rfl, ?_⟩
   refine vd_stM ?_
   refine vd_light 9 rfl rfl rfl (by kernel_rfl) (by kernel_rfl) (by kernel_rfl) (wnt_none rfl) (lt_not rfl) ?_
   refine vd_nil (by kernel_rfl) ?_
   refine hK10 _ ?_
   refine vc_cond rfl (fun hc3 => ?_) (fun hc3 => ?_)
   ·try simp only [zq0, zq1, zq2, zq3, zq4, zq5, zq6, zq7, zq8, zq9, zqa, zqb, zqc, zqd, zqe, zqf] at hc3
    refine vc_seq fun K11 hK11 => ?_
    refine vc_region ?_
    refine vo_assign_pv rfl rfl ?_
    refine vo_nil ?_
    refine hK11 _ ?_
    refine vc_ret ?_
    change retQ _ _ _ _ _
    refine retQ_sel [] (srows := []) (.inr rfl) hC rfl rfl rfl rfl rfl rfl rfl ?_
    refine ⟨?_, rfl⟩
    refine (congrArg (fun b => [bo b]) (?_ : _ = _) : [bo _] = [bo _])
    exact bF fun h => hc3 (by rw [h])
   ·try simp only [zq0, zq1, zq2, zq3, zq4, zq5, zq6, zq7, zq8, zq9, zqa, zqb, zqc, zqd, zqe, zqf] at hc3
    refine vc_skip ?_
    refine hK9 _ ?_
    refine vc_region ?_
    refine vo_move_pv rfl rfl ?_
    refine vo_binI rfl rfl rfl rfl sd ?_
    refine vo_assign_pv rfl rfl ?_
    refine vo_nil ?_
    change againE _ _ _ _ _ _ _ _ _ _
    refine againE_mk rfl rfl rfl rfl rfl rfl ⟨_, ?_, k + 1, rfl, ?_, ?_, rfl, rfl⟩
    ·omega
    ·omega
    ·exact (take_eqS ⟨0, []⟩ (by omega) (by omega)).2 ⟨hf, by first | assumption | (simpa using hc3)⟩
  ·try simp only [zq0, zq1, zq2, zq3, zq4, zq5, zq6, zq7, zq8, zq9, zqa, zqb, zqc, zqd, zqe, zqf] at hc2
   refine vc_exit ?_
   refine hK5 _ ?_
   refine vc_seq fun K12 hK12 => ?_
   refine vc_region ?_
   refine vo_assign_pv rfl rfl ?_
   refine vo_nil ?_
   refine hK12 _ ?_
   refine vc_ret ?_
   change retQ _ _ _ _ _
   refine retQ_sel [] (srows := []) (.inr rfl) hC rfl rfl rfl rfl rfl rfl rfl ?_
   refine ⟨?_, rfl⟩
   refine (congrArg (fun b => [bo b]) (?_ : _ = _) : [bo _] = [bo _])
   rw [take_all (by omega), take_all (by omega)] at hf; exact bT hf

end Go.Vl

namespace Go.Vl
set_option linter.unusedVariables false
set_option linter.unusedSimpArgs false
open Go.Proofs

theorem len_le_of_sub {α : Type} [DecidableEq α] : ∀ {a b : List α}, a.Nodup → (∀ p ∈ a, p ∈ b) → a.length ≤ b.length
  | [], b, _, _ => by simp
  | x :: xs, b, ha, hs => by
    have hx : x ∈ b := hs x (by simp)
    have h1 : b.Perm (x :: b.erase x) := List.perm_cons_erase hx
    have hn := List.nodup_cons.1 ha
    have h2 := len_le_of_sub (b := b.erase x) hn.2 fun p hp => by
      have hne : p ≠ x := fun e => hn.1 (by rw [← e]; exact hp)
      exact (List.mem_erase_of_ne hne).2 (hs p (by simp [hp]))
    have := h1.length_eq; simp at this ⊢; omega
/-- The places of the values that are there. -/
def plc (vs : List Int) (k : Nat) : List Int := ((List.range k).filter fun i => decide (vs.getD i 0 ≠ -1)).map Int.ofNat
def TPl (order vs : List Int) : Prop := (∀ x ∈ plc vs vs.length, x ∈ order) ∧ order.length = (plc vs vs.length).length
instance (a b : List Int) : Decidable (TPl a b) := by unfold TPl; exact inferInstance
def okPair (p : Int × Int) : Prop := (0 ≤ p.1 ∧ p.1 ≤ 9) ∧ (0 ≤ p.2 ∧ p.2 ≤ 99)
instance (p : Int × Int) : Decidable (okPair p) := by unfold okPair; exact inferInstance
def AOwn (l : List (Int × Int)) : Prop := (nms l).Nodup ∧ ∀ p ∈ l, okPair p
instance (l : List (Int × Int)) : Decidable (AOwn l) := by unfold AOwn; exact inferInstance
theorem aown_len {l : List (Int × Int)} (h : AOwn l) : l.length ≤ 10 := by
  rw [← nms_len]
  refine len_le_of_sub (b := [0, 1, 2, 3, 4, 5, 6, 7, 8, 9]) h.1 fun x hx => ?_
  obtain ⟨p, hp, rfl⟩ := List.mem_map.1 hx
  have := (h.2 p hp).1
  have : p.1 = 0 ∨ p.1 = 1 ∨ p.1 = 2 ∨ p.1 = 3 ∨ p.1 = 4 ∨ p.1 = 5 ∨ p.1 = 6 ∨ p.1 = 7 ∨ p.1 = 8 ∨ p.1 = 9 := by omega
  simpa using this
def AShared (vs : List Int) : Prop := (∀ v ∈ vs, -1 ≤ v ∧ v ≤ 99) ∧ (vs.length = 0 ∨ 0 ≤ vs.getD (vs.length - 1) 0)
instance (l : List Int) : Decidable (AShared l) := by unfold AShared; exact inferInstance
def VInst (n : Nat) (x : InstM) : Prop := if x.shares = true then x.own.length = 0 ∧ x.values.length ≤ n ∧ AShared x.values ∧ TPl x.order x.values else x.order.length = 0 ∧ x.values.length = 0 ∧ AOwn x.own
instance (n : Nat) (x : InstM) : Decidable (VInst n x) := by unfold VInst; exact inferInstance
def VHeap (h : HeapM) : Prop := (h.keys.length ≤ 5 ∧ h.keys.Nodup) ∧ (∀ k ∈ h.keys, 0 ≤ k ∧ k ≤ 9) ∧ h.insts.length = 4 ∧ ∀ x ∈ h.insts, VInst h.keys.length x
instance (h : HeapM) : Decidable (VHeap h) := by unfold VHeap; exact inferInstance
/-- What trimming leaves. -/
def TrM (vs : List Int) (m : Nat) : Prop := m ≤ vs.length ∧ (∀ i, m ≤ i → i < vs.length → vs.getD i 0 = -1) ∧ (m = 0 ∨ vs.getD (m - 1) 0 ≠ -1)
theorem areOwn_sat {nl0 : Option Bool} {pairs : List (Int × Int)} (hpairs : pairs.length < 1000000000)  : SatAt Tryz.prog 71 [.pv false (.sl nl0 2 (pairs.map pairP))] [] (fun res rows => res = [bo (decide (AOwn pairs))] ∧ rows = []) := by
  refine sat_entry_G (rs := [(2, none)]) Tryz.func71 rfl rfl (Nat.le_of_ble_eq_true rfl) (Nat.le_of_ble_eq_true rfl) (resTs1 trivial) fun C hC => ?_
  rw [Tryz.ntmps71]
  replace hC : C.nb = 0 := hC
  refine vc_seq fun K1 hK1 => ?_
  refine vc_region ?_
  refine vo_assign_pv rfl rfl ?_
  refine vo_nil ?_
  refine hK1 _ ?_
  refine vc_seq fun K2 hK2 => ?_
  refine vc_seq fun K3 hK3 => ?_
  refine vc_region ?_
  refine vo_move_pv rfl rfl ?_
  refine vo_call0 Tryz.func108 rfl rfl rfl rfl (haveDifferentNames_sat hpairs) ?_
  rintro _ _ ⟨rfl, rfl⟩
  refine ⟨rfl, rfl, .inl rfl, ?_⟩
  refine vo_stM ?_
  refine vo_not rfl rfl ?_
  refine vo_nil ?_
  refine hK3 _ ?_
  refine vc_cond rfl (fun hc1 => ?_) (fun hc1 => ?_)
  · try simp only [zq0, zq1, zq2, zq3, zq4, zq5, zq6, zq7, zq8, zq9, zqa, zqb, zqc, zqd, zqe, zqf] at hc1
    refine vc_seq fun K4 hK4 => ?_
    refine vc_region ?_
    refine vo_assign_pv rfl rfl ?_
    refine vo_nil ?_
    refine hK4 _ ?_
    refine vc_ret ?_
    change retQ _ _ _ _ _
    refine retQ_sel [] (srows := []) (.inr rfl) hC rfl rfl rfl rfl rfl rfl rfl ?_
    refine ⟨?_, rfl⟩
    refine (congrArg (fun b => [bo b]) (?_ : _ = _) : [bo _] = [bo _])
    first
      | (exact bF fun h => absurd (⟨by have := aown_len h; omega, h.1⟩ : (pairs.length : Int) ≤ 10 ∧ (nms pairs).Nodup) (by assumption))
      | (refine bF fun h => ?_
         have h1 := h.2 _ (getD_mem (show k < pairs.length by omega) (0, 0))
         unfold okPair at h1; omega)
      | (rw [take_all (by omega)] at hf; exact bT ⟨by simp_all, hf⟩)
  · try simp only [zq0, zq1, zq2, zq3, zq4, zq5, zq6, zq7, zq8, zq9, zqa, zqb, zqc, zqd, zqe, zqf] at hc1
    refine vc_skip ?_
    refine hK2 _ ?_
    refine vc_seq fun K5 hK5 => ?_
    refine vc_seq fun K6 hK6 => ?_
    refine vc_region ?_
    refine vo_move_pv rfl rfl ?_
    refine vo_len_pv rfl rfl Tryz.underlying55 ?_
    refine vo_move_pv rfl rfl ?_
    refine vo_nil ?_
    refine hK6 _ ?_
    refine vc_block ?_
    refine vc_stM ?_
    refine vc_loopE [8, 9] [10] [] _ _ (fun mz vs rs => ∃ (k : Nat), mz = pairs.length - k ∧ (k ≤ pairs.length) ∧ (∀ p ∈ pairs.take k, okPair p) ∧ vs = [i64 k] ∧ rs = []) (pairs.length) rfl rfl (le_len hC rfl) ⟨rfl, rfl, rfl⟩ rfl ⟨0, rfl, Nat.zero_le _, (by simp), rfl, rfl⟩ ?_
    rintro mz vs rs - - ⟨k, rfl, hk, hf, rfl, rfl⟩
    refine vc_stM ?_
    refine vc_seq fun K7 hK7 => ?_
    refine vc_region ?_
    refine vo_binI rfl rfl rfl rfl trivial ?_
    refine vo_nil ?_
    refine hK7 _ ?_
    refine vc_seq fun K8 hK8 => ?_
    refine vc_cond rfl (fun hc2 => ?_) (fun hc2 => ?_)
    · try simp only [zq0, zq1, zq2, zq3, zq4, zq5, zq6, zq7, zq8, zq9, zqa, zqb, zqc, zqd, zqe, zqf] at hc2
      refine vc_skip ?_
      refine hK8 _ ?_
      refine vc_seq fun K9 hK9 => ?_
      refine vc_block ?_
      refine vc_seq fun K10 hK10 => ?_
      refine vc_region ?_
      refine vo_index_pv (.agg [(.int .i64 0), (.int .i64 0)]) rfl rfl rfl E55.und inf102 sz102 sd sd ?_
      simp only [Int.toNat_natCast, Int.toNat_zero, getD_ints, getD_intss, getD_bools, getD_bytes, PV.cells, getD_ops, getD_pairs, getD_insts]
      refine vo_load_adrS rfl rfl Tryz.underlying102 rfl inf102 sz102 rfl ?_
      refine vo_st (by (try simp only [St.put, PV.cells, PV.scal, List.drop_succ_cons, List.drop_zero, List.take_succ_cons, List.take_zero, List.map_cons, List.map_nil, Bool.or_true, Bool.or_false, Bool.false_or, Bool.true_or, opP, pairP, instP, heapP]); exact eq_refl _) ?_
      refine vo_alloc Z102 rfl ?_
      refine vo_stM ?_
      refine vo_store_varS rfl rfl rfl inf102 sz102 rfl ?_
      refine vo_stM ?_
      refine vo_nil ?_
      refine hK10 _ ?_
      refine vc_seq fun K11 hK11 => ?_
      refine vc_region ?_
      refine vo_fieldAddr_ptr rfl rfl Tryz.underlying102 rfl inf3 (by rw [sz3]; decide) ?_
      try simp only [Nat.zero_add]
      refine vo_load_var rfl rfl rfl Tryz.underlying3 rfl rfl ?_
      refine vo_call0 Tryz.func70 rfl rfl rfl rfl isUpTo_sat ?_
      rintro _ _ ⟨rfl, rfl⟩
      refine ⟨rfl, rfl, .inl rfl, ?_⟩
      refine vo_stM ?_
      refine vo_not rfl rfl ?_
      refine vo_move_pv rfl rfl ?_
      refine vo_split 18 rfl (fun hg3 => ?_) (fun hg3 => ?_)
      · try simp only [zq0, zq1, zq2, zq3, zq4, zq5, zq6, zq7, zq8, zq9, zqa, zqb, zqc, zqd, zqe, zqf] at hg3
        refine vo_guard_off rfl rfl rfl rfl rfl ?_
        refine vo_guard_off rfl rfl rfl rfl rfl ?_
        refine vo_guard_off rfl rfl rfl rfl rfl ?_
        refine vo_guard_off rfl rfl rfl rfl rfl ?_
        refine vo_pick_t rfl rfl ?_
        refine vo_nil ?_
        refine hK11 _ ?_
        refine vc_cond_t rfl ?_
        refine vc_seq fun K12 hK12 => ?_
        refine vc_region ?_
        refine vo_assign_pv rfl rfl ?_
        refine vo_nil ?_
        refine hK12 _ ?_
        refine vc_ret ?_
        change retQ _ _ _ _ _
        refine retQ_sel [] (srows := []) (.inr rfl) hC rfl rfl rfl rfl rfl rfl rfl ?_
        refine ⟨?_, rfl⟩
        refine (congrArg (fun b => [bo b]) (?_ : _ = _) : [bo _] = [bo _])
        first
          | (exact bF fun h => absurd (⟨by have := aown_len h; omega, h.1⟩ : (pairs.length : Int) ≤ 10 ∧ (nms pairs).Nodup) (by assumption))
          | (refine bF fun h => ?_
             have h1 := h.2 _ (getD_mem (show k < pairs.length by omega) (0, 0))
             unfold okPair at h1; omega)
          | (rw [take_all (by omega)] at hf; exact bT ⟨by simp_all, hf⟩)
      · try simp only [zq0, zq1, zq2, zq3, zq4, zq5, zq6, zq7, zq8, zq9, zqa, zqb, zqc, zqd, zqe, zqf] at hg3
        refine vo_guard_on rfl rfl rfl ?_
        refine vo_fieldAddr_ptr rfl rfl Tryz.underlying102 rfl inf3 (by rw [sz3]; decide) ?_
        try simp only [Nat.zero_add]
        refine vo_guard_on rfl rfl rfl ?_
        refine vo_load_var rfl rfl rfl Tryz.underlying3 rfl rfl ?_
        refine vo_guard_on rfl rfl rfl ?_
        refine vo_call0 Tryz.func70 rfl rfl rfl rfl isUpTo_sat ?_
        rintro _ _ ⟨rfl, rfl⟩
        refine ⟨rfl, rfl, .inl rfl, ?_⟩
        refine vo_stM ?_
        refine vo_guard_on rfl rfl rfl ?_
        refine vo_not rfl rfl ?_
        refine vo_pick_f rfl rfl ?_
        refine vo_nil ?_
        refine hK11 _ ?_
        refine vc_cond rfl (fun hc4 => ?_) (fun hc4 => ?_)
        · try simp only [zq0, zq1, zq2, zq3, zq4, zq5, zq6, zq7, zq8, zq9, zqa, zqb, zqc, zqd, zqe, zqf] at hc4
          refine vc_seq fun K13 hK13 => ?_
          refine vc_region ?_
          refine vo_assign_pv rfl rfl ?_
          refine vo_nil ?_
          refine hK13 _ ?_
          refine vc_ret ?_
          change retQ _ _ _ _ _
          refine retQ_sel [] (srows := []) (.inr rfl) hC rfl rfl rfl rfl rfl rfl rfl ?_
          refine ⟨?_, rfl⟩
          refine (congrArg (fun b => [bo b]) (?_ : _ = _) : [bo _] = [bo _])
          first
            | (exact bF fun h => absurd (⟨by have := aown_len h; omega, h.1⟩ : (pairs.length : Int) ≤ 10 ∧ (nms pairs).Nodup) (by assumption))
            | (refine bF fun h => ?_
               have h1 := h.2 _ (getD_mem (show k < pairs.length by omega) (0, 0))
               unfold okPair at h1; omega)
            | (rw [take_all (by omega)] at hf; exact bT ⟨by simp_all, hf⟩)
        · try simp only [zq0, zq1, zq2, zq3, zq4, zq5, zq6, zq7, zq8, zq9, zqa, zqb, zqc, zqd, zqe, zqf] at hc4
          refine vc_skip ?_
          refine hK9 _ ?_
          refine vc_region ?_
          refine vo_binI rfl rfl rfl rfl sd ?_
          refine vo_move_pv rfl rfl ?_
          refine vo_nil ?_
          change againE _ _ _ _ _ _ _ _ _ _
          refine againE_mk rfl rfl rfl rfl rfl rfl ⟨_, ?_, k + 1, rfl, ?_, ?_, rfl, rfl⟩
          · omega
          · omega
          · exact (all_take_succ (by omega) (0, 0)).2 ⟨hf, by unfold okPair; omega⟩
    · try simp only [zq0, zq1, zq2, zq3, zq4, zq5, zq6, zq7, zq8, zq9, zqa, zqb, zqc, zqd, zqe, zqf] at hc2
      refine vc_exit ?_
      refine hK5 _ ?_
      refine vc_seq fun K14 hK14 => ?_
      refine vc_region ?_
      refine vo_assign_pv rfl rfl ?_
      refine vo_nil ?_
      refine hK14 _ ?_
      refine vc_ret ?_
      change retQ _ _ _ _ _
      refine retQ_sel [] (srows := []) (.inr rfl) hC rfl rfl rfl rfl rfl rfl rfl ?_
      refine ⟨?_, rfl⟩
      refine (congrArg (fun b => [bo b]) (?_ : _ = _) : [bo _] = [bo _])
      first
        | (exact bF fun h => absurd (⟨by have := aown_len h; omega, h.1⟩ : (pairs.length : Int) ≤ 10 ∧ (nms pairs).Nodup) (by assumption))
        | (refine bF fun h => ?_
           have h1 := h.2 _ (getD_mem (show k < pairs.length by omega) (0, 0))
           unfold okPair at h1; omega)
        | (rw [take_all (by omega)] at hf; exact bT ⟨by simp_all, hf⟩)


end Go.Vl

namespace Go.Vl
set_option linter.unusedVariables false
set_option linter.unusedSimpArgs false
open Go.Proofs

theorem markIntS_sat {Rc : TypeId} {nl : Option Bool} {a : List Int} {k : Int} (ha : a.length < 1000000000) (hk : 0 ≤ k ∧ k < 4000000000000000000) : SatAt Tryz.prog 17 [.ref 0, i64 k] [.own Rc 1 nl false (a.map intP)] (fun res rows => ∃ ys, rows = [.own Rc 1 nl false ys] ∧ plainX ys ∧ res.all SV.isScal = true ∧ (res = [i64 (k + a.length)] ∧ ys = (markL k a.length).map intP)) := by
 refine sat_entry_g (ts := [4]) Tryz.func17 rfl rfl (by decide) (Nat.le_of_ble_eq_true rfl) fun C hC => ?_
 rw [Tryz.ntmps17]
 replace hC : C.nb = 1 := hC
 refine vc_seq fun K1 hK1 => ?_
 refine vc_region ?_
 refine vo_assign_pv rfl rfl ?_
 refine vo_nil ?_
 refine hK1 _ ?_
 refine vc_seq fun K2 hK2 => ?_
 refine vc_seq fun K3 hK3 => ?_
 refine vc_region ?_
 refine vo_assign_pv rfl rfl ?_
 refine vo_nil ?_
 refine hK3 _ ?_
 refine vc_block ?_
 refine vc_stN ?_
 refine vc_loop [0, 1, 5] (fun mz vs rows => ∃ (i : Nat) (y : Int), mz = a.length - i ∧ (i ≤ a.length) ∧ (y = k + i) ∧ vs = [.ref 0, i64 y, i64 i] ∧ rows = [.own Rc 1 nl false ((markL k i ++ a.drop i).map intP)]) (a.length) (le_len hC rfl) ⟨rfl, rfl⟩ ⟨0, k, rfl, Nat.zero_le _, (by simp), rfl, rfl⟩ ?_
 rintro mz vs rows - - ⟨i, y, rfl, hi, hy, rfl, rfl⟩
 have hL : (markL k i ++ a.drop i).length = a.length := by rw [List.length_append, markL_len, List.length_drop]; omega
 refine vc_seq fun K4 hK4 => ?_
 refine vc_seq fun K5 hK5 => ?_
 refine vc_region ?_
 refine vo_move_pv rfl rfl ?_
 refine vo_move_ref rfl rfl ?_
 refine vo_len_ref rfl rfl rfl Tryz.underlying28 ?_
 refine vo_binI rfl rfl rfl rfl trivial ?_
 refine vo_nil ?_
 refine hK5 _ ?_
 refine vc_cond rfl (fun hc1 => ?_) (fun hc1 => ?_)
 ·try simp only [zq0, zq1, zq2, zq3, zq4, zq5, zq6, zq7, zq8, zq9, zqa, zqb, zqc, zqd, zqe, zqf] at hc1
  refine vc_skip ?_
  refine hK4 _ ?_
  refine vc_seq fun K6 hK6 => ?_
  refine vc_block ?_
  refine vc_seq fun K7 hK7 => ?_
  refine vc_region ?_
  refine vo_move_ref rfl rfl ?_
  refine vo_move_pv rfl rfl ?_
  refine vo_move_pv rfl rfl ?_
  refine vo_index_ref rfl rfl rfl rfl E28.und inf3 sz3 sd sd ?_
  try simp only [Int.toNat_natCast]
  refine vo_store_own rfl rfl rfl inf3 sz3 (by decide) rfl sd ?_
  try simp only [set_ints, set_intss, set_bools, rep_bools, rep_ints, Int.toNat_natCast, Int.toNat_zero]
  refine vo_nil ?_
  refine hK7 _ ?_
  refine vc_region ?_
  refine vo_move_pv rfl rfl ?_
  refine vo_binI rfl rfl rfl rfl sd ?_
  refine vo_assign_pv rfl rfl ?_
  refine vo_nil ?_
  refine hK6 _ ?_
  refine vc_region ?_
  refine vo_move_pv rfl rfl ?_
  refine vo_binI rfl rfl rfl rfl sd ?_
  refine vo_assign_pv rfl rfl ?_
  refine vo_nil ?_
  change again _ _ _ _ _ _
  refine again_mk rfl rfl rfl rfl ⟨_, ?_, i + 1, y + 1, rfl, ?_, ?_, rfl, (rows_eq (g := intP) (by rw [hy]; exact mark_set k a i (by omega)))⟩
  ·omega
  ·omega
  ·omega
 ·try simp only [zq0, zq1, zq2, zq3, zq4, zq5, zq6, zq7, zq8, zq9, zqa, zqb, zqc, zqd, zqe, zqf] at hc1
  refine vc_exit ?_
  refine hK2 _ ?_
  refine vc_seq fun K8 hK8 => ?_
  refine vc_region ?_
  refine vo_move_pv rfl rfl ?_
  refine vo_assign_pv rfl rfl ?_
  refine vo_nil ?_
  refine hK8 _ ?_
  refine vc_ret ?_
  change retG _ _ _ _ _
  refine retG_sel [] [] hC rfl rfl rfl rfl rfl rfl ?_
  refine ⟨_, rfl, plain_ints _, rfl, ?_, ?_⟩
  ·rw [show y = k + a.length by omega]; rfl
  ·rw [List.drop_eq_nil_of_le (by omega), List.append_nil, show i = a.length by omega]


theorem heldIntS_sat {nl : Option Bool} {n : Nat} {k : Int} (hn : n < 1000000000) (hk : 0 ≤ k ∧ k < 4000000000000000000) : SatAt Tryz.prog 18 [.pv false (.sl nl 1 ((markL k n).map intP)), i64 k] [] (fun res rows => res = [i64 (k + n)] ∧ rows = []) := by
 have hL := markL_len k n
 refine sat_entry (ts := [4]) Tryz.func18 rfl rfl (by decide) (Nat.le_of_ble_eq_true rfl) fun C hC => ?_
 rw [Tryz.ntmps18]
 replace hC : C.nb = 0 := hC
 refine vc_seq fun K1 hK1 => ?_
 refine vc_region ?_
 refine vo_assign_pv rfl rfl ?_
 refine vo_nil ?_
 refine hK1 _ ?_
 refine vc_seq fun K2 hK2 => ?_
 refine vc_seq fun K3 hK3 => ?_
 refine vc_region ?_
 refine vo_assign_pv rfl rfl ?_
 refine vo_nil ?_
 refine hK3 _ ?_
 refine vc_block ?_
 refine vc_stN ?_
 refine vc_loopF [0] [1, 5] [.pv false (.sl nl 1 ((markL k n).map intP))] _ (fun mz vs => ∃ (i : Nat) (y : Int), mz = n - i ∧ (i ≤ n) ∧ (y = k + i) ∧ vs = [i64 y, i64 i]) (n) rfl rfl (le_len hC rfl) ⟨rfl, rfl, rfl⟩ ⟨0, k, rfl, Nat.zero_le _, (by simp), rfl⟩ ?_
 rintro mz vs - ⟨i, y, rfl, hi, hy, rfl⟩
 refine vc_stN ?_
 refine vc_seq fun K4 hK4 => ?_
 refine vc_seq fun K5 hK5 => ?_
 refine vc_region ?_
 refine vo_move_pv rfl rfl ?_
 refine vo_move_pv rfl rfl ?_
 refine vo_len_pv rfl rfl Tryz.underlying28 ?_
 refine vo_binI rfl rfl rfl rfl trivial ?_
 refine vo_nil ?_
 refine hK5 _ ?_
 refine vc_cond rfl (fun hc1 => ?_) (fun hc1 => ?_)
 ·try simp only [zq0, zq1, zq2, zq3, zq4, zq5, zq6, zq7, zq8, zq9, zqa, zqb, zqc, zqd, zqe, zqf] at hc1
  refine vc_skip ?_
  refine hK4 _ ?_
  refine vc_seq fun K6 hK6 => ?_
  refine vc_block ?_
  refine vc_seq fun K7 hK7 => ?_
  refine vc_seq fun K8 hK8 => ?_
  refine vc_region ?_
  refine vo_move_pv rfl rfl ?_
  refine vo_move_pv rfl rfl ?_
  refine vo_index_pv (.int .i64 0) rfl rfl rfl E28.und inf3 sz3 sd sd ?_
  simp only [Int.toNat_natCast, Int.toNat_zero, getD_ints, getD_intss, getD_bools, getD_bytes, PV.cells]
  refine vo_load_adr rfl rfl Tryz.underlying3 rfl ?_
  refine vo_move_pv rfl rfl ?_
  refine vo_binI rfl rfl rfl rfl trivial ?_
  refine vo_nil ?_
  refine hK8 _ ?_
  refine vc_cond rfl (fun hc2 => ?_) (fun hc2 => ?_)
  ·try simp only [zq0, zq1, zq2, zq3, zq4, zq5, zq6, zq7, zq8, zq9, zqa, zqb, zqc, zqd, zqe, zqf] at hc2
   refine vc_seq fun K9 hK9 => ?_
   refine vc_region ?_
   refine vo_assign_pv rfl rfl ?_
   refine vo_nil ?_
   refine hK9 _ ?_
   refine vc_ret ?_
   change retPv _ _ _ _ _
   refine retPv_mk rfl rfl rfl ⟨?_, rfl⟩
   have := markL_get k n i (by omega)
   omega
  ·try simp only [zq0, zq1, zq2, zq3, zq4, zq5, zq6, zq7, zq8, zq9, zqa, zqb, zqc, zqd, zqe, zqf] at hc2
   refine vc_skip ?_
   refine hK7 _ ?_
   refine vc_region ?_
   refine vo_move_pv rfl rfl ?_
   refine vo_binI rfl rfl rfl rfl sd ?_
   refine vo_assign_pv rfl rfl ?_
   refine vo_nil ?_
   refine hK6 _ ?_
   refine vc_region ?_
   refine vo_move_pv rfl rfl ?_
   refine vo_binI rfl rfl rfl rfl sd ?_
   refine vo_assign_pv rfl rfl ?_
   refine vo_nil ?_
   change againF _ _ _ _ _ _ _ _ _
   refine againF_mk rfl rfl rfl rfl rfl rfl ⟨_, ?_, i + 1, y + 1, rfl, ?_, ?_, rfl⟩
   ·omega
   ·omega
   ·omega
 ·try simp only [zq0, zq1, zq2, zq3, zq4, zq5, zq6, zq7, zq8, zq9, zqa, zqb, zqc, zqd, zqe, zqf] at hc1
  refine vc_exit ?_
  refine hK2 _ ?_
  refine vc_seq fun K10 hK10 => ?_
  refine vc_region ?_
  refine vo_move_pv rfl rfl ?_
  refine vo_assign_pv rfl rfl ?_
  refine vo_nil ?_
  refine hK10 _ ?_
  refine vc_ret ?_
  change retPv _ _ _ _ _
  refine retPv_mk rfl rfl rfl ⟨?_, rfl⟩
  rw [show y = k + n by omega]; rfl


theorem markIntSS_sat {R : TypeId} {nl : Option Bool} {L : List (List Int)} {k : Int} (hL : L.length ≤ 2000000) (hl : ∀ l ∈ L, l.length ≤ 2000000) (hk : 0 ≤ k ∧ k < 1000000000000000) : SatAt Tryz.prog 44 [.ref 0, i64 k] [.tree R 1 nl none (L.map ints)] (fun res rows => ∃ (v : Int) (L2 : List (List Int)), (k ≤ v ∧ v ≤ k + 2000000 * L.length) ∧ res = [i64 v] ∧ rows = [.tree R 1 nl none (L2.map ints)]) := by
 refine sat_entry_g (ts := [4]) Tryz.func44 rfl rfl (by decide) (Nat.le_of_ble_eq_true rfl) fun C hC => ?_
 rw [Tryz.ntmps44]
 replace hC : C.nb = 1 := hC
 refine vc_seq fun K1 hK1 => ?_
 refine vc_region ?_
 refine vo_assign_pv rfl rfl ?_
 refine vo_nil ?_
 refine hK1 _ ?_
 refine vc_seq fun K2 hK2 => ?_
 refine vc_seq fun K3 hK3 => ?_
 refine vc_region ?_
 refine vo_assign_pv rfl rfl ?_
 refine vo_nil ?_
 refine hK3 _ ?_
 refine vc_block ?_
 refine vc_stN ?_
 refine vc_loop [0, 1, 5] (fun mz vs rows => ∃ (i : Nat) (y : Int) (L2 : List (List Int)), mz = L.length - i ∧ (i ≤ L.length) ∧ (L2.length = L.length) ∧ (∀ l ∈ L2, l.length ≤ 2000000) ∧ (k ≤ y ∧ y ≤ k + 2000000 * i) ∧ vs = [.ref 0, i64 y, i64 i] ∧ rows = [.tree R 1 nl none (L2.map ints)]) (L.length) (le_len hC rfl) ⟨rfl, rfl⟩ ⟨0, k, L, rfl, Nat.zero_le _, rfl, hl, (by omega), rfl, rfl⟩ ?_
 rintro mz vs rows - - ⟨i, y, L2, rfl, hi, hl2, hm2, hy, rfl, rfl⟩
 have hx := lens2 hm2 i
 refine vc_seq fun K4 hK4 => ?_
 refine vc_seq fun K5 hK5 => ?_
 refine vc_region ?_
 refine vo_move_pv rfl rfl ?_
 refine vo_move_ref rfl rfl ?_
 refine vo_len_ref rfl rfl rfl Tryz.underlying22 ?_
 refine vo_binI rfl rfl rfl rfl trivial ?_
 refine vo_nil ?_
 refine hK5 _ ?_
 refine vc_cond rfl (fun hc1 => ?_) (fun hc1 => ?_)
 ·try simp only [zq0, zq1, zq2, zq3, zq4, zq5, zq6, zq7, zq8, zq9, zqa, zqb, zqc, zqd, zqe, zqf] at hc1
  refine vc_skip ?_
  refine hK4 _ ?_
  refine vc_seq fun K6 hK6 => ?_
  refine vc_block ?_
  refine vc_region ?_
  refine vo_move_ref rfl rfl ?_
  refine vo_move_pv rfl rfl ?_
  refine vo_index_ref rfl rfl rfl rfl E22.und inf28 sz28 sd sd ?_
  try simp only [Int.toNat_natCast]
  refine vo_load_sub rfl rfl rfl Tryz.underlying28 rfl sd fun u1 => ?_
  refine vo_stN ?_
  refine vo_move_pv rfl rfl ?_
  refine vo_call_sub (id := 0) Tryz.func17 rfl rfl rfl rfl rfl (get_intss (by omega)) (plain_ints _) rfl rfl (fun Rc => markIntS_sat (Rc := Rc) (a := L2.getD i []) (k := y) (by omega) (by omega)) ?_
  rintro _ _ - ⟨rfl, rfl⟩
  refine vo_stN ?_
  try simp only [set_intss, Int.toNat_natCast]
  refine vo_assign_pv rfl rfl ?_
  refine vo_nil ?_
  refine hK6 _ ?_
  refine vc_region ?_
  refine vo_move_pv rfl rfl ?_
  refine vo_binI rfl rfl rfl rfl sd ?_
  refine vo_assign_pv rfl rfl ?_
  refine vo_nil ?_
  change again _ _ _ _ _ _
  refine again_mk rfl rfl rfl rfl ⟨_, ?_, i + 1, y + (L2.getD i []).length, L2.set i (markL y (L2.getD i []).length), rfl, ?_, ?_, ?_, ?_, rfl, rfl⟩
  ·omega
  ·omega
  ·rw [List.length_set]; exact hl2
  ·exact set_lens hm2 (by rw [markL_len]; exact hx)
  ·omega
 ·try simp only [zq0, zq1, zq2, zq3, zq4, zq5, zq6, zq7, zq8, zq9, zqa, zqb, zqc, zqd, zqe, zqf] at hc1
  refine vc_exit ?_
  refine hK2 _ ?_
  refine vc_seq fun K7 hK7 => ?_
  refine vc_region ?_
  refine vo_move_pv rfl rfl ?_
  refine vo_assign_pv rfl rfl ?_
  refine vo_nil ?_
  refine hK7 _ ?_
  refine vc_ret ?_
  change retG _ _ _ _ _
  refine retG_sel [] [] hC rfl rfl rfl rfl rfl rfl ?_
  exact ⟨_, _, ⟨by omega, by omega⟩, rfl, rfl⟩


theorem toIntSST_sat {nl : Option Bool} {a : List (List Int)} (ha : a.length < 1000000000) (hla : ∀ l ∈ a, l.length < 1000000000) : SatAt Tryz.prog 38 [.pv false (.sl nl 1 (a.map ints))] [] (fun res rows => res = [.ref 0] ∧ rows = [.tree 28 1 (some false) none (a.map ints)]) := by
 refine sat_entry_g (ts := [2]) Tryz.func38 rfl rfl (by decide) (Nat.le_of_ble_eq_true rfl) fun C hC => ?_
 rw [Tryz.ntmps38]
 replace hC : C.nb = 0 := hC
 refine vc_seq fun K1 hK1 => ?_
 refine vc_region ?_
 refine vo_assign_pv rfl rfl ?_
 refine vo_nil ?_
 refine hK1 _ ?_
 refine vc_seq fun K2 hK2 => ?_
 refine vc_region ?_
 refine vo_move_pv rfl rfl ?_
 refine vo_len_pv rfl rfl Tryz.underlying22 ?_
 refine vo_make E22 rfl rfl rfl sd sd sd ?_
 refine vo_assign_ref rfl rfl ?_
 refine vo_nil ?_
 refine hK2 _ ?_
 refine vc_seq fun K3 hK3 => ?_
 refine vc_seq fun K4 hK4 => ?_
 refine vc_region ?_
 refine vo_assign_pv rfl rfl ?_
 refine vo_nil ?_
 refine hK4 _ ?_
 refine vc_block ?_
 refine vc_totree 0 rfl (plain_rep _ _) ?_
 refine vc_stN ?_
 refine vc_loop [0, 3, 4] (fun mz vs rows => ∃ (k : Nat), mz = a.length - k ∧ (k ≤ a.length) ∧ vs = [.pv false (.sl nl 1 (a.map ints)), .ref 0, i64 k] ∧ rows = [.tree 28 1 (some false) none ((a.take k).map ints ++ List.replicate (a.length - k) (.sl (some true) 1 []))]) (a.length) (le_len hC rfl) ⟨rfl, rfl⟩ ⟨0, rfl, Nat.zero_le _, rfl, (row1_eqT (by simp))⟩ ?_
 rintro mz vs rows - - ⟨k, rfl, hk, rfl, rfl⟩
 refine vc_seq fun K5 hK5 => ?_
 refine vc_seq fun K6 hK6 => ?_
 refine vc_region ?_
 refine vo_move_pv rfl rfl ?_
 refine vo_move_pv rfl rfl ?_
 refine vo_len_pv rfl rfl Tryz.underlying22 ?_
 refine vo_binI rfl rfl rfl rfl trivial ?_
 refine vo_nil ?_
 refine hK6 _ ?_
 refine vc_cond rfl (fun hc1 => ?_) (fun hc1 => ?_)
 ·try simp only [zq0, zq1, zq2, zq3, zq4, zq5, zq6, zq7, zq8, zq9, zqa, zqb, zqc, zqd, zqe, zqf] at hc1
  refine vc_skip ?_
  refine hK5 _ ?_
  refine vc_seq fun K7 hK7 => ?_
  refine vc_block ?_
  refine vc_region ?_
  refine vo_move_ref rfl rfl ?_
  refine vo_move_pv rfl rfl ?_
  refine vo_move_pv rfl rfl ?_
  refine vo_move_pv rfl rfl ?_
  refine vo_index_pv (.sl none 1 []) rfl rfl rfl E22.und inf28 sz28 sd sd ?_
  simp only [Int.toNat_natCast, Int.toNat_zero, getD_ints, getD_intss, getD_bools, getD_bytes, PV.cells]
  refine vo_load_adr rfl rfl Tryz.underlying28 rfl ?_
  refine vo_call [] Tryz.func86 rfl rfl rfl rfl rfl rfl rfl (toIntS_sat (lens hla _ (by omega))) ?_
  rintro _ _ ⟨rfl, rfl⟩
  refine ⟨Nat.le_of_ble_eq_true rfl, ⟨rfl, rfl, rfl, rfl⟩, .inl rfl, ?_⟩
  refine vo_stN ?_
  refine vo_index_ref rfl rfl rfl rfl E22.und inf28 sz28 sd sd ?_
  try simp only [Int.toNat_natCast]
  refine vo_store_tree rfl rfl (.inl rfl) rfl rfl rfl (fits_of rfl) (fun _ _ _ _ _ h => (own_tp h (plain_ints _)).1.weak) rfl (by omega) (by omega) inf28 sz28 sd ?_
  refine vo_stN ?_
  try simp only [set_intss, Int.toNat_natCast]
  refine vo_nil ?_
  refine hK7 _ ?_
  refine vc_region ?_
  refine vo_move_pv rfl rfl ?_
  refine vo_binI rfl rfl rfl rfl sd ?_
  refine vo_assign_pv rfl rfl ?_
  refine vo_nil ?_
  change again _ _ _ _ _ _
  refine again_mk rfl rfl rfl rfl ⟨_, ?_, k + 1, rfl, ?_, rfl, (row1_eqT (fill_set ints a k (by omega) [] _))⟩
  ·omega
  ·omega
 ·try simp only [zq0, zq1, zq2, zq3, zq4, zq5, zq6, zq7, zq8, zq9, zqa, zqb, zqc, zqd, zqe, zqf] at hc1
  refine vc_exit ?_
  refine hK3 _ ?_
  refine vc_seq fun K8 hK8 => ?_
  refine vc_region ?_
  refine vo_move_ref rfl rfl ?_
  refine vo_assign_ref rfl rfl ?_
  refine vo_nil ?_
  refine hK8 _ ?_
  refine vc_ret ?_
  change retG _ _ _ _ _
  refine retG_one 0 hC rfl rfl rfl rfl rfl ?_
  exact ⟨rfl, row1_eqT (by rw [take_all (by omega), show a.length - k = 0 by omega]; simp)⟩

end Go.Vl

namespace Go.Vl
set_option linter.unusedVariables false
set_option linter.unusedSimpArgs false
open Go.Proofs
theorem fM_eq (n : Int) : ∀ (l : List Int) (i : Int), findM n l i = fM n l i
  | [], _ => rfl
  | x :: l, i => by simp only [findM, fM]; rw [fM_eq n l (i+1)]
theorem bhd_find {x : Int} {l : List Int} : 0 < findM x l 0 ↔ bhd x l := by rw [fM_eq]; exact Iff.rfl
theorem anyB_of {ls : List (List Int)} {x : Int} {k : Nat} (h : k < ls.length) (h2 : 0 < findM x (ls.getD k []) 0) : anyB ls x := ⟨_, getD_mem h [], bhd_find.1 h2⟩
theorem anyB_succ {ls : List (List Int)} {x : Int} {k : Nat} (h : k < ls.length) (h1 : ∀ l ∈ ls.take k, ¬ bhd x l) (h2 : ¬ 0 < findM x (ls.getD k []) 0) : ∀ l ∈ ls.take (k+1), ¬ bhd x l := (all_take_succ h []).2 ⟨h1, fun e => h2 (bhd_find.2 e)⟩
theorem anyB_no {ls : List (List Int)} {x : Int} {k : Nat} (h : ls.length ≤ k) (h1 : ∀ l ∈ ls.take k, ¬ bhd x l) : ¬ anyB ls x := by
  rw [take_all h] at h1
  rintro ⟨l, h2, h3⟩
  exact h1 l h2 h3

theorem isBehind_sat {nl0 : Option Bool} {lists : List (List Int)} {x : Int} (hlists : lists.length < 1000000000) (hllists : ∀ l ∈ lists, l.length < 1000000000)  : SatAt Tryz.prog 164 [.pv false (.sl nl0 1 (lists.map ints)), i64 x] [] (fun res rows => res = [bo (decide (anyB lists x))] ∧ rows = []) := by
 refine sat_entry (ts := [4]) Tryz.func164 rfl rfl (by decide) (Nat.le_of_ble_eq_true rfl) fun C hC => ?_
 rw [Tryz.ntmps164]
 replace hC : C.nb = 0 := hC
 refine vc_seq fun K1 hK1 => ?_
 refine vc_region ?_
 refine vo_assign_pv rfl rfl ?_
 refine vo_nil ?_
 refine hK1 _ ?_
 refine vc_seq fun K2 hK2 => ?_
 refine vc_seq fun K3 hK3 => ?_
 refine vc_region ?_
 refine vo_move_pv rfl rfl ?_
 refine vo_len_pv rfl rfl Tryz.underlying22 ?_
 refine vo_move_pv rfl rfl ?_
 refine vo_nil ?_
 refine hK3 _ ?_
 refine vc_block ?_
 refine vc_stN ?_
 refine vc_loopF [1, 7, 8] [9] [i64 x, .pv false (.sl nl0 1 (lists.map ints)), i64 (lists.map ints).length] _ (fun mz vs => ∃ (k : Nat), mz = lists.length - k ∧ (k ≤ lists.length) ∧ (∀ l ∈ lists.take k, ¬ bhd x l) ∧ vs = [i64 k]) (lists.length) rfl rfl (le_len hC rfl) ⟨rfl, rfl, rfl⟩ ⟨0, rfl, Nat.zero_le _, (by simp), rfl⟩ ?_
 rintro mz vs - ⟨k, rfl, hk, hf, rfl⟩
 refine vc_stN ?_
 refine vc_seq fun K4 hK4 => ?_
 refine vc_region ?_
 refine vo_binI rfl rfl rfl rfl trivial ?_
 refine vo_nil ?_
 refine hK4 _ ?_
 refine vc_seq fun K5 hK5 => ?_
 refine vc_cond rfl (fun hc1 => ?_) (fun hc1 => ?_)
 ·try simp only [zq0, zq1, zq2, zq3, zq4, zq5, zq6, zq7, zq8, zq9, zqa, zqb, zqc, zqd, zqe, zqf] at hc1
  refine vc_skip ?_
  refine hK5 _ ?_
  refine vc_seq fun K6 hK6 => ?_
  refine vc_block ?_
  refine vc_seq fun K7 hK7 => ?_
  refine vc_region ?_
  refine vo_index_pv (.sl none 1 []) rfl rfl rfl E22.und inf28 sz28 sd sd ?_
  simp only [Int.toNat_natCast, Int.toNat_zero, getD_ints, getD_intss, getD_bools, getD_bytes, PV.cells]
  refine vo_load_adr rfl rfl Tryz.underlying28 rfl ?_
  refine vo_assign_pv rfl rfl ?_
  refine vo_nil ?_
  refine hK7 _ ?_
  refine vc_seq fun K8 hK8 => ?_
  refine vc_region ?_
  refine vo_move_pv rfl rfl ?_
  refine vo_move_pv rfl rfl ?_
  refine vo_call0 Tryz.func100 rfl rfl rfl rfl (Index_sat (lens hllists _ (by omega))) ?_
  rintro _ _ ⟨rfl, rfl⟩
  refine ⟨rfl, rfl, .inl rfl, ?_⟩
  refine vo_binI rfl rfl rfl rfl trivial ?_
  refine vo_nil ?_
  refine hK8 _ ?_
  refine vc_cond rfl (fun hc2 => ?_) (fun hc2 => ?_)
  ·try simp only [zq0, zq1, zq2, zq3, zq4, zq5, zq6, zq7, zq8, zq9, zqa, zqb, zqc, zqd, zqe, zqf] at hc2
   refine vc_seq fun K9 hK9 => ?_
   refine vc_region ?_
   refine vo_assign_pv rfl rfl ?_
   refine vo_nil ?_
   refine hK9 _ ?_
   refine vc_ret ?_
   change retPv _ _ _ _ _
   refine retPv_mk rfl rfl rfl ⟨?_, rfl⟩
   refine (congrArg (fun b => [bo b]) (?_ : _ = _) : [bo _] = [bo _])
   exact bT (anyB_of (k := k) (by omega) (by omega))
  ·try simp only [zq0, zq1, zq2, zq3, zq4, zq5, zq6, zq7, zq8, zq9, zqa, zqb, zqc, zqd, zqe, zqf] at hc2
   refine vc_skip ?_
   refine hK6 _ ?_
   refine vc_region ?_
   refine vo_binI rfl rfl rfl rfl sd ?_
   refine vo_move_pv rfl rfl ?_
   refine vo_nil ?_
   change againF _ _ _ _ _ _ _ _ _
   refine againF_mk rfl rfl rfl rfl rfl rfl ⟨_, ?_, k + 1, rfl, ?_, ?_, rfl⟩
   ·omega
   ·omega
   ·exact anyB_succ (by omega) hf (by omega)
 ·try simp only [zq0, zq1, zq2, zq3, zq4, zq5, zq6, zq7, zq8, zq9, zqa, zqb, zqc, zqd, zqe, zqf] at hc1
  refine vc_exit ?_
  refine hK2 _ ?_
  refine vc_seq fun K10 hK10 => ?_
  refine vc_region ?_
  refine vo_assign_pv rfl rfl ?_
  refine vo_nil ?_
  refine hK10 _ ?_
  refine vc_ret ?_
  change retPv _ _ _ _ _
  refine retPv_mk rfl rfl rfl ⟨?_, rfl⟩
  refine (congrArg (fun b => [bo b]) (?_ : _ = _) : [bo _] = [bo _])
  exact bF (anyB_no (by omega) hf)


theorem goodHead_sat {nl0 : Option Bool} {lists : List (List Int)} {x : Int} (hlists : lists.length < 1000000000) (hllists : ∀ l ∈ lists, l.length < 1000000000)  : SatAt Tryz.prog 160 [.pv false (.sl nl0 1 (lists.map ints)), i64 x] [] (fun res rows => res = [bo (decide (¬ anyB lists x))] ∧ rows = []) := by
 refine sat_entry (ts := [4]) Tryz.func160 rfl rfl (by decide) (Nat.le_of_ble_eq_true rfl) fun C hC => ?_
 rw [Tryz.ntmps160]
 replace hC : C.nb = 0 := hC
 refine vc_seq fun K1 hK1 => ?_
 refine vc_region ?_
 refine vo_assign_pv rfl rfl ?_
 refine vo_nil ?_
 refine hK1 _ ?_
 refine vc_seq fun K2 hK2 => ?_
 refine vc_seq fun K3 hK3 => ?_
 refine vc_region ?_
 refine vo_assign_pv rfl rfl ?_
 refine vo_nil ?_
 refine hK3 _ ?_
 refine vc_block ?_
 refine vc_stN ?_
 refine vc_loopF [0, 1] [5] [.pv false (.sl nl0 1 (lists.map ints)), i64 x] _ (fun mz vs => ∃ (k : Nat), mz = lists.length - k ∧ (k ≤ lists.length) ∧ (∀ l ∈ lists.take k, ¬ bhd x l) ∧ vs = [i64 k]) (lists.length) rfl rfl (le_len hC rfl) ⟨rfl, rfl, rfl⟩ ⟨0, rfl, Nat.zero_le _, (by simp), rfl⟩ ?_
 rintro mz vs - ⟨k, rfl, hk, hf, rfl⟩
 refine vc_stN ?_
 refine vc_seq fun K4 hK4 => ?_
 refine vc_seq fun K5 hK5 => ?_
 refine vc_region ?_
 refine vo_move_pv rfl rfl ?_
 refine vo_move_pv rfl rfl ?_
 refine vo_len_pv rfl rfl Tryz.underlying22 ?_
 refine vo_binI rfl rfl rfl rfl trivial ?_
 refine vo_nil ?_
 refine hK5 _ ?_
 refine vc_cond rfl (fun hc1 => ?_) (fun hc1 => ?_)
 ·try simp only [zq0, zq1, zq2, zq3, zq4, zq5, zq6, zq7, zq8, zq9, zqa, zqb, zqc, zqd, zqe, zqf] at hc1
  refine vc_skip ?_
  refine hK4 _ ?_
  refine vc_seq fun K6 hK6 => ?_
  refine vc_block ?_
  refine vc_seq fun K7 hK7 => ?_
  refine vc_region ?_
  refine vo_move_pv rfl rfl ?_
  refine vo_move_pv rfl rfl ?_
  refine vo_index_pv (.sl none 1 []) rfl rfl rfl E22.und inf28 sz28 sd sd ?_
  simp only [Int.toNat_natCast, Int.toNat_zero, getD_ints, getD_intss, getD_bools, getD_bytes, PV.cells]
  refine vo_load_adr rfl rfl Tryz.underlying28 rfl ?_
  refine vo_move_pv rfl rfl ?_
  refine vo_call0 Tryz.func152 rfl rfl rfl rfl (placeIn_sat (lens hllists _ (by omega))) ?_
  rintro _ _ ⟨rfl, rfl⟩
  refine ⟨rfl, rfl, .inl rfl, ?_⟩
  refine vo_binI rfl rfl rfl rfl trivial ?_
  refine vo_nil ?_
  refine hK7 _ ?_
  refine vc_cond rfl (fun hc2 => ?_) (fun hc2 => ?_)
  ·try simp only [zq0, zq1, zq2, zq3, zq4, zq5, zq6, zq7, zq8, zq9, zqa, zqb, zqc, zqd, zqe, zqf] at hc2
   refine vc_seq fun K8 hK8 => ?_
   refine vc_region ?_
   refine vo_assign_pv rfl rfl ?_
   refine vo_nil ?_
   refine hK8 _ ?_
   refine vc_ret ?_
   change retPv _ _ _ _ _
   refine retPv_mk rfl rfl rfl ⟨?_, rfl⟩
   refine (congrArg (fun b => [bo b]) (?_ : _ = _) : [bo _] = [bo _])
   exact bF (fun h => h (anyB_of (k := k) (by omega) (by omega)))
  ·try simp only [zq0, zq1, zq2, zq3, zq4, zq5, zq6, zq7, zq8, zq9, zqa, zqb, zqc, zqd, zqe, zqf] at hc2
   refine vc_skip ?_
   refine hK6 _ ?_
   refine vc_region ?_
   refine vo_move_pv rfl rfl ?_
   refine vo_binI rfl rfl rfl rfl sd ?_
   refine vo_assign_pv rfl rfl ?_
   refine vo_nil ?_
   change againF _ _ _ _ _ _ _ _ _
   refine againF_mk rfl rfl rfl rfl rfl rfl ⟨_, ?_, k + 1, rfl, ?_, ?_, rfl⟩
   ·omega
   ·omega
   ·exact anyB_succ (by omega) hf (by omega)
 ·try simp only [zq0, zq1, zq2, zq3, zq4, zq5, zq6, zq7, zq8, zq9, zqa, zqb, zqc, zqd, zqe, zqf] at hc1
  refine vc_exit ?_
  refine hK2 _ ?_
  refine vc_seq fun K9 hK9 => ?_
  refine vc_region ?_
  refine vo_assign_pv rfl rfl ?_
  refine vo_nil ?_
  refine hK9 _ ?_
  refine vc_ret ?_
  change retPv _ _ _ _ _
  refine retPv_mk rfl rfl rfl ⟨?_, rfl⟩
  refine (congrArg (fun b => [bo b]) (?_ : _ = _) : [bo _] = [bo _])
  exact bT (anyB_no (by omega) hf)


theorem firstFree_sat {nl0 : Option Bool} {lists : List (List Int)} (hlists : lists.length < 1000000000) (hllists : ∀ l ∈ lists, l.length < 1000000000) : SatAt Tryz.prog 161 [.pv false (.sl nl0 1 (lists.map ints))] [] (fun res rows => res = [i64 ((fhM lists).getD 0), bo (fhM lists).isSome] ∧ rows = []) := by
 refine sat_entry (ts := [2, 3]) Tryz.func161 rfl rfl (by decide) (Nat.le_of_ble_eq_true rfl) fun C hC => ?_
 rw [Tryz.ntmps161]
 replace hC : C.nb = 0 := hC
 refine vc_seq fun K1 hK1 => ?_
 refine vc_region ?_
 refine vo_assign_pv rfl rfl ?_
 refine vo_assign_pv rfl rfl ?_
 refine vo_nil ?_
 refine hK1 _ ?_
 refine vc_seq fun K2 hK2 => ?_
 refine vc_seq fun K3 hK3 => ?_
 refine vc_region ?_
 refine vo_move_pv rfl rfl ?_
 refine vo_len_pv rfl rfl Tryz.underlying22 ?_
 refine vo_move_pv rfl rfl ?_
 refine vo_nil ?_
 refine hK3 _ ?_
 refine vc_block ?_
 refine vc_stN ?_
 refine vc_loopF [0, 7, 8] [9] [.pv false (.sl nl0 1 (lists.map ints)), .pv false (.sl nl0 1 (lists.map ints)), i64 (lists.map ints).length] _ (fun mz vs => ∃ (k : Nat), mz = lists.length - k ∧ (k ≤ lists.length) ∧ (fhM lists = fhF lists (lists.drop k)) ∧ vs = [i64 k]) (lists.length) rfl rfl (le_len hC rfl) ⟨rfl, rfl, rfl⟩ ⟨0, rfl, Nat.zero_le _, rfl, rfl⟩ ?_
 rintro mz vs - ⟨k, rfl, hk, hf, rfl⟩
 refine vc_stN ?_
 refine vc_seq fun K4 hK4 => ?_
 refine vc_region ?_
 refine vo_binI rfl rfl rfl rfl trivial ?_
 refine vo_nil ?_
 refine hK4 _ ?_
 refine vc_seq fun K5 hK5 => ?_
 refine vc_cond rfl (fun hc1 => ?_) (fun hc1 => ?_)
 ·try simp only [zq0, zq1, zq2, zq3, zq4, zq5, zq6, zq7, zq8, zq9, zqa, zqb, zqc, zqd, zqe, zqf] at hc1
  refine vc_skip ?_
  refine hK5 _ ?_
  refine vc_seq fun K6 hK6 => ?_
  refine vc_block ?_
  refine vc_seq fun K7 hK7 => ?_
  refine vc_region ?_
  refine vo_index_pv (.sl none 1 []) rfl rfl rfl E22.und inf28 sz28 sd sd ?_
  simp only [Int.toNat_natCast, Int.toNat_zero, getD_ints, getD_intss, getD_bools, getD_bytes, PV.cells]
  refine vo_load_adr rfl rfl Tryz.underlying28 rfl ?_
  refine vo_assign_pv rfl rfl ?_
  refine vo_nil ?_
  refine hK7 _ ?_
  refine vc_seq fun K8 hK8 => ?_
  refine vc_region ?_
  refine vo_move_pv rfl rfl ?_
  refine vo_len_pv rfl rfl Tryz.underlying28 ?_
  refine vo_binI rfl rfl rfl rfl trivial ?_
  refine vo_move_pv rfl rfl ?_
  refine vo_split 16 rfl (fun hg2 => ?_) (fun hg2 => ?_)
  ·try simp only [zq0, zq1, zq2, zq3, zq4, zq5, zq6, zq7, zq8, zq9, zqa, zqb, zqc, zqd, zqe, zqf] at hg2
   refine vo_guard_on rfl rfl rfl ?_
   refine vo_move_pv rfl rfl ?_
   refine vo_guard_on rfl rfl rfl ?_
   refine vo_move_pv rfl rfl ?_
   refine vo_guard_on rfl rfl rfl ?_
   refine vo_index_pv (.int .i64 0) rfl rfl rfl E28.und inf3 sz3 sd sd ?_
   simp only [Int.toNat_natCast, Int.toNat_zero, getD_ints, getD_intss, getD_bools, getD_bytes, PV.cells]
   refine vo_guard_on rfl rfl rfl ?_
   refine vo_load_adr rfl rfl Tryz.underlying3 rfl ?_
   refine vo_guard_on rfl rfl rfl ?_
   refine vo_call0 Tryz.func164 rfl rfl rfl rfl (isBehind_sat hlists hllists) ?_
   rintro _ _ ⟨rfl, rfl⟩
   refine ⟨rfl, rfl, .inl rfl, ?_⟩
   refine vo_guard_on rfl rfl rfl ?_
   refine vo_not rfl rfl ?_
   refine vo_pick_t rfl rfl ?_
   refine vo_nil ?_
   refine hK8 _ ?_
   refine vc_cond rfl (fun hc3 => ?_) (fun hc3 => ?_)
   ·try simp only [zq0, zq1, zq2, zq3, zq4, zq5, zq6, zq7, zq8, zq9, zqa, zqb, zqc, zqd, zqe, zqf] at hc3
    refine vc_seq fun K9 hK9 => ?_
    refine vc_region ?_
    refine vo_move_pv rfl rfl ?_
    refine vo_index_pv (.int .i64 0) rfl rfl rfl E28.und inf3 sz3 sd sd ?_
    simp only [Int.toNat_natCast, Int.toNat_zero, getD_ints, getD_intss, getD_bools, getD_bytes, PV.cells]
    refine vo_load_adr rfl rfl Tryz.underlying3 rfl ?_
    refine vo_assign_pv rfl rfl ?_
    refine vo_assign_pv rfl rfl ?_
    refine vo_nil ?_
    refine hK9 _ ?_
    refine vc_ret ?_
    change retPv _ _ _ _ _
    refine retPv_mk rfl rfl rfl ⟨?_, rfl⟩
    have e : fhM lists = some ((lists.getD k []).getD 0 0) := by rw [hf, fhF_drop _ _ _ (by omega), freeH_t (by omega) (by simp_all)]
    rw [e]; rfl
   ·try simp only [zq0, zq1, zq2, zq3, zq4, zq5, zq6, zq7, zq8, zq9, zqa, zqb, zqc, zqd, zqe, zqf] at hc3
    refine vc_skip ?_
    refine hK6 _ ?_
    refine vc_region ?_
    refine vo_binI rfl rfl rfl rfl sd ?_
    refine vo_move_pv rfl rfl ?_
    refine vo_nil ?_
    change againF _ _ _ _ _ _ _ _ _
    refine againF_mk rfl rfl rfl rfl rfl rfl ⟨_, ?_, k + 1, rfl, ?_, ?_, rfl⟩
    ·omega
    ·omega
    ·rw [hf, fhF_drop _ _ _ (by omega), freeH_f (by simp_all)]
  ·try simp only [zq0, zq1, zq2, zq3, zq4, zq5, zq6, zq7, zq8, zq9, zqa, zqb, zqc, zqd, zqe, zqf] at hg2
   refine vo_guard_off rfl rfl rfl rfl rfl ?_
   refine vo_guard_off rfl rfl rfl rfl rfl ?_
   refine vo_guard_off rfl rfl rfl rfl rfl ?_
   refine vo_guard_off rfl rfl rfl rfl rfl ?_
   refine vo_guard_off rfl rfl rfl rfl rfl ?_
   refine vo_guard_off rfl rfl rfl rfl rfl ?_
   refine vo_pick_f rfl rfl ?_
   refine vo_nil ?_
   refine hK8 _ ?_
   refine vc_cond_f rfl ?_
   refine vc_skip ?_
   refine hK6 _ ?_
   refine vc_region ?_
   refine vo_binI rfl rfl rfl rfl sd ?_
   refine vo_move_pv rfl rfl ?_
   refine vo_nil ?_
   change againF _ _ _ _ _ _ _ _ _
   refine againF_mk rfl rfl rfl rfl rfl rfl ⟨_, ?_, k + 1, rfl, ?_, ?_, rfl⟩
   ·omega
   ·omega
   ·rw [hf, fhF_drop _ _ _ (by omega), freeH_f (by simp_all)]
 ·try simp only [zq0, zq1, zq2, zq3, zq4, zq5, zq6, zq7, zq8, zq9, zqa, zqb, zqc, zqd, zqe, zqf] at hc1
  refine vc_exit ?_
  refine hK2 _ ?_
  refine vc_seq fun K10 hK10 => ?_
  refine vc_region ?_
  refine vo_assign_pv rfl rfl ?_
  refine vo_nil ?_
  refine hK10 _ ?_
  refine vc_seq fun K11 hK11 => ?_
  refine vc_region ?_
  refine vo_move_pv rfl rfl ?_
  refine vo_assign_pv rfl rfl ?_
  refine vo_assign_pv rfl rfl ?_
  refine vo_nil ?_
  refine hK11 _ ?_
  refine vc_ret ?_
  change retPv _ _ _ _ _
  refine retPv_mk rfl rfl rfl ⟨?_, rfl⟩
  have e : fhM lists = none := by rw [hf, List.drop_of_length_le (by omega)]; rfl
  rw [e]; rfl


theorem firstHead_sat {nl0 : Option Bool} {lists : List (List Int)} (hlists : lists.length < 1000000000) (hllists : ∀ l ∈ lists, l.length < 1000000000) : SatAt Tryz.prog 153 [.pv false (.sl nl0 1 (lists.map ints))] [] (fun res rows => res = [i64 ((fhM lists).getD 0), bo (fhM lists).isSome] ∧ rows = []) := by
 refine sat_entry (ts := [2, 3]) Tryz.func153 rfl rfl (by decide) (Nat.le_of_ble_eq_true rfl) fun C hC => ?_
 rw [Tryz.ntmps153]
 replace hC : C.nb = 0 := hC
 refine vc_seq fun K1 hK1 => ?_
 refine vc_region ?_
 refine vo_assign_pv rfl rfl ?_
 refine vo_assign_pv rfl rfl ?_
 refine vo_nil ?_
 refine hK1 _ ?_
 refine vc_seq fun K2 hK2 => ?_
 refine vc_seq fun K3 hK3 => ?_
 refine vc_region ?_
 refine vo_assign_pv rfl rfl ?_
 refine vo_nil ?_
 refine hK3 _ ?_
 refine vc_block ?_
 refine vc_stN ?_
 refine vc_loopF [0] [4] [.pv false (.sl nl0 1 (lists.map ints))] _ (fun mz vs => ∃ (k : Nat), mz = lists.length - k ∧ (k ≤ lists.length) ∧ (fhM lists = fhF lists (lists.drop k)) ∧ vs = [i64 k]) (lists.length) rfl rfl (le_len hC rfl) ⟨rfl, rfl, rfl⟩ ⟨0, rfl, Nat.zero_le _, rfl, rfl⟩ ?_
 rintro mz vs - ⟨k, rfl, hk, hf, rfl⟩
 refine vc_stN ?_
 refine vc_seq fun K4 hK4 => ?_
 refine vc_seq fun K5 hK5 => ?_
 refine vc_region ?_
 refine vo_move_pv rfl rfl ?_
 refine vo_move_pv rfl rfl ?_
 refine vo_len_pv rfl rfl Tryz.underlying22 ?_
 refine vo_binI rfl rfl rfl rfl trivial ?_
 refine vo_nil ?_
 refine hK5 _ ?_
 refine vc_cond rfl (fun hc1 => ?_) (fun hc1 => ?_)
 ·try simp only [zq0, zq1, zq2, zq3, zq4, zq5, zq6, zq7, zq8, zq9, zqa, zqb, zqc, zqd, zqe, zqf] at hc1
  refine vc_skip ?_
  refine hK4 _ ?_
  refine vc_seq fun K6 hK6 => ?_
  refine vc_block ?_
  refine vc_seq fun K7 hK7 => ?_
  refine vc_region ?_
  refine vo_move_pv rfl rfl ?_
  refine vo_move_pv rfl rfl ?_
  refine vo_index_pv (.sl none 1 []) rfl rfl rfl E22.und inf28 sz28 sd sd ?_
  simp only [Int.toNat_natCast, Int.toNat_zero, getD_ints, getD_intss, getD_bools, getD_bytes, PV.cells]
  refine vo_load_adr rfl rfl Tryz.underlying28 rfl ?_
  refine vo_len_pv rfl rfl Tryz.underlying28 ?_
  refine vo_binI rfl rfl rfl rfl trivial ?_
  refine vo_move_pv rfl rfl ?_
  refine vo_split 17 rfl (fun hg2 => ?_) (fun hg2 => ?_)
  ·try simp only [zq0, zq1, zq2, zq3, zq4, zq5, zq6, zq7, zq8, zq9, zqa, zqb, zqc, zqd, zqe, zqf] at hg2
   refine vo_guard_on rfl rfl rfl ?_
   refine vo_move_pv rfl rfl ?_
   refine vo_guard_on rfl rfl rfl ?_
   refine vo_move_pv rfl rfl ?_
   refine vo_guard_on rfl rfl rfl ?_
   refine vo_move_pv rfl rfl ?_
   refine vo_guard_on rfl rfl rfl ?_
   refine vo_index_pv (.sl none 1 []) rfl rfl rfl E22.und inf28 sz28 sd sd ?_
   simp only [Int.toNat_natCast, Int.toNat_zero, getD_ints, getD_intss, getD_bools, getD_bytes, PV.cells]
   refine vo_guard_on rfl rfl rfl ?_
   refine vo_load_adr rfl rfl Tryz.underlying28 rfl ?_
   refine vo_guard_on rfl rfl rfl ?_
   refine vo_index_pv (.int .i64 0) rfl rfl rfl E28.und inf3 sz3 sd sd ?_
   simp only [Int.toNat_natCast, Int.toNat_zero, getD_ints, getD_intss, getD_bools, getD_bytes, PV.cells]
   refine vo_guard_on rfl rfl rfl ?_
   refine vo_load_adr rfl rfl Tryz.underlying3 rfl ?_
   refine vo_guard_on rfl rfl rfl ?_
   refine vo_call0 Tryz.func160 rfl rfl rfl rfl (goodHead_sat hlists hllists) ?_
   rintro _ _ ⟨rfl, rfl⟩
   refine ⟨rfl, rfl, .inl rfl, ?_⟩
   refine vo_pick_t rfl rfl ?_
   refine vo_nil ?_
   refine hK7 _ ?_
   refine vc_cond rfl (fun hc3 => ?_) (fun hc3 => ?_)
   ·try simp only [zq0, zq1, zq2, zq3, zq4, zq5, zq6, zq7, zq8, zq9, zqa, zqb, zqc, zqd, zqe, zqf] at hc3
    refine vc_seq fun K8 hK8 => ?_
    refine vc_region ?_
    refine vo_move_pv rfl rfl ?_
    refine vo_move_pv rfl rfl ?_
    refine vo_index_pv (.sl none 1 []) rfl rfl rfl E22.und inf28 sz28 sd sd ?_
    simp only [Int.toNat_natCast, Int.toNat_zero, getD_ints, getD_intss, getD_bools, getD_bytes, PV.cells]
    refine vo_load_adr rfl rfl Tryz.underlying28 rfl ?_
    refine vo_index_pv (.int .i64 0) rfl rfl rfl E28.und inf3 sz3 sd sd ?_
    simp only [Int.toNat_natCast, Int.toNat_zero, getD_ints, getD_intss, getD_bools, getD_bytes, PV.cells]
    refine vo_load_adr rfl rfl Tryz.underlying3 rfl ?_
    refine vo_assign_pv rfl rfl ?_
    refine vo_assign_pv rfl rfl ?_
    refine vo_nil ?_
    refine hK8 _ ?_
    refine vc_ret ?_
    change retPv _ _ _ _ _
    refine retPv_mk rfl rfl rfl ⟨?_, rfl⟩
    have e : fhM lists = some ((lists.getD k []).getD 0 0) := by rw [hf, fhF_drop _ _ _ (by omega), freeH_t (by omega) (by simp_all)]
    rw [e]; rfl
   ·try simp only [zq0, zq1, zq2, zq3, zq4, zq5, zq6, zq7, zq8, zq9, zqa, zqb, zqc, zqd, zqe, zqf] at hc3
    refine vc_skip ?_
    refine hK6 _ ?_
    refine vc_region ?_
    refine vo_move_pv rfl rfl ?_
    refine vo_binI rfl rfl rfl rfl sd ?_
    refine vo_assign_pv rfl rfl ?_
    refine vo_nil ?_
    change againF _ _ _ _ _ _ _ _ _
    refine againF_mk rfl rfl rfl rfl rfl rfl ⟨_, ?_, k + 1, rfl, ?_, ?_, rfl⟩
    ·omega
    ·omega
    ·rw [hf, fhF_drop _ _ _ (by omega), freeH_f (by simp_all)]
  ·try simp only [zq0, zq1, zq2, zq3, zq4, zq5, zq6, zq7, zq8, zq9, zqa, zqb, zqc, zqd, zqe, zqf] at hg2
   refine vo_guard_off rfl rfl rfl rfl rfl ?_
   refine vo_guard_off rfl rfl rfl rfl rfl ?_
   refine vo_guard_off rfl rfl rfl rfl rfl ?_
   refine vo_guard_off rfl rfl rfl rfl rfl ?_
   refine vo_guard_off rfl rfl rfl rfl rfl ?_
   refine vo_guard_off rfl rfl rfl rfl rfl ?_
   refine vo_guard_off rfl rfl rfl rfl rfl ?_
   refine vo_guard_off rfl rfl rfl rfl rfl ?_
   refine vo_pick_f rfl rfl ?_
   refine vo_nil ?_
   refine hK7 _ ?_
   refine vc_cond_f rfl ?_
   refine vc_skip ?_
   refine hK6 _ ?_
   refine vc_region ?_
   refine vo_move_pv rfl rfl ?_
   refine vo_binI rfl rfl rfl rfl sd ?_
   refine vo_assign_pv rfl rfl ?_
   refine vo_nil ?_
   change againF _ _ _ _ _ _ _ _ _
   refine againF_mk rfl rfl rfl rfl rfl rfl ⟨_, ?_, k + 1, rfl, ?_, ?_, rfl⟩
   ·omega
   ·omega
   ·rw [hf, fhF_drop _ _ _ (by omega), freeH_f (by simp_all)]
 ·try simp only [zq0, zq1, zq2, zq3, zq4, zq5, zq6, zq7, zq8, zq9, zqa, zqb, zqc, zqd, zqe, zqf] at hc1
  refine vc_exit ?_
  refine hK2 _ ?_
  refine vc_seq fun K9 hK9 => ?_
  refine vc_region ?_
  refine vo_assign_pv rfl rfl ?_
  refine vo_assign_pv rfl rfl ?_
  refine vo_nil ?_
  refine hK9 _ ?_
  refine vc_ret ?_
  change retPv _ _ _ _ _
  refine retPv_mk rfl rfl rfl ⟨?_, rfl⟩
  have e : fhM lists = none := by rw [hf, List.drop_of_length_le (by omega)]; rfl
  rw [e]; rfl

end Go.Vl
