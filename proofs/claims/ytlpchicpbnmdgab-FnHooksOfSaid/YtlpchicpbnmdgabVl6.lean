/- Part 6 of the texts that the proof of FnHooksOf is built on. -/
import Derived.Test.YtlpchicpbnmdgabVl5
namespace Go.Vl
set_option linter.unusedVariables false
set_option linter.unusedSimpArgs false
open Go.Proofs

/-- A reader that has given p numbers. -/
abbrev rdr (nl : Option Bool) (c : List (Fin 256)) (p : Nat) : Row := .var 128 [.pv false (.sl nl 1 (c.map byteP)), i64 p]
/-- Bases as the readers make them. -/
def SB (B : List (List Int)) : Prop := 1 ≤ B.length ∧ B.getD 0 [] = [] ∧ ∀ i, i < B.length → 0 < i → B.getD i [] ≠ [] ∧ (B.getD i []).length ≤ 3 ∧ (B.getD i []).Nodup ∧ ∀ x ∈ B.getD i [], 0 ≤ x ∧ x < i
theorem getD_app {α : Type} {l l' : List α} {i : Nat} (h : i < l.length) (d : α) : (l ++ l').getD i d = l.getD i d := by simp [List.getD, List.getElem?_append_left h]
theorem getD_end {α : Type} {l : List α} {x : α} (d : α) : (l ++ [x]).getD l.length d = x := by simp [List.getD]
theorem nodup_snoc {l : List Int} {x : Int} (h : l.Nodup) (hx : x ∉ l) : (l ++ [x]).Nodup := by
  rw [List.nodup_append]; exact ⟨h, by simp, fun a ha b hb e => hx (by rw [List.mem_singleton.1 hb] at e; exact e ▸ ha)⟩
theorem SB.snoc {B : List (List Int)} {l : List Int} (h : SB B) (h1 : l ≠ []) (h2 : l.length ≤ 3) (h3 : l.Nodup) (h4 : ∀ x ∈ l, 0 ≤ x ∧ x < B.length) : SB (B ++ [l]) := by
  obtain ⟨a1, a2, a3⟩ := h
  refine ⟨by simp, by rw [getD_app (by omega)]; exact a2, fun i hi h0 => ?_⟩
  rcases Nat.lt_or_ge i B.length with hb | hb
  · rw [getD_app hb]; exact a3 i hb h0
  · have : i = B.length := by simp at hi; omega
    subst this
    rw [getD_end]
    exact ⟨h1, h2, h3, h4⟩
theorem SB.lens {B : List (List Int)} (h : SB B) : ∀ l ∈ B, l.length ≤ 3 := by
  intro l hl
  obtain ⟨i, hi, rfl⟩ := List.getElem_of_mem hl
  have e : B[i] = B.getD i [] := by simp [List.getD, List.getElem?_eq_getElem hi]
  rw [e]
  rcases Nat.eq_zero_or_pos i with rfl | h0
  · rw [h.2.1]; simp
  · exact (h.2.2 i hi h0).2.1

theorem newReader_sat {nl : Option Bool} {c : List (Fin 256)} (hl : c.length < 1000000000) : SatAt Try.prog 55 [.pv false (.sl nl 1 (c.map byteP))] [] (fun res rows => ∃ nl2 c2, c2.length ≤ 2000 ∧ res = [.ptr 0 0 0 0] ∧ rows = [rdr nl2 c2 0]) := by
 refine sat_entry_g (ts := [2]) Try.func55 rfl rfl (by decide) (Nat.le_of_ble_eq_true rfl) fun C hC => ?_
 rw [Try.ntmps55]
 replace hC : C.nb = 0 := hC
 refine vc_seq fun K1 hK1 => ?_
 refine vc_region ?_
 refine vo_assign rfl ?_
 refine vo_nil ?_
 refine hK1 _ ?_
 refine vc_seq fun K2 hK2 => ?_
 refine vc_seq fun K3 hK3 => ?_
 refine vc_region ?_
 refine vo_move_pv rfl rfl ?_
 refine vo_len_pv rfl rfl Try.underlying44 ?_
 refine vo_binI rfl rfl rfl rfl trivial ?_
 refine vo_nil ?_
 refine hK3 _ ?_
 refine vc_cond rfl (fun hc1 => ?_) (fun hc1 => ?_)
 ·try simp only [zq0, zq1, zq2, zq3, zq4, zq5, zq6, zq7, zq8, zq9, zqa, zqb, zqc, zqd, zqe, zqf] at hc1
  refine vc_region ?_
  refine vo_move_pv rfl rfl ?_
  refine vo_slice_pv rfl rfl rfl rfl E44.und inf5 sz5 sd sd sd ?_
  simp only [Int.toNat_natCast, Int.toNat_zero, List.drop_zero, Nat.sub_zero, ← List.map_drop, ← List.map_take]
  refine vo_assign_pv rfl rfl ?_
  refine vo_nil ?_
  refine hK2 _ ?_
  refine vc_seq fun K4 hK4 => ?_
  refine vc_region ?_
  refine vo_move_pv rfl rfl ?_
  refine vo_build S128 rfl rfl rfl ?_
  refine vo_box rfl rfl ?_
  refine vo_assign_ptr rfl rfl ?_
  refine vo_nil ?_
  refine hK4 _ ?_
  refine vc_ret ?_
  change retG _ _ _ _ _
  refine retG_one 0 hC rfl rfl rfl rfl rfl ?_
  refine ⟨_, _, ?_, rfl, rfl⟩
  first | omega | (simp; omega)
 ·try simp only [zq0, zq1, zq2, zq3, zq4, zq5, zq6, zq7, zq8, zq9, zqa, zqb, zqc, zqd, zqe, zqf] at hc1
  refine vc_skip ?_
  refine hK2 _ ?_
  refine vc_seq fun K5 hK5 => ?_
  refine vc_region ?_
  refine vo_move_pv rfl rfl ?_
  refine vo_build S128 rfl rfl rfl ?_
  refine vo_box rfl rfl ?_
  refine vo_assign_ptr rfl rfl ?_
  refine vo_nil ?_
  refine hK5 _ ?_
  refine vc_ret ?_
  change retG _ _ _ _ _
  refine retG_one 0 hC rfl rfl rfl rfl rfl ?_
  refine ⟨_, _, ?_, rfl, rfl⟩
  first | omega | (simp; omega)


theorem pick_sat {nl : Option Bool} {c : List (Fin 256)} {p : Nat} {n : Int} (hc : c.length ≤ 2000) (hp : p < 1000000) : SatAt Try.prog 58 [.ptr 0 0 0 0, i64 n] [rdr nl c p] (fun res rows => ∃ x, (0 ≤ x ∧ (1 ≤ n → x < n)) ∧ res = [i64 x] ∧ rows = [rdr nl c (p + 1)]) := by
 have hL : ((c.map byteP).length : Int) = c.length := by simp
 refine sat_entry_g (ts := [4]) Try.func58 rfl rfl (by decide) (Nat.le_of_ble_eq_true rfl) fun C hC => ?_
 rw [Try.ntmps58]
 replace hC : C.nb = 1 := hC
 refine vc_seq fun K1 hK1 => ?_
 refine vc_region ?_
 refine vo_assign_pv rfl rfl ?_
 refine vo_nil ?_
 refine hK1 _ ?_
 refine vc_seq fun K2 hK2 => ?_
 refine vc_region ?_
 refine vo_move_ptr rfl rfl ?_
 refine vo_move_ptr rfl rfl ?_
 refine vo_nilCheck_ptr rfl rfl ?_
 refine vo_fieldAddr_ptr rfl rfl Try.underlying128 rfl inf3 (by rw [sz3]; decide) ?_
 refine vo_load_var rfl rfl rfl Try.underlying3 rfl rfl ?_
 refine vo_binI rfl rfl rfl rfl sd ?_
 refine vo_nilCheck_ptr rfl rfl ?_
 refine vo_fieldAddr_ptr rfl rfl Try.underlying128 rfl inf3 (by rw [sz3]; decide) ?_
 refine vo_store_var rfl rfl rfl rfl inf3 sz3 rfl ?_
 refine vo_nil ?_
 refine hK2 _ ?_
 refine vc_seq fun K3 hK3 => ?_
 refine vc_seq fun K4 hK4 => ?_
 refine vc_region ?_
 refine vo_move_pv rfl rfl ?_
 refine vo_binI rfl rfl rfl rfl trivial ?_
 refine vo_move_pv rfl rfl ?_
 refine vo_split 17 rfl (fun hg1 => ?_) (fun hg1 => ?_)
 ·try simp only [zq0, zq1, zq2, zq3, zq4, zq5, zq6, zq7, zq8, zq9, zqa, zqb, zqc, zqd, zqe, zqf] at hg1
  refine vo_guard_off rfl rfl rfl rfl rfl ?_
  refine vo_guard_off rfl rfl rfl rfl rfl ?_
  refine vo_guard_off rfl rfl rfl rfl rfl ?_
  refine vo_guard_off rfl rfl rfl rfl rfl ?_
  refine vo_guard_off rfl rfl rfl rfl rfl ?_
  refine vo_guard_off rfl rfl rfl rfl rfl ?_
  refine vo_pick_t rfl rfl ?_
  refine vo_nil ?_
  refine hK4 _ ?_
  refine vc_cond_t rfl ?_
  refine vc_seq fun K5 hK5 => ?_
  refine vc_region ?_
  refine vo_assign_pv rfl rfl ?_
  refine vo_nil ?_
  refine hK5 _ ?_
  refine vc_ret ?_
  change retG _ _ _ _ _
  refine retG_sel [] [] hC rfl rfl rfl rfl rfl rfl ?_
  exact ⟨_, ⟨by omega, by omega⟩, rfl, rfl⟩
 ·try simp only [zq0, zq1, zq2, zq3, zq4, zq5, zq6, zq7, zq8, zq9, zqa, zqb, zqc, zqd, zqe, zqf] at hg1
  refine vo_guard_on rfl rfl rfl ?_
  refine vo_move_ptr rfl rfl ?_
  refine vo_guard_on rfl rfl rfl ?_
  refine vo_nilCheck_ptr rfl rfl ?_
  refine vo_guard_on rfl rfl rfl ?_
  refine vo_fieldAddr_ptr rfl rfl Try.underlying128 rfl inf44 (by rw [sz44]; decide) ?_
  refine vo_guard_on rfl rfl rfl ?_
  refine vo_load_var rfl rfl rfl Try.underlying44 rfl rfl ?_
  refine vo_guard_on rfl rfl rfl ?_
  refine vo_len_pv rfl rfl Try.underlying44 ?_
  refine vo_guard_on rfl rfl rfl ?_
  refine vo_binI rfl rfl rfl rfl trivial ?_
  refine vo_pick_f rfl rfl ?_
  refine vo_nil ?_
  refine hK4 _ ?_
  refine vc_cond rfl (fun hc2 => ?_) (fun hc2 => ?_)
  ·try simp only [zq0, zq1, zq2, zq3, zq4, zq5, zq6, zq7, zq8, zq9, zqa, zqb, zqc, zqd, zqe, zqf] at hc2
   refine vc_seq fun K6 hK6 => ?_
   refine vc_region ?_
   refine vo_assign_pv rfl rfl ?_
   refine vo_nil ?_
   refine hK6 _ ?_
   refine vc_ret ?_
   change retG _ _ _ _ _
   refine retG_sel [] [] hC rfl rfl rfl rfl rfl rfl ?_
   exact ⟨_, ⟨by omega, by omega⟩, rfl, rfl⟩
  ·try simp only [zq0, zq1, zq2, zq3, zq4, zq5, zq6, zq7, zq8, zq9, zqa, zqb, zqc, zqd, zqe, zqf] at hc2
   refine vc_skip ?_
   refine hK3 _ ?_
   refine vc_seq fun K7 hK7 => ?_
   refine vc_region ?_
   refine vo_move_ptr rfl rfl ?_
   refine vo_nilCheck_ptr rfl rfl ?_
   refine vo_fieldAddr_ptr rfl rfl Try.underlying128 rfl inf3 (by rw [sz3]; decide) ?_
   refine vo_load_var rfl rfl rfl Try.underlying3 rfl rfl ?_
   refine vo_binI rfl rfl rfl rfl sd ?_
   refine vo_assign_pv rfl rfl ?_
   refine vo_nil ?_
   refine hK7 _ ?_
   refine vc_seq fun K8 hK8 => ?_
   refine vc_seq fun K9 hK9 => ?_
   refine vc_region ?_
   refine vo_move_pv rfl rfl ?_
   refine vo_move_ptr rfl rfl ?_
   refine vo_nilCheck_ptr rfl rfl ?_
   refine vo_fieldAddr_ptr rfl rfl Try.underlying128 rfl inf44 (by rw [sz44]; decide) ?_
   refine vo_load_var rfl rfl rfl Try.underlying44 rfl rfl ?_
   refine vo_len_pv rfl rfl Try.underlying44 ?_
   refine vo_binI rfl rfl rfl rfl trivial ?_
   refine vo_nil ?_
   refine hK9 _ ?_
   refine vc_cond rfl (fun hc3 => ?_) (fun hc3 => ?_)
   ·try simp only [zq0, zq1, zq2, zq3, zq4, zq5, zq6, zq7, zq8, zq9, zqa, zqb, zqc, zqd, zqe, zqf] at hc3
    refine vc_seq fun K10 hK10 => ?_
    refine vc_region ?_
    refine vo_move_ptr rfl rfl ?_
    refine vo_nilCheck_ptr rfl rfl ?_
    refine vo_fieldAddr_ptr rfl rfl Try.underlying128 rfl inf44 (by rw [sz44]; decide) ?_
    refine vo_load_var rfl rfl rfl Try.underlying44 rfl rfl ?_
    refine vo_move_pv rfl rfl ?_
    refine vo_index_pv (.int .u8 0) rfl rfl rfl E44.und inf5 sz5 sd sd ?_
    simp only [Int.toNat_natCast, Int.toNat_zero, getD_ints, getD_intss, getD_bools, getD_bytes, PV.cells]
    refine vo_load_adr rfl rfl Try.underlying5 rfl ?_
    refine vo_convI rfl rfl Try.underlying5 Try.underlying3 sd ?_
    refine vo_move_pv rfl rfl ?_
    refine vo_binI rfl rfl rfl rfl sd ?_
    refine vo_assign_pv rfl rfl ?_
    refine vo_nil ?_
    refine hK10 _ ?_
    refine vc_ret ?_
    change retG _ _ _ _ _
    refine retG_sel [] [] hC rfl rfl rfl rfl rfl rfl ?_
    exact ⟨_, ⟨Int.emod_nonneg _ (by omega), fun h => Int.emod_lt_of_pos _ (by omega)⟩, rfl, rfl⟩
   ·try simp only [zq0, zq1, zq2, zq3, zq4, zq5, zq6, zq7, zq8, zq9, zqa, zqb, zqc, zqd, zqe, zqf] at hc3
    have e1 : 0 ≤ ((p : Int) + 1 - 1) % ((c.map byteP).length : Int) := Int.emod_nonneg _ (by omega)
    have e2 : ((p : Int) + 1 - 1) % ((c.map byteP).length : Int) < ((c.map byteP).length : Int) := Int.emod_lt_of_pos _ (by omega)
    have e3 : 0 ≤ (((p : Int) + 1 - 1) * 7 + 3) % ((c.map byteP).length : Int) := Int.emod_nonneg _ (by omega)
    have e4 : (((p : Int) + 1 - 1) * 7 + 3) % ((c.map byteP).length : Int) < ((c.map byteP).length : Int) := Int.emod_lt_of_pos _ (by omega)
    have e5 : 0 ≤ ((p : Int) + 1 - 1) / ((c.map byteP).length : Int) := Int.ediv_nonneg (by omega) (by omega)
    have e6 : ((p : Int) + 1 - 1) / ((c.map byteP).length : Int) ≤ (p : Int) + 1 - 1 := Int.ediv_le_self _ (by omega)
    refine vc_skip ?_
    refine hK8 _ ?_
    refine vc_seq fun K11 hK11 => ?_
    refine vc_draw (by kernel_rfl) ?_
    change VD _ _ _ 46 _ _ _
    refine vd_light 0 rfl rfl rfl (by kernel_rfl) (by kernel_rfl) (by kernel_rfl) (wnt_none rfl) (lt_move_ptr rfl) ?_
    refine vd_light 1 rfl rfl rfl (by kernel_rfl) (by kernel_rfl) (by kernel_rfl) (wnt_none rfl) (lt_nilCheck_ptr rfl) ?_
    refine vd_light 2 rfl rfl rfl (by kernel_rfl) (by kernel_rfl) (by kernel_rfl) (wnt_none rfl) (lt_fieldAddr_ptr rfl Try.underlying128 rfl inf44 (by rw [sz44]; decide)) ?_
    refine vd_light 3 rfl rfl rfl (by kernel_rfl) (by kernel_rfl) (by kernel_rfl) (wnt_none rfl) (lt_load_var rfl rfl Try.underlying44 rfl rfl) ?_
    refine vd_light 4 rfl rfl rfl (by kernel_rfl) (by kernel_rfl) (by kernel_rfl) (wnt_none rfl) (lt_move_pv rfl) ?_
    refine vd_light 5 rfl rfl rfl (by kernel_rfl) (by kernel_rfl) (by kernel_rfl) (wnt_none rfl) (lt_move_ptr rfl) ?_
    refine vd_light 6 rfl rfl rfl (by kernel_rfl) (by kernel_rfl) (by kernel_rfl) (wnt_none rfl) (lt_nilCheck_ptr rfl) ?_
    refine vd_light 7 rfl rfl rfl (by kernel_rfl) (by kernel_rfl) (by kernel_rfl) (wnt_none rfl) (lt_fieldAddr_ptr rfl Try.underlying128 rfl inf44 (by rw [sz44]; decide)) ?_
    refine vd_light 8 rfl rfl rfl (by kernel_rfl) (by kernel_rfl) (by kernel_rfl) (wnt_none rfl) (lt_load_var rfl rfl Try.underlying44 rfl rfl) ?_
    refine vd_light 9 rfl rfl rfl (by kernel_rfl) (by kernel_rfl) (by kernel_rfl) (wnt_none rfl) (lt_len_pv rfl Try.underlying44) ?_
    refine vd_light 10 rfl rfl rfl (by kernel_rfl) (by kernel_rfl) (by kernel_rfl) (wnt_none rfl) (lt_binI rfl rfl rfl sd) ?_
    refine vd_light 11 rfl rfl rfl (by kernel_rfl) (by kernel_rfl) (by kernel_rfl) (wnt_none rfl) (lt_index_pv (.int .u8 0) rfl rfl E44.und inf5 sz5 sd sd) ?_
    simp only [Int.toNat_natCast, Int.toNat_zero, getD_ints, getD_intss, getD_bools, getD_bytes, PV.cells]
    refine vd_light 12 rfl rfl rfl (by kernel_rfl) (by kernel_rfl) (by kernel_rfl) (wnt_none rfl) (lt_load_adr rfl Try.underlying5 rfl) ?_
    refine vd_light 13 rfl rfl rfl (by kernel_rfl) (by kernel_rfl) (by kernel_rfl) (wnt_none rfl) (lt_convI rfl Try.underlying5 Try.underlying3 sd) ?_
    refine vd_light 14 rfl rfl rfl (by kernel_rfl) (by kernel_rfl) (by kernel_rfl) (wnt_none rfl) (lt_binI rfl rfl rfl sd) ?_
    refine vd_light 15 rfl rfl rfl (by kernel_rfl) (by kernel_rfl) (by kernel_rfl) (wnt_none rfl) (lt_move_ptr rfl) ?_
    refine vd_light 16 rfl rfl rfl (by kernel_rfl) (by kernel_rfl) (by kernel_rfl) (wnt_none rfl) (lt_nilCheck_ptr rfl) ?_
    refine vd_light 17 rfl rfl rfl (by kernel_rfl) (by kernel_rfl) (by kernel_rfl) (wnt_none rfl) (lt_fieldAddr_ptr rfl Try.underlying128 rfl inf44 (by rw [sz44]; decide)) ?_
    refine vd_light 18 rfl rfl rfl (by kernel_rfl) (by kernel_rfl) (by kernel_rfl) (wnt_none rfl) (lt_load_var rfl rfl Try.underlying44 rfl rfl) ?_
    refine vd_light 19 rfl rfl rfl (by kernel_rfl) (by kernel_rfl) (by kernel_rfl) (wnt_none rfl) (lt_move_pv rfl) ?_
    refine vd_light 20 rfl rfl rfl (by kernel_rfl) (by kernel_rfl) (by kernel_rfl) (wnt_none rfl) (lt_binI rfl rfl rfl sd) ?_
    refine vd_light 21 rfl rfl rfl (by kernel_rfl) (by kernel_rfl) (by kernel_rfl) (wnt_none rfl) (lt_binI rfl rfl rfl sd) ?_
    refine vd_light 22 rfl rfl rfl (by kernel_rfl) (by kernel_rfl) (by kernel_rfl) (wnt_none rfl) (lt_move_ptr rfl) ?_
    refine vd_light 23 rfl rfl rfl (by kernel_rfl) (by kernel_rfl) (by kernel_rfl) (wnt_none rfl) (lt_nilCheck_ptr rfl) ?_
    refine vd_light 24 rfl rfl rfl (by kernel_rfl) (by kernel_rfl) (by kernel_rfl) (wnt_none rfl) (lt_fieldAddr_ptr rfl Try.underlying128 rfl inf44 (by rw [sz44]; decide)) ?_
    refine vd_light 25 rfl rfl rfl (by kernel_rfl) (by kernel_rfl) (by kernel_rfl) (wnt_none rfl) (lt_load_var rfl rfl Try.underlying44 rfl rfl) ?_
    refine vd_light 26 rfl rfl rfl (by kernel_rfl) (by kernel_rfl) (by kernel_rfl) (wnt_none rfl) (lt_len_pv rfl Try.underlying44) ?_
    refine vd_light 27 rfl rfl rfl (by kernel_rfl) (by kernel_rfl) (by kernel_rfl) (wnt_none rfl) (lt_binI rfl rfl rfl sd) ?_
    refine vd_light 28 rfl rfl rfl (by kernel_rfl) (by kernel_rfl) (by kernel_rfl) (wnt_none rfl) (lt_index_pv (.int .u8 0) rfl rfl E44.und inf5 sz5 sd sd) ?_
    simp only [Int.toNat_natCast, Int.toNat_zero, getD_ints, getD_intss, getD_bools, getD_bytes, PV.cells]
    refine vd_light 29 rfl rfl rfl (by kernel_rfl) (by kernel_rfl) (by kernel_rfl) (wnt_none rfl) (lt_load_adr rfl Try.underlying5 rfl) ?_
    refine vd_light 30 rfl rfl rfl (by kernel_rfl) (by kernel_rfl) (by kernel_rfl) (wnt_none rfl) (lt_convI rfl Try.underlying5 Try.underlying3 sd) ?_
    refine vd_light 31 rfl rfl rfl (by kernel_rfl) (by kernel_rfl) (by kernel_rfl) (wnt_none rfl) (lt_binI rfl rfl rfl sd) ?_
    refine vd_light 32 rfl rfl rfl (by kernel_rfl) (by kernel_rfl) (by kernel_rfl) (wnt_none rfl) (lt_binI rfl rfl rfl sd) ?_
    refine vd_light 33 rfl rfl rfl (by kernel_rfl) (by kernel_rfl) (by kernel_rfl) (wnt_none rfl) (lt_move_pv rfl) ?_
    refine vd_light 34 rfl rfl rfl (by kernel_rfl) (by kernel_rfl) (by kernel_rfl) (wnt_none rfl) (lt_binI rfl rfl rfl sd) ?_
    refine vd_light 35 rfl rfl rfl (by kernel_rfl) (by kernel_rfl) (by kernel_rfl) (wnt_none rfl) (lt_binI rfl rfl rfl sd) ?_
    refine vd_light 36 rfl rfl rfl (by kernel_rfl) (by kernel_rfl) (by kernel_rfl) (wnt_none rfl) (lt_move_pv rfl) ?_
    refine vd_light 37 rfl rfl rfl (by kernel_rfl) (by kernel_rfl) (by kernel_rfl) (wnt_none rfl) (lt_move_ptr rfl) ?_
    refine vd_light 38 rfl rfl rfl (by kernel_rfl) (by kernel_rfl) (by kernel_rfl) (wnt_none rfl) (lt_nilCheck_ptr rfl) ?_
    refine vd_light 39 rfl rfl rfl (by kernel_rfl) (by kernel_rfl) (by kernel_rfl) (wnt_none rfl) (lt_fieldAddr_ptr rfl Try.underlying128 rfl inf44 (by rw [sz44]; decide)) ?_
    refine vd_light 40 rfl rfl rfl (by kernel_rfl) (by kernel_rfl) (by kernel_rfl) (wnt_none rfl) (lt_load_var rfl rfl Try.underlying44 rfl rfl) ?_
    refine vd_light 41 rfl rfl rfl (by kernel_rfl) (by kernel_rfl) (by kernel_rfl) (wnt_none rfl) (lt_len_pv rfl Try.underlying44) ?_
    refine vd_light 42 rfl rfl rfl (by kernel_rfl) (by kernel_rfl) (by kernel_rfl) (wnt_none rfl) (lt_binI rfl rfl rfl sd) ?_
    refine vd_light 43 rfl rfl rfl (by kernel_rfl) (by kernel_rfl) (by kernel_rfl) (wnt_none rfl) (lt_binI rfl rfl rfl sd) ?_
    refine vd_light 44 rfl rfl rfl (by kernel_rfl) (by kernel_rfl) (by kernel_rfl) (wnt_none rfl) (lt_binI rfl rfl rfl sd) ?_
    refine vd_light 45 rfl rfl rfl (by kernel_rfl) (by kernel_rfl) (by kernel_rfl) (wnt_none rfl) (lt_assign_pv rfl) ?_
    refine vd_nil (by kernel_rfl) ?_
    refine hK11 _ ?_
    refine vc_seq fun K12 hK12 => ?_
    refine vc_region ?_
    refine vo_move_pv rfl rfl ?_
    refine vo_move_pv rfl rfl ?_
    refine vo_binI rfl rfl rfl rfl sd ?_
    refine vo_xor rfl rfl rfl sd sd sd sd ?_
    refine vo_assign_pv rfl rfl ?_
    refine vo_nil ?_
    refine hK12 _ ?_
    refine vc_seq fun K13 hK13 => ?_
    refine vc_region ?_
    refine vo_move_pv rfl rfl ?_
    refine vo_move_pv rfl rfl ?_
    refine vo_binI rfl rfl rfl rfl sd ?_
    refine vo_assign_pv rfl rfl ?_
    refine vo_nil ?_
    refine hK13 _ ?_
    refine vc_ret ?_
    change retG _ _ _ _ _
    refine retG_sel [] [] hC rfl rfl rfl rfl rfl rfl ?_
    exact ⟨_, ⟨Int.emod_nonneg _ (by omega), fun h => Int.emod_lt_of_pos _ (by omega)⟩, rfl, rfl⟩


theorem one_sat {nl : Option Bool} {c : List (Fin 256)} {p : Nat} {nl2 : Option Bool} {list : List Int} (hc : c.length ≤ 2000) (hp : p < 1000000) (hn : list ≠ []) (hl : list.length < 1000000000) : SatAt Try.prog 59 [.ptr 0 0 0 0, .pv false (.sl nl2 1 (list.map intP))] [rdr nl c p] (fun res rows => ∃ x, x ∈ list ∧ res = [i64 x] ∧ rows = [rdr nl c (p + 1)]) := by
 have hL : ((list.map intP).length : Int) = list.length := by simp
 have hN := List.length_pos_iff.2 hn
 refine sat_entry_g (ts := [4]) Try.func59 rfl rfl (by decide) (Nat.le_of_ble_eq_true rfl) fun C hC => ?_
 rw [Try.ntmps59]
 replace hC : C.nb = 1 := hC
 refine vc_seq fun K1 hK1 => ?_
 refine vc_region ?_
 refine vo_assign_pv rfl rfl ?_
 refine vo_nil ?_
 refine hK1 _ ?_
 refine vc_seq fun K2 hK2 => ?_
 refine vc_region ?_
 refine vo_move_pv rfl rfl ?_
 refine vo_move_ptr rfl rfl ?_
 refine vo_move_pv rfl rfl ?_
 refine vo_len_pv rfl rfl Try.underlying49 ?_
 refine vo_call [0] Try.func58 rfl rfl rfl rfl rfl rfl rfl (pick_sat hc (by omega)) ?_
 rintro _ _ ⟨x, ⟨hx0, hx1⟩, rfl, rfl⟩
 refine ⟨Nat.le_of_ble_eq_true rfl, ⟨rfl, rfl, rfl, rfl⟩, .inl rfl, ?_⟩
 refine vo_stN ?_
 refine vo_index_pv (.int .i64 0) rfl rfl rfl E49.und inf3 sz3 sd sd ?_
 simp only [Int.toNat_natCast, Int.toNat_zero, getD_ints, getD_intss, getD_bools, getD_bytes, PV.cells]
 refine vo_load_adr rfl rfl Try.underlying3 rfl ?_
 refine vo_assign_pv rfl rfl ?_
 refine vo_nil ?_
 refine hK2 _ ?_
 refine vc_ret ?_
 change retG _ _ _ _ _
 refine retG_sel [] [] hC rfl rfl rfl rfl rfl rfl ?_
 exact ⟨_, getD_mem (by omega) 0, rfl, rfl⟩


theorem someBases_sat {nl : Option Bool} {c : List (Fin 256)} {p : Nat} {most : Int} (hc : c.length ≤ 2000) (hp : p < 999900) : SatAt Try.prog 137 [.ptr 0 0 0 0, i64 most] [rdr nl c p] (fun res rows => ∃ B q, (SB B ∧ B.length ≤ 9 ∧ ((B.length : Int) ≤ most ∨ B.length = 1) ∧ q ≤ p + 90) ∧ res = [.ref 1] ∧ rows = [rdr nl c q, Row.own 49 1 (some false) true (B.map ints)]) := by
 refine sat_entry_g (ts := [4]) Try.func137 rfl rfl (by decide) (Nat.le_of_ble_eq_true rfl) fun C hC => ?_
 rw [Try.ntmps137]
 replace hC : C.nb = 1 := hC
 refine vc_seq fun K1 hK1 => ?_
 refine vc_region ?_
 refine vo_assign_pv rfl rfl ?_
 refine vo_nil ?_
 refine hK1 _ ?_
 refine vc_seq fun K2 hK2 => ?_
 refine vc_region ?_
 refine vo_buildSlice E49 rfl rfl rfl rfl rfl ?_
 refine vo_expose 1 (by omega) rfl ?_
 refine vo_weaken 10 rfl ?_
 refine vo_stN ?_
 refine vo_buildSlice E22 rfl rfl rfl rfl rfl ?_
 refine vo_assign_ref rfl rfl ?_
 refine vo_nil ?_
 refine hK2 _ ?_
 refine vc_seq fun K3 hK3 => ?_
 refine vc_seq fun K4 hK4 => ?_
 refine vc_region ?_
 refine vo_move_ptr rfl rfl ?_
 refine vo_buildSlice E49 rfl rfl rfl rfl rfl ?_
 refine vo_expose 3 (by omega) rfl ?_
 refine vo_weaken 13 rfl ?_
 refine vo_stN ?_
 refine vo_call [0] Try.func59 rfl rfl rfl rfl rfl rfl rfl (one_sat (list := [4,5,3,6,7,2,0,8]) hc (by omega) (by simp) (by simp)) ?_
 rintro _ _ ⟨x, hx, rfl, rfl⟩
 refine ⟨Nat.le_of_ble_eq_true rfl, ⟨rfl, rfl, rfl, rfl⟩, .inl rfl, ?_⟩
 refine vo_stN ?_
 refine vo_assign_pv rfl rfl ?_
 refine vo_nil ?_
 refine hK4 _ ?_
 refine vc_block ?_
 refine vc_stN ?_
 refine vc_loop [0, 1, 5, 6] (fun mz vs rows => ∃ (B : List (List Int)) (q : Nat) (n : Int), mz = n.toNat ∧ ((0 ≤ n ∧ B.length + n ≤ 9)) ∧ ((q + 10 * n ≤ p + 90)) ∧ (SB B) ∧ (((B.length : Int) ≤ most ∨ B.length = 1)) ∧ vs = [.ptr 0 0 0 0, i64 most, .ref 2, i64 n] ∧ rows = [rdr nl c q, .dead, Row.own 49 1 (some false) true (B.map ints), .dead]) (x.toNat) (le_len hC rfl) ⟨rfl, rfl⟩ ⟨[[]], p+1, x, rfl, (by simp at hx; simp; omega), (by simp at hx; omega), ⟨by simp, rfl, fun i h1 h2 => by simp at h1; omega⟩, .inr rfl, rfl, rfl⟩ ?_
 rintro mz vs rows - - ⟨B, q, n, rfl, hn, hq, hB, hm, rfl, rfl⟩
 have hBl : ((B.map ints).length : Int) = B.length := by simp
 have hB1 := hB.1
 refine vc_seq fun K5 hK5 => ?_
 refine vc_seq fun K6 hK6 => ?_
 refine vc_region ?_
 refine vo_move_pv rfl rfl ?_
 refine vo_binI rfl rfl rfl rfl trivial ?_
 refine vo_move_pv rfl rfl ?_
 refine vo_split 17 rfl (fun hg1 => ?_) (fun hg1 => ?_)
 ·try simp only [zq0, zq1, zq2, zq3, zq4, zq5, zq6, zq7, zq8, zq9, zqa, zqb, zqc, zqd, zqe, zqf] at hg1
  refine vo_guard_on rfl rfl rfl ?_
  refine vo_move_ref rfl rfl ?_
  refine vo_guard_on rfl rfl rfl ?_
  refine vo_len_ref rfl rfl rfl Try.underlying22 ?_
  refine vo_guard_on rfl rfl rfl ?_
  refine vo_move_pv rfl rfl ?_
  refine vo_guard_on rfl rfl rfl ?_
  refine vo_binI rfl rfl rfl rfl trivial ?_
  refine vo_pick_t rfl rfl ?_
  refine vo_nil ?_
  refine hK6 _ ?_
  refine vc_cond rfl (fun hc2 => ?_) (fun hc2 => ?_)
  ·try simp only [zq0, zq1, zq2, zq3, zq4, zq5, zq6, zq7, zq8, zq9, zqa, zqb, zqc, zqd, zqe, zqf] at hc2
   refine vc_skip ?_
   refine hK5 _ ?_
   refine vc_seq fun K7 hK7 => ?_
   refine vc_block ?_
   refine vc_seq fun K8 hK8 => ?_
   refine vc_region ?_
   refine vo_buildSlice E49 rfl rfl rfl rfl rfl ?_
   refine vo_assign_ref rfl rfl ?_
   refine vo_nil ?_
   refine hK8 _ ?_
   refine vc_seq fun K9 hK9 => ?_
   refine vc_seq fun K10 hK10 => ?_
   refine vc_region ?_
   refine vo_move_ptr rfl rfl ?_
   refine vo_buildSlice E49 rfl rfl rfl rfl rfl ?_
   refine vo_expose 5 (by omega) rfl ?_
   refine vo_weaken 27 rfl ?_
   refine vo_stN ?_
   refine vo_call [0] Try.func59 rfl rfl rfl rfl rfl rfl rfl (one_sat (list := [1,2,2,3]) hc (by omega) (by simp) (by simp)) ?_
   rintro _ _ ⟨y, hy, rfl, rfl⟩
   refine ⟨Nat.le_of_ble_eq_true rfl, ⟨rfl, rfl, rfl, rfl⟩, .inl rfl, ?_⟩
   refine vo_stN ?_
   refine vo_assign_pv rfl rfl ?_
   refine vo_nil ?_
   refine hK10 _ ?_
   refine vc_block ?_
   refine vc_stN ?_
   refine vc_loop [0, 1, 5, 6, 7, 8] (fun mz vs rows => ∃ (q : Nat) (k : Int) (l : List Int), mz = k.toNat ∧ ((0 ≤ k ∧ l.length + k ≤ 3)) ∧ ((q + 3 * k + 10 * (n-1) ≤ p + 90)) ∧ (l.Nodup) ∧ ((∀ x ∈ l, 0 ≤ x ∧ x < B.length)) ∧ ((l ≠ [] ∨ 1 ≤ k)) ∧ vs = [.ptr 0 0 0 0, i64 most, .ref 2, i64 n, .ref 4, i64 k] ∧ rows = [rdr nl c q, .dead, Row.own 49 1 (some false) true (B.map ints), .dead, Row.own 3 1 (some false) true (l.map intP), .dead]) (y.toNat) (le_len hC rfl) ⟨rfl, rfl⟩ ⟨q+1, y, [], rfl, (by simp at hy; simp; omega), (by simp at hy; omega), List.nodup_nil, (by simp), (.inr (by simp at hy; omega)), rfl, rfl⟩ ?_
   rintro mz vs rows - - ⟨q, k, l, rfl, hk, hq2, hl, hl2, hl3, rfl, rfl⟩
   refine vc_seq fun K11 hK11 => ?_
   refine vc_seq fun K12 hK12 => ?_
   refine vc_region ?_
   refine vo_move_pv rfl rfl ?_
   refine vo_binI rfl rfl rfl rfl trivial ?_
   refine vo_nil ?_
   refine hK12 _ ?_
   refine vc_cond rfl (fun hc3 => ?_) (fun hc3 => ?_)
   ·try simp only [zq0, zq1, zq2, zq3, zq4, zq5, zq6, zq7, zq8, zq9, zqa, zqb, zqc, zqd, zqe, zqf] at hc3
    refine vc_skip ?_
    refine hK11 _ ?_
    refine vc_seq fun K13 hK13 => ?_
    refine vc_block ?_
    refine vc_seq fun K14 hK14 => ?_
    refine vc_region ?_
    refine vo_move_ptr rfl rfl ?_
    refine vo_move_ref rfl rfl ?_
    refine vo_len_ref rfl rfl rfl Try.underlying22 ?_
    refine vo_binI rfl rfl rfl rfl sd ?_
    refine vo_move_ptr rfl rfl ?_
    refine vo_move_ref rfl rfl ?_
    refine vo_len_ref rfl rfl rfl Try.underlying22 ?_
    refine vo_call [0] Try.func58 rfl rfl rfl rfl rfl rfl rfl (pick_sat hc (by omega)) ?_
    rintro _ _ ⟨x1, ⟨hx1, hx2⟩, rfl, rfl⟩
    refine ⟨Nat.le_of_ble_eq_true rfl, ⟨rfl, rfl, rfl, rfl⟩, .inl rfl, ?_⟩
    refine vo_stN ?_
    refine vo_move_ptr rfl rfl ?_
    refine vo_move_ref rfl rfl ?_
    refine vo_len_ref rfl rfl rfl Try.underlying22 ?_
    refine vo_call [0] Try.func58 rfl rfl rfl rfl rfl rfl rfl (pick_sat hc (by omega)) ?_
    rintro _ _ ⟨x2, ⟨hx3, hx4⟩, rfl, rfl⟩
    refine ⟨Nat.le_of_ble_eq_true rfl, ⟨rfl, rfl, rfl, rfl⟩, .inl rfl, ?_⟩
    refine vo_stN ?_
    refine vo_buildSlice E49 rfl rfl rfl rfl rfl ?_
    refine vo_expose 6 (by omega) rfl ?_
    refine vo_weaken 45 rfl ?_
    refine vo_stN ?_
    refine vo_call [0] Try.func59 rfl rfl rfl rfl rfl rfl rfl (one_sat (list := [_,_,_]) hc (by omega) (by simp) (by simp)) ?_
    rintro _ _ ⟨x, hx, rfl, rfl⟩
    refine ⟨Nat.le_of_ble_eq_true rfl, ⟨rfl, rfl, rfl, rfl⟩, .inl rfl, ?_⟩
    refine vo_stN ?_
    refine vo_assign_pv rfl rfl ?_
    refine vo_nil ?_
    refine hK14 _ ?_
    refine vc_seq fun K15 hK15 => ?_
    refine vc_region ?_
    refine vo_move_ref rfl rfl ?_
    refine vo_move_pv rfl rfl ?_
    refine vo_call0 Try.func126 rfl rfl rfl rfl (placeIn_sat (by omega)) ?_
    rintro _ _ ⟨rfl, rfl⟩
    refine ⟨rfl, rfl, .inr rfl, ?_⟩
    refine vo_binI rfl rfl rfl rfl trivial ?_
    refine vo_nil ?_
    refine hK15 _ ?_
    refine vc_cond rfl (fun hc4 => ?_) (fun hc4 => ?_)
    ·try simp only [zq0, zq1, zq2, zq3, zq4, zq5, zq6, zq7, zq8, zq9, zqa, zqb, zqc, zqd, zqe, zqf] at hc4
     refine vc_region ?_
     refine vo_move_ref rfl rfl ?_
     refine vo_move_pv rfl rfl ?_
     refine vo_buildSlice E49 rfl rfl rfl rfl rfl ?_
     refine vo_append E49 rfl (by omega) rfl rfl rfl sd sd ?_
     refine vo_stN ?_
     try simp only [app_ints, app_intss, app_bools]
     refine vo_assign_ref rfl rfl ?_
     refine vo_nil ?_
     refine hK13 _ ?_
     refine vc_region ?_
     refine vo_move_pv rfl rfl ?_
     refine vo_binI rfl rfl rfl rfl sd ?_
     refine vo_assign_pv rfl rfl ?_
     refine vo_nil ?_
     change again _ _ _ _ _ _
     refine again_mk rfl rfl rfl rfl ⟨_, ?_, q + 1 + 1 + 1, k - 1, l ++ [x], rfl, ?_, ?_, ?_, ?_, ?_, rfl, rfl⟩
     ·omega
     ·refine ⟨by omega, ?_⟩; rw [List.length_append, List.length_singleton]; omega
     ·omega
     ·exact nodup_snoc hl ((findM_not _ _ 0 (by omega)).1 (by assumption))
     ·intro z hz; rcases List.mem_append.1 hz with hz | hz
      ·exact hl2 z hz
      ·rw [List.mem_singleton.1 hz]; simp only [List.mem_cons, List.not_mem_nil, or_false] at hx; rcases hx with rfl | rfl | rfl <;> omega
     ·exact .inl (by simp)
    ·try simp only [zq0, zq1, zq2, zq3, zq4, zq5, zq6, zq7, zq8, zq9, zqa, zqb, zqc, zqd, zqe, zqf] at hc4
     refine vc_skip ?_
     refine hK13 _ ?_
     refine vc_region ?_
     refine vo_move_pv rfl rfl ?_
     refine vo_binI rfl rfl rfl rfl sd ?_
     refine vo_assign_pv rfl rfl ?_
     refine vo_nil ?_
     change again _ _ _ _ _ _
     refine again_mk rfl rfl rfl rfl ⟨_, ?_, q + 1 + 1 + 1, k - 1, l, rfl, ?_, ?_, ?_, ?_, ?_, rfl, rfl⟩
     ·omega
     ·omega
     ·omega
     ·exact hl
     ·exact hl2
     ·exact .inl (fun e => by subst e; simp [findM] at *)
   ·try simp only [zq0, zq1, zq2, zq3, zq4, zq5, zq6, zq7, zq8, zq9, zqa, zqb, zqc, zqd, zqe, zqf] at hc3
    refine vc_exit ?_
    refine hK9 _ ?_
    refine vc_region ?_
    refine vo_move_ref rfl rfl ?_
    refine vo_move_ref rfl rfl ?_
    refine vo_expose 4 (by omega) rfl ?_
    refine vo_weaken 56 rfl ?_
    refine vo_stN ?_
    refine vo_buildSlice E22 rfl rfl rfl rfl rfl ?_
    refine vo_append E22 rfl (by omega) rfl rfl rfl sd sd ?_
    refine vo_stN ?_
    try simp only [app_ints, app_intss, app_bools]
    refine vo_assign_ref rfl rfl ?_
    refine vo_nil ?_
    refine hK7 _ ?_
    refine vc_region ?_
    refine vo_move_pv rfl rfl ?_
    refine vo_binI rfl rfl rfl rfl sd ?_
    refine vo_assign_pv rfl rfl ?_
    refine vo_nil ?_
    change again _ _ _ _ _ _
    refine again_mk rfl rfl rfl rfl ⟨_, ?_, B ++ [l], q, n - 1, rfl, ?_, ?_, ?_, ?_, rfl, rfl⟩
    ·omega
    ·refine ⟨by omega, ?_⟩; rw [List.length_append, List.length_singleton]; omega
    ·omega
    ·exact hB.snoc (by rcases hl3 with h | h; exact h; omega) (by omega) hl hl2
    ·left; rw [List.length_append, List.length_singleton]; omega
  ·try simp only [zq0, zq1, zq2, zq3, zq4, zq5, zq6, zq7, zq8, zq9, zqa, zqb, zqc, zqd, zqe, zqf] at hc2
   refine vc_exit ?_
   refine hK3 _ ?_
   refine vc_seq fun K16 hK16 => ?_
   refine vc_region ?_
   refine vo_move_ref rfl rfl ?_
   refine vo_assign_ref rfl rfl ?_
   refine vo_nil ?_
   refine hK16 _ ?_
   refine vc_ret ?_
   change retG _ _ _ _ _
   refine retG_one 2 hC rfl rfl rfl rfl rfl ?_
   exact ⟨_, _, ⟨hB, by omega, hm, by omega⟩, rfl, rfl⟩
 ·try simp only [zq0, zq1, zq2, zq3, zq4, zq5, zq6, zq7, zq8, zq9, zqa, zqb, zqc, zqd, zqe, zqf] at hg1
  refine vo_guard_off rfl rfl rfl rfl rfl ?_
  refine vo_guard_off rfl rfl rfl rfl rfl ?_
  refine vo_guard_off rfl rfl rfl rfl rfl ?_
  refine vo_guard_off rfl rfl rfl rfl rfl ?_
  refine vo_pick_f rfl rfl ?_
  refine vo_nil ?_
  refine hK6 _ ?_
  refine vc_cond_f rfl ?_
  refine vc_exit ?_
  refine hK3 _ ?_
  refine vc_seq fun K17 hK17 => ?_
  refine vc_region ?_
  refine vo_move_ref rfl rfl ?_
  refine vo_assign_ref rfl rfl ?_
  refine vo_nil ?_
  refine hK17 _ ?_
  refine vc_ret ?_
  change retG _ _ _ _ _
  refine retG_one 2 hC rfl rfl rfl rfl rfl ?_
  exact ⟨_, _, ⟨hB, by omega, hm, by omega⟩, rfl, rfl⟩

end Go.Vl

namespace Go.Vl
set_option linter.unusedVariables false
set_option linter.unusedSimpArgs false
open Go.Proofs

end Go.Vl

namespace Go.Vl
set_option linter.unusedVariables false
set_option linter.unusedSimpArgs false
open Go.Proofs

theorem lt3 {B : List (List Int)} (h : ∀ l ∈ B, l.length ≤ 3) : ∀ l ∈ B, l.length < 1000000000 := fun l hl => by have := h l hl; omega

theorem isIn_sat {nl0 : Option Bool} {list : List Int} {n : Int} (hlist : list.length < 1000000000)  : SatAt Try.prog 22 [.pv false (.sl nl0 1 (list.map intP)), i64 n] [] (fun res rows => res = [bo (decide (n ∈ list))] ∧ rows = []) := by
 refine sat_entry (ts := [4]) Try.func22 rfl rfl (by decide) (Nat.le_of_ble_eq_true rfl) fun C hC => ?_
 rw [Try.ntmps22]
 replace hC : C.nb = 0 := hC
 refine vc_seq fun K1 hK1 => ?_
 refine vc_region ?_
 refine vo_assign_pv rfl rfl ?_
 refine vo_nil ?_
 refine hK1 _ ?_
 refine vc_seq fun K2 hK2 => ?_
 refine vc_seq fun K3 hK3 => ?_
 refine vc_region ?_
 refine vo_assign_pv rfl rfl ?_
 refine vo_nil ?_
 refine hK3 _ ?_
 refine vc_block ?_
 refine vc_stN ?_
 refine vc_loopF [0, 1] [5] [.pv false (.sl nl0 1 (list.map intP)), i64 n] _ (fun mz vs => ∃ (k : Nat), mz = list.length - k ∧ (k ≤ list.length) ∧ (n ∉ list.take k) ∧ vs = [i64 k]) (list.length) rfl rfl (le_len hC rfl) ⟨rfl, rfl, rfl⟩ ⟨0, rfl, Nat.zero_le _, (by simp), rfl⟩ ?_
 rintro mz vs - ⟨k, rfl, hk, hf, rfl⟩
 refine vc_stN ?_
 refine vc_seq fun K4 hK4 => ?_
 refine vc_seq fun K5 hK5 => ?_
 refine vc_region ?_
 refine vo_move_pv rfl rfl ?_
 refine vo_move_pv rfl rfl ?_
 refine vo_len_pv rfl rfl Try.underlying49 ?_
 refine vo_binI rfl rfl rfl rfl trivial ?_
 refine vo_nil ?_
 refine hK5 _ ?_
 refine vc_cond rfl (fun hc1 => ?_) (fun hc1 => ?_)
 ·try simp only [zq0, zq1, zq2, zq3, zq4, zq5, zq6, zq7, zq8, zq9, zqa, zqb, zqc, zqd, zqe, zqf] at hc1
  refine vc_skip ?_
  refine hK4 _ ?_
  refine vc_seq fun K6 hK6 => ?_
  refine vc_block ?_
  refine vc_seq fun K7 hK7 => ?_
  refine vc_region ?_
  refine vo_move_pv rfl rfl ?_
  refine vo_move_pv rfl rfl ?_
  refine vo_index_pv (.int .i64 0) rfl rfl rfl E49.und inf3 sz3 sd sd ?_
  simp only [Int.toNat_natCast, Int.toNat_zero, getD_ints, getD_intss, getD_bools, getD_bytes, PV.cells]
  refine vo_load_adr rfl rfl Try.underlying3 rfl ?_
  refine vo_move_pv rfl rfl ?_
  refine vo_binI rfl rfl rfl rfl trivial ?_
  refine vo_nil ?_
  refine hK7 _ ?_
  refine vc_cond rfl (fun hc2 => ?_) (fun hc2 => ?_)
  ·try simp only [zq0, zq1, zq2, zq3, zq4, zq5, zq6, zq7, zq8, zq9, zqa, zqb, zqc, zqd, zqe, zqf] at hc2
   refine vc_seq fun K8 hK8 => ?_
   refine vc_region ?_
   refine vo_assign_pv rfl rfl ?_
   refine vo_nil ?_
   refine hK8 _ ?_
   refine vc_ret ?_
   change retPv _ _ _ _ _
   refine retPv_mk rfl rfl rfl ⟨?_, rfl⟩
   refine (congrArg (fun b => [bo b]) (?_ : _ = _) : [bo _] = [bo _])
   exact bT (by have := getD_mem (show k < list.length by omega) 0; simp_all)
  ·try simp only [zq0, zq1, zq2, zq3, zq4, zq5, zq6, zq7, zq8, zq9, zqa, zqb, zqc, zqd, zqe, zqf] at hc2
   refine vc_skip ?_
   refine hK6 _ ?_
   refine vc_region ?_
   refine vo_move_pv rfl rfl ?_
   refine vo_binI rfl rfl rfl rfl sd ?_
   refine vo_assign_pv rfl rfl ?_
   refine vo_nil ?_
   change againF _ _ _ _ _ _ _ _ _
   refine againF_mk rfl rfl rfl rfl rfl rfl ⟨_, ?_, k + 1, rfl, ?_, ?_, rfl⟩
   ·omega
   ·omega
   ·rw [List.take_succ_eq_append_getElem (by omega), List.mem_append]; rintro (h | h)
    ·exact hf h
    ·rw [List.mem_singleton, ← getD_at (by omega) 0] at h; omega
 ·try simp only [zq0, zq1, zq2, zq3, zq4, zq5, zq6, zq7, zq8, zq9, zqa, zqb, zqc, zqd, zqe, zqf] at hc1
  refine vc_exit ?_
  refine hK2 _ ?_
  refine vc_seq fun K9 hK9 => ?_
  refine vc_region ?_
  refine vo_assign_pv rfl rfl ?_
  refine vo_nil ?_
  refine hK9 _ ?_
  refine vc_ret ?_
  change retPv _ _ _ _ _
  refine retPv_mk rfl rfl rfl ⟨?_, rfl⟩
  refine (congrArg (fun b => [bo b]) (?_ : _ = _) : [bo _] = [bo _])
  rw [take_all (by omega)] at hf; exact bF hf


theorem equalInts_sat {nl0 : Option Bool} {a : List Int} {nl1 : Option Bool} {b : List Int} (ha : a.length < 1000000000) (hb : b.length < 1000000000)  : SatAt Try.prog 29 [.pv false (.sl nl0 1 (a.map intP)), .pv false (.sl nl1 1 (b.map intP))] [] (fun res rows => res = [bo (decide (a = b))] ∧ rows = []) := by
 refine sat_entry (ts := [4]) Try.func29 rfl rfl (by decide) (Nat.le_of_ble_eq_true rfl) fun C hC => ?_
 rw [Try.ntmps29]
 replace hC : C.nb = 0 := hC
 refine vc_seq fun K1 hK1 => ?_
 refine vc_region ?_
 refine vo_assign_pv rfl rfl ?_
 refine vo_nil ?_
 refine hK1 _ ?_
 refine vc_seq fun K2 hK2 => ?_
 refine vc_seq fun K3 hK3 => ?_
 refine vc_region ?_
 refine vo_move_pv rfl rfl ?_
 refine vo_len_pv rfl rfl Try.underlying49 ?_
 refine vo_move_pv rfl rfl ?_
 refine vo_len_pv rfl rfl Try.underlying49 ?_
 refine vo_binI rfl rfl rfl rfl trivial ?_
 refine vo_nil ?_
 refine hK3 _ ?_
 refine vc_cond rfl (fun hc1 => ?_) (fun hc1 => ?_)
 ·try simp only [zq0, zq1, zq2, zq3, zq4, zq5, zq6, zq7, zq8, zq9, zqa, zqb, zqc, zqd, zqe, zqf] at hc1
  refine vc_seq fun K4 hK4 => ?_
  refine vc_region ?_
  refine vo_assign_pv rfl rfl ?_
  refine vo_nil ?_
  refine hK4 _ ?_
  refine vc_ret ?_
  change retPv _ _ _ _ _
  refine retPv_mk rfl rfl rfl ⟨?_, rfl⟩
  refine (congrArg (fun b => [bo b]) (?_ : _ = _) : [bo _] = [bo _])
  exact bF fun h => by subst h; omega
 ·try simp only [zq0, zq1, zq2, zq3, zq4, zq5, zq6, zq7, zq8, zq9, zqa, zqb, zqc, zqd, zqe, zqf] at hc1
  refine vc_skip ?_
  refine hK2 _ ?_
  refine vc_seq fun K5 hK5 => ?_
  refine vc_seq fun K6 hK6 => ?_
  refine vc_region ?_
  refine vo_assign_pv rfl rfl ?_
  refine vo_nil ?_
  refine hK6 _ ?_
  refine vc_block ?_
  refine vc_stN ?_
  refine vc_loopF [0, 1] [5] [.pv false (.sl nl0 1 (a.map intP)), .pv false (.sl nl1 1 (b.map intP))] _ (fun mz vs => ∃ (k : Nat), mz = a.length - k ∧ (k ≤ a.length) ∧ (a.take k = b.take k) ∧ vs = [i64 k]) (a.length) rfl rfl (le_len hC rfl) ⟨rfl, rfl, rfl⟩ ⟨0, rfl, Nat.zero_le _, rfl, rfl⟩ ?_
  rintro mz vs - ⟨k, rfl, hk, hf, rfl⟩
  refine vc_stN ?_
  refine vc_seq fun K7 hK7 => ?_
  refine vc_seq fun K8 hK8 => ?_
  refine vc_region ?_
  refine vo_move_pv rfl rfl ?_
  refine vo_move_pv rfl rfl ?_
  refine vo_len_pv rfl rfl Try.underlying49 ?_
  refine vo_binI rfl rfl rfl rfl trivial ?_
  refine vo_nil ?_
  refine hK8 _ ?_
  refine vc_cond rfl (fun hc2 => ?_) (fun hc2 => ?_)
  ·try simp only [zq0, zq1, zq2, zq3, zq4, zq5, zq6, zq7, zq8, zq9, zqa, zqb, zqc, zqd, zqe, zqf] at hc2
   refine vc_skip ?_
   refine hK7 _ ?_
   refine vc_seq fun K9 hK9 => ?_
   refine vc_block ?_
   refine vc_seq fun K10 hK10 => ?_
   refine vc_draw (by kernel_rfl) ?_
   change VD _ _ _ 9 _ _ _
   refine vd_light 0 rfl rfl rfl (by kernel_rfl) (by kernel_rfl) (by kernel_rfl) (wnt_none rfl) (lt_move_pv rfl) ?_
   refine vd_light 1 rfl rfl rfl (by kernel_rfl) (by kernel_rfl) (by kernel_rfl) (wnt_none rfl) (lt_move_pv rfl) ?_
   refine vd_light 2 rfl rfl rfl (by kernel_rfl) (by kernel_rfl) (by kernel_rfl) (wnt_none rfl) (lt_index_pv (.int .i64 0) rfl rfl E49.und inf3 sz3 sd sd) ?_
   simp only [Int.toNat_natCast, Int.toNat_zero, getD_ints, getD_intss, getD_bools, getD_bytes, PV.cells]
   refine vd_light 3 rfl rfl rfl (by kernel_rfl) (by kernel_rfl) (by kernel_rfl) (wnt_none rfl) (lt_load_adr rfl Try.underlying3 rfl) ?_
   refine vd_light 4 rfl rfl rfl (by kernel_rfl) (by kernel_rfl) (by kernel_rfl) (wnt_none rfl) (lt_move_pv rfl) ?_
   refine vd_light 5 rfl rfl rfl (by kernel_rfl) (by kernel_rfl) (by kernel_rfl) (wnt_none rfl) (lt_move_pv rfl) ?_
   refine vd_light 6 rfl rfl rfl (by kernel_rfl) (by kernel_rfl) (by kernel_rfl) (wnt_none rfl) (lt_index_pv (.int .i64 0) rfl rfl E49.und inf3 sz3 sd sd) ?_
   simp only [Int.toNat_natCast, Int.toNat_zero, getD_ints, getD_intss, getD_bools, getD_bytes, PV.cells]
   refine vd_light 7 rfl rfl rfl (by kernel_rfl) (by kernel_rfl) (by kernel_rfl) (wnt_none rfl) (lt_load_adr rfl Try.underlying3 rfl) ?_
   refine vd_light 8 rfl rfl rfl (by kernel_rfl) (by kernel_rfl) (by kernel_rfl) (wnt_none rfl) (lt_binI rfl rfl rfl trivial) ?_
   refine vd_nil (by kernel_rfl) ?_
   refine hK10 _ ?_
   refine vc_cond rfl (fun hc3 => ?_) (fun hc3 => ?_)
   ·try simp only [zq0, zq1, zq2, zq3, zq4, zq5, zq6, zq7, zq8, zq9, zqa, zqb, zqc, zqd, zqe, zqf] at hc3
    refine vc_seq fun K11 hK11 => ?_
    refine vc_region ?_
    refine vo_assign_pv rfl rfl ?_
    refine vo_nil ?_
    refine hK11 _ ?_
    refine vc_ret ?_
    change retPv _ _ _ _ _
    refine retPv_mk rfl rfl rfl ⟨?_, rfl⟩
    refine (congrArg (fun b => [bo b]) (?_ : _ = _) : [bo _] = [bo _])
    exact bF fun h => hc3 ((take_eq_succ (by omega) (by omega) 0).1 (take_eq_of h (k+1))).2
   ·try simp only [zq0, zq1, zq2, zq3, zq4, zq5, zq6, zq7, zq8, zq9, zqa, zqb, zqc, zqd, zqe, zqf] at hc3
    refine vc_skip ?_
    refine hK9 _ ?_
    refine vc_region ?_
    refine vo_move_pv rfl rfl ?_
    refine vo_binI rfl rfl rfl rfl sd ?_
    refine vo_assign_pv rfl rfl ?_
    refine vo_nil ?_
    change againF _ _ _ _ _ _ _ _ _
    refine againF_mk rfl rfl rfl rfl rfl rfl ⟨_, ?_, k + 1, rfl, ?_, ?_, rfl⟩
    ·omega
    ·omega
    ·exact (take_eq_succ (by omega) (by omega) 0).2 ⟨hf, hc3⟩
  ·try simp only [zq0, zq1, zq2, zq3, zq4, zq5, zq6, zq7, zq8, zq9, zqa, zqb, zqc, zqd, zqe, zqf] at hc2
   refine vc_exit ?_
   refine hK5 _ ?_
   refine vc_seq fun K12 hK12 => ?_
   refine vc_region ?_
   refine vo_assign_pv rfl rfl ?_
   refine vo_nil ?_
   refine hK12 _ ?_
   refine vc_ret ?_
   change retPv _ _ _ _ _
   refine retPv_mk rfl rfl rfl ⟨?_, rfl⟩
   refine (congrArg (fun b => [bo b]) (?_ : _ = _) : [bo _] = [bo _])
   rw [take_all (by omega), take_all (by omega)] at hf; exact bT hf

end Go.Vl

namespace Go.Vl
set_option linter.unusedVariables false
set_option linter.unusedSimpArgs false
open Go.Proofs

theorem ordT_app {b d : List (List Int)} : ∀ n, n ≤ b.length → ordT (b ++ d) n = ordT b n
  | 0, _ => rfl
  | n + 1, h => by rw [ordT, ordT, ordT_app n (by omega), getD_app (by omega)]
theorem ordM_app {b d : List (List Int)} {c : Nat} (h : c < b.length) : ordM (b ++ d) c = ordM b c := by
  unfold ordM; rw [ordT_app c (by omega), getD_app h]
theorem ordM_zero {b : List (List Int)} (hv : VB b) : ordM b 0 ≠ [] := by
  have h0 := hv.2.2.1
  have : ordM b 0 = ordS [] [] 0 := by unfold ordM; rw [h0]; rfl
  rw [this]
  simp [ordS, ordL, mergeM, mergeF, hds, hd1, tot]
theorem lens3 {B : List (List Int)} (h : ∀ l ∈ B, l.length ≤ 3) (n : Nat) : (B.getD n []).length ≤ 3 := by
  by_cases hn : n < B.length
  · exact h _ (getD_mem hn [])
  · simp [List.getD, List.getElem?_eq_none (by omega : B.length ≤ n)]
theorem acR_lens3 {b : List (List Int)} {l : List Int} (h : ∀ x ∈ b, x.length ≤ 3) (h2 : l.length ≤ 3) : ∀ x ∈ acR b l, x.length ≤ 3 := fun x hx => Nat.lt_succ_iff.1 (acR_lens (n := 4) (fun l hl => Nat.lt_succ_iff.2 (h l hl)) (by omega) x hx)

end Go.Vl

namespace Go.Vl
set_option linter.unusedVariables false
set_option linter.unusedSimpArgs false
open Go.Proofs

/-- A class with one base has an order, if that base has one. -/
theorem bhd_headG (x : Int) (t : List Int) : ¬ bhd x (x :: t) := by unfold bhd fM; rw [if_pos rfl]; omega
theorem bhd_nilG (x : Int) : ¬ bhd x [] := by unfold bhd fM; omega
theorem fh_twoG {x : Int} {t p : List Int} (h : ¬ bhd x p) : fhM [x :: t, p] = some x := by
  unfold fhM fhF
  rw [freeH_t (by simp) (by
    rintro ⟨l, hl, hb⟩
    rcases List.mem_cons.1 hl with rfl | hl
    · exact bhd_headG x t hb
    · rw [List.mem_singleton.1 hl] at hb; exact h hb)]
  rfl
theorem merge_oneG : ∀ (t : List Int) (n : Nat), t.length ≤ n → mergeF n [t, []] = (t, [[], []])
  | [], n, _ => by
    refine mergeF_none ?_
    unfold fhM fhF freeH
    simp [fhF, freeH]
  | x :: t, n, hn => by
    simp only [List.length_cons] at hn
    rw [mergeF_some (fh_twoG (bhd_nilG x)) (by simp [tot]; omega)]
    have e : [x :: t, ([] : List Int)].map (tk x) = [t, []] := by simp [tk]
    rw [e, merge_oneG t (n-1) (by omega)]
theorem merge_twoG (d : Int) (t : List Int) : mergeM [d :: t, [d]] = (d :: t, [[], []]) := by
  unfold mergeM
  have hb : ¬ bhd d [d] := bhd_headG d []
  rw [mergeF_some (fh_twoG hb) (Nat.le_refl _)]
  have e : [d :: t, [d]].map (tk d) = [t, []] := by simp [tk]
  rw [e, merge_oneG t _ (by simp [tot])]
theorem ordM_head {b : List (List Int)} {c : Nat} (h : ordM b c ≠ []) : ∃ t, ordM b c = (c : Int) :: t := by
  unfold ordM ordS at h ⊢
  split at h
  · exact absurd rfl h
  · rename_i h1
    rw [if_neg h1]
    first
      | exact ⟨_, rfl⟩
      | (split at h
         · exact absurd rfl h
         · rename_i h2
           rw [if_neg h2]
           exact ⟨_, rfl⟩)
      | (split at h
         · rename_i h2
           rw [if_pos h2]
           exact ⟨_, rfl⟩
         · exact absurd rfl h)
theorem ordM_oneB {b : List (List Int)} {c : Nat} {d : Int} (hb : b.getD c [] = [d]) (h0 : 0 ≤ d) (hd : d < c) (h : ordM b d.toNat ≠ []) : ordM b c ≠ [] := by
  obtain ⟨t, ht⟩ := ordM_head h
  rw [Int.toNat_of_nonneg h0] at ht
  have e4 : (ordT b c).getD d.toNat [] = d :: t := by rw [ordT_get b c _ (by omega), ht]
  unfold ordM ordS
  rw [hb, if_neg (by
    rintro ⟨x, hx, h2⟩
    rw [List.mem_singleton.1 hx, e4] at h2
    cases h2)]
  have e5 : ordL (ordT b c) [d] ++ [[d]] = [d :: t, [d]] := by unfold ordL; rw [List.map_cons, e4]; rfl
  rw [e5, merge_twoG]
  have e6 : hds [([] : List Int), []] = [] := by first | rfl | simp [hds, hd1]
  rw [if_pos e6]
  simp
theorem VB_snoc {T : List (List Int)} {l : List Int} (hT : VB T) (hk : T.length < 12) (h : RB0 l T.length) : VB (T ++ [l]) := by
  rw [vb_iff] at hT ⊢
  refine ⟨⟨by rw [List.length_append]; omega, by rw [List.length_append, List.length_singleton]; omega⟩, fun i hi => ?_⟩
  rw [List.length_append, List.length_singleton] at hi
  rcases Nat.lt_or_ge i T.length with h1 | h1
  · rw [getD_app h1]; exact hT.2 i h1
  · have : i = T.length := by omega
    subst this
    rw [getD_end]; exact h
theorem allOK_snoc {T : List (List Int)} {l : List Int} (hT : allOK T) (h : acOK T l) : allOK (T ++ [l]) := by
  refine ⟨h.2.1, fun i hi => ?_⟩
  rw [List.length_append, List.length_singleton] at hi
  rcases Nat.lt_or_ge i T.length with h1 | h1
  · rw [ordM_app h1]; exact hT.2 i h1
  · have : i = T.length := by omega
    subst this; exact h.2.2
theorem acOK_one {T : List (List Int)} {d : Int} (hT : allOK T) (hk : T.length < 12) (h0 : 0 ≤ d) (hd : d < T.length) : acOK T [d] := by
  refine ⟨hT.1, VB_snoc hT.1 hk ?_, ordM_oneB (getD_end _) h0 hd ?_⟩
  · have h1 := hT.1.1
    unfold RB0
    exact ⟨by simp only [List.length_singleton]; omega, by simp, by simp, fun x hx => by rw [List.mem_singleton.1 hx]; omega⟩
  · rw [ordM_app (by omega)]; exact hT.2 _ (by omega)
theorem allOK_root : allOK [[]] := by
  have hv : VB [[]] := by rw [vb_iff]; exact ⟨by simp, fun i hi => by simp at hi; subst hi; unfold RB0; simp⟩
  exact ⟨hv, fun i hi => by simp at hi; subst hi; exact ordM_zero hv⟩
theorem take1 {l : List Int} (h : l ≠ []) : l.take 1 = [l.getD 0 0] := by
  cases l with
  | nil => exact absurd rfl h
  | cons a l => rfl

theorem goodBasesX_sat {nl : Option Bool} {c : List (Fin 256)} {p : Nat} {most : Int} (hc : c.length ≤ 2000) (hp : p < 999900) : SatAt Try.prog 130 [.ptr 0 0 0 0, i64 most] [rdr nl c p] (fun res rows => ∃ (B : List (List Int)) (q : Nat) (f : Bool) (nl5 : Option Bool), (1 ≤ B.length ∧ B.length ≤ 9 ∧ (∀ l ∈ B, l.length ≤ 3) ∧ q ≤ p + 90) ∧ res = [.pv f (.sl nl5 1 (B.map ints))] ∧ rows = [rdr nl c q]) := by
 refine sat_entry_g (ts := [4]) Try.func130 rfl rfl (by decide) (Nat.le_of_ble_eq_true rfl) fun C hC => ?_
 rw [Try.ntmps130]
 replace hC : C.nb = 1 := hC
 refine vc_seq fun K1 hK1 => ?_
 refine vc_region ?_
 refine vo_assign_pv rfl rfl ?_
 refine vo_nil ?_
 refine hK1 _ ?_
 refine vc_seq fun K2 hK2 => ?_
 refine vc_region ?_
 refine vo_buildSlice E49 rfl rfl rfl rfl rfl ?_
 refine vo_expose 1 (by omega) rfl ?_
 refine vo_weaken 10 rfl ?_
 refine vo_stN ?_
 refine vo_buildSlice E22 rfl rfl rfl rfl rfl ?_
 refine vo_assign_ref rfl rfl ?_
 refine vo_nil ?_
 refine hK2 _ ?_
 refine vc_seq fun K3 hK3 => ?_
 refine vc_region ?_
 refine vo_move_ptr rfl rfl ?_
 refine vo_move_pv rfl rfl ?_
 refine vo_call [0] Try.func137 rfl rfl rfl rfl rfl rfl rfl (someBases_sat hc (by omega)) ?_
 rintro _ _ ⟨B, q, ⟨hB, hB2, hB3, hB4⟩, rfl, rfl⟩
 refine ⟨Nat.le_of_ble_eq_true rfl, ⟨rfl, rfl, rfl, rfl⟩, .inl rfl, ?_⟩
 refine vo_stN ?_
 refine vo_assign_ref rfl rfl ?_
 refine vo_nil ?_
 refine hK3 _ ?_
 refine vc_seq fun K4 hK4 => ?_
 refine vc_seq fun K5 hK5 => ?_
 refine vc_region ?_
 refine vo_assign_pv rfl rfl ?_
 refine vo_nil ?_
 refine hK5 _ ?_
 refine vc_block ?_
 refine vc_expose 2 (by omega) rfl ?_
 refine vc_stN ?_
 refine vc_stN ?_
 refine vc_loop [5, 6, 7] (fun mz vs rows => ∃ (k : Nat) (T : List (List Int)) (f : Bool) (nl5 : Option Bool), mz = B.length + 1 - k ∧ (1 ≤ k ∧ T.length = k ∧ k ≤ B.length) ∧ (∀ l ∈ T, l.length ≤ 3) ∧ (allOK T) ∧ vs = [.pv f (.sl nl5 1 (T.map ints)), .ref 3, i64 k] ∧ rows = [rdr nl c q, .dead, .dead, Row.own 49 1 (some false) true (B.map ints)]) (B.length) (le_len hC rfl) ⟨rfl, rfl⟩ ⟨1, [[]], _, _, rfl, (by have := hB.1; simp; omega), (by simp), allOK_root, rfl, rfl⟩ ?_
 rintro mz vs rows - - ⟨k, T, f, nl5, rfl, hk, hT, hTa, rfl, rfl⟩
 have hB1 := hB.lens
 refine vc_seq fun K6 hK6 => ?_
 refine vc_seq fun K7 hK7 => ?_
 refine vc_region ?_
 refine vo_move_pv rfl rfl ?_
 refine vo_move_ref rfl rfl ?_
 refine vo_len_ref rfl rfl rfl Try.underlying22 ?_
 refine vo_binI rfl rfl rfl rfl trivial ?_
 refine vo_nil ?_
 refine hK7 _ ?_
 refine vc_cond rfl (fun hc1 => ?_) (fun hc1 => ?_)
 ·try simp only [zq0, zq1, zq2, zq3, zq4, zq5, zq6, zq7, zq8, zq9, zqa, zqb, zqc, zqd, zqe, zqf] at hc1
  have hB1 := hB.lens
  have hBp := List.length_pos_iff.2 (hB.2.2 k (by omega) (by omega)).1
  have hBm : (List.map intP (B.getD k [])).length = (B.getD k []).length := List.length_map ..
  have hBk := lens3 hB1 k
  have hBk1 : ((B.getD k []).take 1).length ≤ 3 := by rw [List.length_take]; omega
  have hBx := (hB.2.2 k (by omega) (by omega)).2.2.2 _ (getD_mem (show 0 < (B.getD k []).length by omega) 0)
  have hOne : acOK T ((B.getD k []).take 1) := by rw [take1 (hB.2.2 k (by omega) (by omega)).1]; exact acOK_one hTa (by omega) (by omega) (by omega)
  refine vc_skip ?_
  refine hK6 _ ?_
  refine vc_seq fun K8 hK8 => ?_
  refine vc_block ?_
  refine vc_seq fun K9 hK9 => ?_
  refine vc_region ?_
  refine vo_move_pv rfl rfl ?_
  refine vo_move_ref rfl rfl ?_
  refine vo_move_pv rfl rfl ?_
  refine vo_index_ref rfl rfl rfl rfl E22.und inf49 sz49 sd sd ?_
  try simp only [Int.toNat_natCast]
  refine vo_load_own rfl rfl rfl Try.underlying49 rfl sd (getD_intss _ _) rfl ?_
  try simp only [Int.toNat_natCast]
  refine vo_call [] Try.func138 rfl rfl rfl rfl rfl rfl rfl (specAddClass_sat (bases := T) (list := B.getD k []) (by omega) (lt3 hT) (by omega)) ?_
  rintro _ _ ⟨nlg1, rfl, rfl⟩
  refine ⟨Nat.le_of_ble_eq_true rfl, ⟨rfl, rfl, rfl, rfl⟩, .inl rfl, ?_⟩
  refine vo_stN ?_
  refine vo_move rfl ?_
  refine vo_extract rfl rfl rfl ?_
  refine vo_extract rfl rfl rfl ?_
  refine vo_assign_ref rfl rfl ?_
  refine vo_treeown 4 (by omega) rfl ?_
  refine vo_stN ?_
  refine vo_expose 4 (by omega) rfl ?_
  refine vo_stN ?_
  refine vo_assign_pv rfl rfl ?_
  refine vo_nil ?_
  refine hK9 _ ?_
  refine vc_seq fun K10 hK10 => ?_
  refine vc_seq fun K11 hK11 => ?_
  refine vc_region ?_
  refine vo_move_pv rfl rfl ?_
  refine vo_not rfl rfl ?_
  refine vo_nil ?_
  refine hK11 _ ?_
  refine vc_cond rfl (fun hc2 => ?_) (fun hc2 => ?_)
  ·try simp only [zq0, zq1, zq2, zq3, zq4, zq5, zq6, zq7, zq8, zq9, zqa, zqb, zqc, zqd, zqe, zqf] at hc2
   refine vc_region ?_
   refine vo_move_pv rfl rfl ?_
   refine vo_move_ref rfl rfl ?_
   refine vo_move_pv rfl rfl ?_
   refine vo_index_ref rfl rfl rfl rfl E22.und inf49 sz49 sd sd ?_
   try simp only [Int.toNat_natCast]
   refine vo_load_own rfl rfl rfl Try.underlying49 rfl sd (getD_intss _ _) rfl ?_
   try simp only [Int.toNat_natCast]
   refine vo_slice_pv rfl rfl rfl rfl E49.und inf3 sz3 sd sd sd ?_
   simp only [Int.toNat_natCast, Int.toNat_zero, List.drop_zero, Nat.sub_zero, ← List.map_drop, ← List.map_take]
   refine vo_call [] Try.func138 rfl rfl rfl rfl rfl rfl rfl (specAddClass_sat (bases := T) (list := (B.getD k []).take 1) (by omega) (lt3 hT) (by omega)) ?_
   rintro _ _ ⟨nlg2, rfl, rfl⟩
   refine ⟨Nat.le_of_ble_eq_true rfl, ⟨rfl, rfl, rfl, rfl⟩, .inl rfl, ?_⟩
   refine vo_stN ?_
   refine vo_move rfl ?_
   refine vo_extract rfl rfl rfl ?_
   refine vo_extract rfl rfl rfl ?_
   refine vo_assign_ref rfl rfl ?_
   refine vo_treeown 5 (by omega) rfl ?_
   refine vo_stN ?_
   refine vo_expose 5 (by omega) rfl ?_
   refine vo_stN ?_
   refine vo_nil ?_
   refine hK10 _ ?_
   refine vc_region ?_
   refine vo_move_pv rfl rfl ?_
   refine vo_assign_pv rfl rfl ?_
   refine vo_nil ?_
   refine hK8 _ ?_
   refine vc_region ?_
   refine vo_move_pv rfl rfl ?_
   refine vo_binI rfl rfl rfl rfl sd ?_
   refine vo_assign_pv rfl rfl ?_
   refine vo_nil ?_
   change again _ _ _ _ _ _
   refine again_mk rfl rfl rfl rfl ⟨_, ?_, k + 1, _, _, _, rfl, ?_, ?_, ?_, rfl, rfl⟩
   ·omega
   ·rw [acR_yes hOne, List.length_append, List.length_singleton]; omega
   ·exact acR_lens3 hT hBk1
   ·rw [acR_yes hOne]; exact allOK_snoc hTa hOne
  ·try simp only [zq0, zq1, zq2, zq3, zq4, zq5, zq6, zq7, zq8, zq9, zqa, zqb, zqc, zqd, zqe, zqf] at hc2
   refine vc_skip ?_
   refine hK10 _ ?_
   refine vc_region ?_
   refine vo_move_pv rfl rfl ?_
   refine vo_assign_pv rfl rfl ?_
   refine vo_nil ?_
   refine hK8 _ ?_
   refine vc_region ?_
   refine vo_move_pv rfl rfl ?_
   refine vo_binI rfl rfl rfl rfl sd ?_
   refine vo_assign_pv rfl rfl ?_
   refine vo_nil ?_
   change again _ _ _ _ _ _
   refine again_mk rfl rfl rfl rfl ⟨_, ?_, k + 1, _, _, _, rfl, ?_, ?_, ?_, rfl, rfl⟩
   ·omega
   ·have ha : acOK T (B.getD k []) := by first | assumption | (simp_all; done)
    rw [acR_yes ha, List.length_append, List.length_singleton]; omega
   ·exact acR_lens3 hT hBk
   ·have ha : acOK T (B.getD k []) := by first | assumption | (simp_all; done)
    rw [acR_yes ha]; exact allOK_snoc hTa ha
 ·try simp only [zq0, zq1, zq2, zq3, zq4, zq5, zq6, zq7, zq8, zq9, zqa, zqb, zqc, zqd, zqe, zqf] at hc1
  refine vc_exit ?_
  refine hK4 _ ?_
  refine vc_seq fun K12 hK12 => ?_
  refine vc_region ?_
  refine vo_move_pv rfl rfl ?_
  refine vo_assign_pv rfl rfl ?_
  refine vo_nil ?_
  refine hK12 _ ?_
  refine vc_ret ?_
  change retG _ _ _ _ _
  refine retG_sel [] [] hC rfl rfl rfl rfl rfl rfl ?_
  exact ⟨T, q, _, _, ⟨by omega, by omega, hT, by omega⟩, rfl, rfl⟩

end Go.Vl

namespace Go.Vl
set_option linter.unusedVariables false
set_option linter.unusedSimpArgs false
open Go.Proofs

end Go.Vl

/- A cell of a variable that holds a nil slice holds a row of the call's own that is empty. -/
namespace Go.Vl
set_option linter.unusedVariables false
set_option linter.unusedSimpArgs false
open Go.RowKit
section
variable {P : Program} {C : Ctx} {Q : Go.Exit → St → Prop} {s : St} {ops : Array Oper}

theorem SimM.ownCell {m : Nat → MV} {a : Act} {w : World} (hs : SimM C s m a w) (id k : Nat) {el e e0 t' : Nat} {f : Bool} {cs : List SV}
    (hrow : s.rows[id]? = some (.var t' cs)) (hk : cs[k]? = some (.pv f (.sl (some true) e0 []))) :
    ∃ m', SimM C ⟨s.n, s.env, (s.rows ++ [Row.own el e none true []]).set id (.var t' (cs.set k (.ref s.rows.length)))⟩ m' a w := by
  have hadd := hs.addRow (w' := w) ⟨rfl, rfl, rfl, Nat.le_refl _, fun _ _ _ => rfl⟩ (.own el e none true []) (.of <| .slice none 0 0)
    (fun b hb => by simp [MV.of, blk] at hb) (fun hG => .own _ el e _ true [] [] (World.ownsRow_nil w 0 el e) (fun h => by cases h) (fun h => by cases h) (fun i x hx => by simp at hx) (fun i x j c hx => by simp at hx))
  have hid : id < s.rows.length := (List.getElem?_eq_some_iff.1 hrow).1
  have hrow' : (s.rows ++ [Row.own el e none true []])[id]? = some (.var t' cs) := by rw [List.getElem?_append_left hid]; exact hrow
  have h1 := hadd.1
  refine ⟨_, h1.storeRow (w' := w) (id := id) ⟨_, hrow', rfl⟩ (bo := none) (fun _ e => by cases e) ⟨rfl, rfl, rfl, Nat.le_refl _, fun _ _ _ => rfl⟩ _ (fun hG => ?_)⟩
  have hR := h1.rows id _ hrow'
  have hme : updM m s.rows.length (.of (.slice none 0 0)) s.rows.length = .of (.slice none 0 0) := updM_same ..
  generalize updM m s.rows.length (.of (.slice none 0 0)) = m2 at *
  generalize hmv : m2 id = v at *
  cases hR with
  | var b t cs cur hb hl hr ho =>
    refine .var b _ _ cur hb (by simpa using hl) (fun j c u hc hu => ?_) ho
    rw [List.getElem?_set] at hc
    split at hc
    · rename_i hkj
      subst hkj
      split at hc
      · cases hc
        have hold := (hr k _ u hk hu).pv_inv
        have : u = .slice none 0 0 := by
          cases hold with
          | nilsl => rfl
          | sl nl e xs a len cap f h => exact (h rfl).elim
        subst this
        have := RS.ref (w := w) (G := Gd C ((s.rows ++ [Row.own el e none true []]).set id (.var t' (cs.set k (.ref s.rows.length)))) m2 w) (m := m2) (N := (s.rows ++ [Row.own el e none true []]).length) s.rows.length (by simp)
        rw [hme] at this
        exact this
      · cases hc
    · exact (hr j c u hc hu).mono (fun fr b h => hG fr b h) (by simp) (fun _ _ => rfl)

theorem vc_own_cell {code : Code} (id k : Nat) {T el e by' e0 t' : Nat} {d : PV} {f : Bool} {cs : List SV} (_hI : ElInfo P T el e by' d)
    (hrow : s.rows[id]? = some (.var t' cs)) (hk : cs[k]? = some (.pv f (.sl (some true) e0 [])))
    (next : VC P C code Q ⟨s.n, s.env, (s.rows ++ [Row.own el e none true []]).set id (.var t' (cs.set k (.ref s.rows.length)))⟩) : VC P C code Q s := by
  intro a w ⟨m, hs⟩
  obtain ⟨m', h⟩ := hs.ownCell id k hrow hk
  exact next a w ⟨m', h⟩
end
end Go.Vl

/- Every order, one by one: for statements where an operation that writes may come before a reading one. -/
namespace Go.Vl
set_option linter.unusedVariables false
set_option linter.unusedSimpArgs false
open Go.RowKit
section
variable {late : List Nat} {P : Program} {C : Ctx} {ops : Array Oper} {K : St → Prop} {s s1 : St} {n : Nat} {listed : Array Bool}
end
section
variable {P : Program} {C : Ctx} {s : St} {t : Nat} {ty : TypeId} {pos : String} {af : Array Edge}
theorem l0_index_ref {x i : Operand} {f2 : Bool} {id R e : Nat} {nl : Option Bool} {xs : List PV} {T el : TypeId} {k : IntKind} {n : Int} {inf : TypeInfo} 
 (hx : getO s.env x = .ref id) (hrow : (s.rows[id]?).bind Row.sl = some (R, e, nl, xs)) (hi : getO s.env i = .pv f2 (.int k n)) (hT : P.underlying T = some (.slice el)) (hinf : P.info? el = some inf) (hsz : inf.size = e)
 (h0 : 0 ≤ n) (hn : n < xs.length) : Lt0 P C s ⟨some t, .indexAddr T x i, ty, pos, af, none⟩ ((.ptr id e n.toNat 0)) := by
  intro m a w hs
  have e2 := hs.int hi
  obtain ⟨hv, hid⟩ := hs.row hx
  obtain ⟨j, rfl⟩ := Int.eq_ofNat_of_zero_le h0
  have hj : j < xs.length := by omega
  obtain ⟨⟨vals, hown⟩, _, _, _⟩ := hs.sl hrow
  · rcases hown.2 with ⟨e0, hn0⟩ | ⟨g, cap, cur, e0, _, hh, hle, hmx, hsz', htk⟩
    · omega
    · rw [e0] at hv
      refine ⟨.pointer (some ⟨g, j * e, none⟩), fun _ => ?_, ?_⟩
      · have hadd : (⟨g, 0, none⟩ : Addr).add (j * e) = ⟨g, j * e, none⟩ := by
          unfold Addr.add
          split
          · rename_i h0; simp [h0]
          · simp
        simp [execOp, Instr.indexAt, hv, e2, asIntOf, run_underlying hT, sizeOf, typeInfo, hinf, hsz, hj, hadd]
      · simp only [Int.toNat_natCast]
        exact .ptr id e j 0 g hid (by rw [e0]; rfl)
end
end Go.Vl

/- Statements whose order of evaluation is open, with calls that write rows lent to the function: what reads others reads the same behind them. -/
namespace Go.Vl
set_option linter.unusedVariables false
set_option linter.unusedSimpArgs false
open Go.RowKit

/-- All that was there is there as it was, but for some blocks. -/
def ExtB (B : Nat → Prop) (w w' : World) : Prop := w.heap.size ≤ w'.heap.size ∧ ∀ k, k < w.heap.size → ¬ B k → w'.heap[k]? = w.heap[k]?
theorem ExtB.refl (B : Nat → Prop) (w : World) : ExtB B w w := ⟨Nat.le_refl _, fun _ _ _ => rfl⟩
theorem ExtB.trans {B : Nat → Prop} {a b c : World} (h : ExtB B a b) (k : ExtB B b c) : ExtB B a c := ⟨Nat.le_trans h.1 k.1, fun i hi hb => (k.2 i (Nat.lt_of_lt_of_le hi h.1) hb).trans (h.2 i hi hb)⟩
theorem ExtW.toB {B : Nat → Prop} {w w' : World} (h : ExtW w w') : ExtB B w w' := ⟨h.1, fun k hk _ => h.2 k hk⟩
theorem ExtB.cell {B : Nat → Prop} {w w' : World} (h : ExtB B w w') {a : Addr} {v : Value} (hb : ¬ B a.block) (hc : w.cell? a = some v) : w'.cell? a = some v := by
  have hlt : a.block < w.heap.size := by
    rcases Nat.lt_or_ge a.block w.heap.size with h | h
    · exact h
    · unfold World.cell? at hc
      rw [Array.getElem?_eq_none h] at hc
      cases hc
  rw [← hc]
  simp [World.cell?, h.2 _ hlt hb]
/-- The blocks of what was lent to the function. -/
def lentB (C : Ctx) (b : Nat) : Prop := ∃ id, id < C.nb ∧ (C.bv id).S b

section
variable {B : Nat → Prop} {P : Program} {ops : Array Oper} {Q : Go.Exit → Act → World → Prop}
def yieldsB (B : Nat → Prop) (P : Program) (ops : Array Oper) (o : Oper) (v : Value) (a : Act) (w : World) : Prop :=
  (Region.wanted o (yielded ops a.tmps) = true ∧ ∀ w', ExtB B w w' → (execOp a.eval o).run P w' = .ok (.value v) w') ∨ (Region.wanted o (yielded ops a.tmps) = false ∧ v = undef)

theorem yieldsB.step {o : Oper} {v : Value} {a a' : Act} {w w' : World} (h : yieldsB B P ops o v a w) (hx : ExtB B w w') (he : execOp a'.eval o = execOp a.eval o)
    (hw : Region.wanted o (yielded ops a'.tmps) = Region.wanted o (yielded ops a.tmps)) : yieldsB B P ops o v a' w' := by
  unfold yieldsB at *
  rw [he, hw]
  exact h.imp (fun h => ⟨h.1, fun w2 h2 => h.2 w2 (hx.trans h2)⟩) id

theorem yieldsB.op {i : Nat} {o : Oper} {v : Value} {a : Act} {w : World} (hi : ops[i]? = some o) (hy : yieldsB B P ops o v a w) {K : Act → World → Prop} (h : K (a.put o.dst v) w) : wpOp P ops Q i K a w := by
  unfold wpOp
  simp only [hi]
  rcases hy with ⟨hw, hv⟩ | ⟨hw, rfl⟩
  · simp only [hw, if_true, Oper.wp, hv w (ExtB.refl B w), Oper.upon]; exact .inl h
  · simp only [hw, Bool.false_eq_true, if_false]; exact h

/-- Another operation first: what only reads yields the same behind it. -/
theorem op_beforeB {j : Nat} {oi oj : Oper} {v : Value} (hj : ops[j]? = some oj) (hap : oi.apart ops oj = true) (hsi : ∀ cs b, oi.op ≠ .select cs b) (hsj : ∀ cs b, oj.op ≠ .select cs b)
    (hQ : ∀ c a w, ¬ Q (.panic c) a w) {K : Act → World → Prop} {a : Act} {w : World} (hK : ∀ a' w', K a' w' → ExtB B w w') (hy : yieldsB B P ops oi v a w) (h : wpOp P ops Q j K (a.put oi.dst v) w) :
    wpOp P ops Q j (fun a' w' => yieldsB B P ops oi v a' w' ∧ K (a'.put oi.dst v) w') a w := by
  obtain ⟨h1, h2, h3⟩ := Oper.apart_spec hap
  have keep : ∀ (u : Value) (w' : World), ExtB B w w' → yieldsB B P ops oi v (a.put oj.dst u) w' := fun u w' hx => hy.step hx (execOp_put oi hsi a oj.dst u h3) (wanted_put oi a oj.dst u h3)
  have fin : ∀ (u : Value) (w' : World), K ((a.put oi.dst v).put oj.dst u) w' → yieldsB B P ops oi v (a.put oj.dst u) w' ∧ K ((a.put oj.dst u).put oi.dst v) w' := by
    intro u w' hk
    exact ⟨keep u w' (hK _ _ hk), by rw [← Act.put_comm a v u h2]; exact hk⟩
  unfold wpOp at *
  simp only [hj] at *
  rw [wanted_put oj a oi.dst v h1] at h
  by_cases hw : Region.wanted oj (yielded ops a.tmps) = true
  · rw [if_pos hw] at h ⊢
    rcases h with h | ⟨hasks, hlets⟩
    · left
      unfold Oper.wp at *
      rw [execOp_put oj hsj a oi.dst v h1] at h
      generalize (execOp a.eval oj).run P w = r at *
      cases r with
      | ok n w' =>
        cases n with
        | value u => exact fin u w' h
        | skip => exact fin undef w' h
        | defer d =>
          simp only [Oper.upon] at h ⊢
          have hx := hK _ _ h
          refine ⟨?_, by rw [← Act.put_comm _ v undef h2, ← Act.put_defers]; exact h⟩
          have hy1 : yieldsB B P ops oi v { a with defers := d :: a.defers } w := hy.step (ExtB.refl B w) rfl rfl
          exact hy1.step hx (execOp_put oi hsi _ oj.dst undef h3) (wanted_put oi _ oj.dst undef h3)
        | enter f args =>
          simp only [Oper.upon] at h ⊢
          refine h.mono fun e w'' he => ?_
          cases e with
          | returned u => exact fin u w'' he
          | panicked c => exact (hQ _ _ _ he).elim
          | outgrown => exact he
        | row row args => exact Rows.mono h fun u w'' he => fin u w'' he
        | _ => exact h
      | halt x w' =>
        cases x <;> simp only [Oper.upon] at h ⊢
        exact (hQ _ _ _ h).elim
    · right
      refine ⟨?_, hlets⟩
      unfold Oper.asks at *
      rw [execOp_put oj hsj a oi.dst v h1] at hasks
      exact hasks
  · rw [if_neg hw] at h ⊢
    exact fin undef w h

/-- Whatever order is picked; each step leaves all that was there as it was, or is one of those that come late. -/
def anyLB (B : Nat → Prop) (late : List Nat) (P : Program) (ops : Array Oper) (Q : Go.Exit → Act → World → Prop) : Nat → Array Bool → Act → World → Prop
  | 0, listed, a, w => Region.ready .any ops listed = [] ∧ Q .normal a w
  | n + 1, listed, a, w => (Region.ready .any ops listed = [] → Q .normal a w) ∧
      ∀ i ∈ Region.ready .any ops listed, wpOp P ops Q i (fun a' w' => (ExtB B w w' ∨ late.contains i = true) ∧ anyLB B late P ops Q n (listed.setIfInBounds i true) a' w') a w

theorem any_of_anyLB {late : List Nat} : ∀ (n : Nat) (listed : Array Bool) (a : Act) (w : World), anyLB B late P ops Q n listed a w → wpAny P .any ops Q n listed a w
  | 0, _, _, _, h => h
  | n + 1, _, _, _, h => ⟨h.1, fun i hi => wpOp_mono (fun a' w' h' => any_of_anyLB n _ a' w' h'.2) (h.2 i hi)⟩

theorem anyLB_first {late : List Nat} {M : Nat → Bool} {i : Nat} {oi : Oper} {v : Value} (hi : ops[i]? = some oi) (hsel : ∀ (j : Nat) (o : Oper) cs b, ops[j]? = some o → o.op ≠ .select cs b) (hQ : ∀ c a w, ¬ Q (.panic c) a w)
    (hcl : ∀ j oj, ops[j]? = some oj → j ≠ i → (∀ e ∈ oj.after, Region.binds .any e = true → M e.on = true) → M j = true ∧ late.contains j = false) :
    ∀ (n : Nat) (listed : Array Bool) (a : Act) (w : World),
      (∀ j oj, ops[j]? = some oj → j ≠ i → listed.getD j true = false → (∀ e ∈ oj.after, Region.binds .any e = true → e.on ≠ i) → oi.apart ops oj = true) →
      (∀ k, listed.getD k false = true → M k = true) →
      i ∈ Region.ready .any ops listed → yieldsB B P ops oi v a w → anyLB B late P ops Q n (listed.setIfInBounds i true) (a.put oi.dst v) w → anyLB B late P ops Q (n + 1) listed a w := by
  intro n
  induction n with
  | zero =>
    intro listed a w _ _ hr hy H
    refine ⟨fun h => (by rw [h] at hr; cases hr), fun j hj => ?_⟩
    by_cases hji : j = i
    · subst hji; exact hy.op hi ⟨.inl (ExtB.refl B w), H⟩
    · have := ready_mono hj hji
      rw [H.1] at this
      cases this
  | succ n ih =>
    intro listed a w hfree hsub hr hy H
    refine ⟨fun h => (by rw [h] at hr; cases hr), fun j hj => ?_⟩
    by_cases hji : j = i
    · subst hji; exact hy.op hi ⟨.inl (ExtB.refl B w), H⟩
    · have g1 := H.2 j (ready_mono hj hji)
      obtain ⟨hjun, oj, hoj, hall⟩ := mem_ready.1 hj
      have hnot : ∀ e ∈ oj.after, Region.binds .any e = true → e.on ≠ i := by
        intro e he hb heq
        have l1 := hall e he hb
        have l0 := (mem_ready.1 hr).1
        rw [heq] at l1
        rcases Nat.lt_or_ge i listed.size with h' | h'
        · simp [h'] at l0 l1
          rw [l0] at l1
          cases l1
        · simp [Array.getElem?_eq_none h'] at l1
      obtain ⟨hMj, hlj⟩ := hcl j oj hoj hji (fun e he hb => hsub _ (hall e he hb))
      have hext : ∀ (w' : World), (ExtB B w w' ∨ late.contains j = true) → ExtB B w w' := by
        intro w' h
        rcases h with h | h
        · exact h
        · rw [hlj] at h; cases h
      have g2 := op_beforeB hoj (hfree j oj hoj hji hjun hnot) (fun cs b => hsel i oi cs b hi) (fun cs b => hsel j oj cs b hoj) hQ (fun _ w' h => hext w' h.1) hy g1
      have hfree' : ∀ k ok, ops[k]? = some ok → k ≠ i → (listed.setIfInBounds j true).getD k true = false → (∀ e ∈ ok.after, Region.binds .any e = true → e.on ≠ i) → oi.apart ops ok = true := by
        intro k ok hk hki hun hno
        refine hfree k ok hk hki ?_ hno
        by_cases hjk : j = k
        · subst hjk; exact hjun
        · rw [getD_set_ne true hjk] at hun; exact hun
      have hsub' : ∀ k, (listed.setIfInBounds j true).getD k false = true → M k = true := by
        intro k hk
        by_cases hjk : j = k
        · subst hjk; exact hMj
        · rw [getD_set_ne false hjk] at hk; exact hsub k hk
      refine wpOp_mono (fun a' w' g3 => ⟨g3.2.1, ih (listed.setIfInBounds j true) a' w' hfree' hsub' (ready_mono hr (Ne.symm hji)) g3.1 ?_⟩) g2
      rw [Array.setIfInBounds_comm _ _ hji]
      exact g3.2.2

theorem anyLB_first0 {late : List Nat} {i : Nat} {oi : Oper} {v : Value} (hi : ops[i]? = some oi) (hsel : ∀ (j : Nat) (o : Oper) cs b, ops[j]? = some o → o.op ≠ .select cs b) (hQ : ∀ c a w, ¬ Q (.panic c) a w) :
    ∀ (n : Nat) (listed : Array Bool) (a : Act) (w : World),
      (∀ j oj, ops[j]? = some oj → j ≠ i → listed.getD j true = false → (∀ e ∈ oj.after, Region.binds .any e = true → e.on ≠ i) → oi.apart ops oj = true) →
      i ∈ Region.ready .any ops listed → yields0 P ops oi v a → anyLB B late P ops Q n (listed.setIfInBounds i true) (a.put oi.dst v) w → anyLB B late P ops Q (n + 1) listed a w := by
  intro n
  induction n with
  | zero =>
    intro listed a w _ hr hy H
    refine ⟨fun h => (by rw [h] at hr; cases hr), fun j hj => ?_⟩
    by_cases hji : j = i
    · subst hji; exact hy.op hi ⟨.inl (ExtB.refl B w), H⟩
    · have := ready_mono hj hji
      rw [H.1] at this
      cases this
  | succ n ih =>
    intro listed a w hfree hr hy H
    refine ⟨fun h => (by rw [h] at hr; cases hr), fun j hj => ?_⟩
    by_cases hji : j = i
    · subst hji; exact hy.op hi ⟨.inl (ExtB.refl B w), H⟩
    · have g1 := H.2 j (ready_mono hj hji)
      obtain ⟨hjun, oj, hoj, hall⟩ := mem_ready.1 hj
      have hnot : ∀ e ∈ oj.after, Region.binds .any e = true → e.on ≠ i := by
        intro e he hb heq
        have l1 := hall e he hb
        have l0 := (mem_ready.1 hr).1
        rw [heq] at l1
        rcases Nat.lt_or_ge i listed.size with h' | h'
        · simp [h'] at l0 l1
          rw [l0] at l1
          cases l1
        · simp [Array.getElem?_eq_none h'] at l1
      have g2 := op_before0 hoj (hfree j oj hoj hji hjun hnot) (fun cs b => hsel i oi cs b hi) (fun cs b => hsel j oj cs b hoj) hQ hy g1
      have hfree' : ∀ k ok, ops[k]? = some ok → k ≠ i → (listed.setIfInBounds j true).getD k true = false → (∀ e ∈ ok.after, Region.binds .any e = true → e.on ≠ i) → oi.apart ops ok = true := by
        intro k ok hk hki hun hno
        refine hfree k ok hk hki ?_ hno
        by_cases hjk : j = k
        · subst hjk; exact hjun
        · rw [getD_set_ne true hjk] at hun; exact hun
      refine wpOp_mono (fun a' w' g3 => ⟨g3.2.1, ih (listed.setIfInBounds j true) a' w' hfree' (ready_mono hr (Ne.symm hji)) g3.1 ?_⟩) g2
      rw [Array.setIfInBounds_comm _ _ hji]
      exact g3.2.2
end

def LtB (P : Program) (C : Ctx) (s : St) (o : Oper) (sv : SV) : Prop :=
  ∀ m a w, SimM C s m a w → ∃ v, (∀ w', ExtB (lentB C) w w' → (execOp a.eval o).run P w' = .ok (.value v) w') ∧ RS w (Gd C s.rows m w) m s.rows.length sv v
def VLB (late : List Nat) (P : Program) (C : Ctx) (ops : Array Oper) (n : Nat) (listed : Array Bool) (K : St → Prop) (s : St) : Prop := ∀ m a w, SimM C s m a w → anyLB (lentB C) late P ops (post0 C K) n listed a w

section
variable {late : List Nat} {P : Program} {C : Ctx} {ops : Array Oper} {K : St → Prop} {s : St} {n : Nat} {listed : Array Bool}

theorem vc_drawB (late : List Nat) {id : Nat} {Q : Go.Exit → St → Prop} (hd : Region.departs ops = false) (h : VLB late P C ops ops.size (Array.replicate ops.size false) (Q .normal) s) : VC P C (.region id ops true) Q s := by
  intro a w ⟨m, hs⟩
  refine wp_region_draw fun t => ?_
  simp only [Region.schedule, hd, Bool.not_false, Bool.or_true, if_true]
  refine wpOps_monoQ (Q := post0 C (Q .normal)) ?_ _ _ _ (wpAny_sound ops.size t _ a _ (any_of_anyLB _ _ _ _ (h m a _ (hs.grow (w' := { w with drawn := w.drawn + 1 }) (ExtW.refl w) rfl rfl rfl))))
  rintro e a' w' ⟨rfl, s', hs', hk⟩
  exact ⟨s', hs', hk⟩

theorem vb_light (i : Nat) (M : List Nat) {o : Oper} {t : Nat} {sv : SV} (hi : ops[i]? = some o) (hd : o.dst = some t) (ht : Nat.blt t s.n = true) (hr : (Region.ready .any ops listed).contains i = true) (hns : Region.noSelect ops = true)
    (hf : Region.free .any ops listed i = true) (hM : closedB ops late M i = true) (hsub : subB listed M = true) (hw : Wnt C ops s o true) (hl : LtB P C s { o with guard := none } sv) (next : VLB late P C ops n (listed.setIfInBounds i true) K (s.put t sv)) : VLB late P C ops (n + 1) listed K s := by
  intro m a w hs
  obtain ⟨v, hrun, hv⟩ := hl m a w hs
  refine anyLB_first (M := M.contains) hi (Region.noSelect_spec hns) post0_panic (fun j oj hj hne he => closed_spec hM j oj hj hne he) n listed a w (Region.free_spec hi hf) (sub_spec hsub) (by simpa using hr) (.inl ⟨hw m a w hs, hrun⟩) ?_
  rw [hd]
  exact next m _ _ (hs.put (blt_lt ht) hv)

theorem vb_light0 (i : Nat) {o : Oper} {t : Nat} {sv : SV} (hi : ops[i]? = some o) (hd : o.dst = some t) (ht : Nat.blt t s.n = true) (hr : (Region.ready .any ops listed).contains i = true) (hns : Region.noSelect ops = true)
    (hf : Region.free .any ops listed i = true) (hw : Wnt C ops s o true) (hl : Lt0 P C s { o with guard := none } sv) (next : VLB late P C ops n (listed.setIfInBounds i true) K (s.put t sv)) : VLB late P C ops (n + 1) listed K s := by
  intro m a w hs
  obtain ⟨v, hrun, hv⟩ := hl m a w hs
  refine anyLB_first0 hi (Region.noSelect_spec hns) post0_panic n listed a w (Region.free_spec hi hf) (by simpa using hr) (.inl ⟨hw m a w hs, hrun⟩) ?_
  rw [hd]
  exact next m _ _ (hs.put (blt_lt ht) hv)

theorem vb_nil (hr : Region.ready .any ops listed = []) (h : K s) : VLB late P C ops n listed K s := by
  intro m a w hs
  have hq : post0 C K .normal a w := ⟨rfl, s, ⟨m, hs⟩, h⟩
  cases n with
  | zero => exact ⟨hr, hq⟩
  | succ n => exact ⟨fun _ => hq, by rw [hr]; simp⟩

/-- An operation when nothing else can come. -/
theorem vb_one (i : Nat) {o : Oper} (hi : ops[i]? = some o) (hr : Region.ready .any ops listed = [i]) (hlate : late.contains i = true)
    (h : VO P C ops [o] (fun e s' => e = .normal ∧ VLB late P C ops n (listed.setIfInBounds i true) K s') s) : VLB late P C ops (n + 1) listed K s := by
  intro m a w hs
  refine ⟨fun h0 => (by rw [hr] at h0; cases h0), fun j hj => ?_⟩
  rw [hr] at hj
  simp at hj
  subst hj
  have h1 := h a w ⟨m, hs⟩
  have hfin : ∀ a' w', wpList P ops (post C (fun e s' => e = .normal ∧ VLB late P C ops n (listed.setIfInBounds j true) K s')) [] a' w' → (ExtB (lentB C) w w' ∨ late.contains j = true) ∧ anyLB (lentB C) late P ops (post0 C K) n (listed.setIfInBounds j true) a' w' := by
    rintro a' w' ⟨s', ⟨m', hs'⟩, _, h2⟩
    exact ⟨.inr hlate, h2 m' a' w' hs'⟩
  have hpost : ∀ e a' w', e ≠ .normal → post C (fun e s' => e = .normal ∧ VLB late P C ops n (listed.setIfInBounds j true) K s') e a' w' → post0 C K e a' w' := by
    rintro e a' w' hne ⟨s', _, h2, _⟩
    exact absurd h2 hne
  unfold wpOp
  simp only [hi]
  unfold wpList at h1
  by_cases hw : Region.wanted o (yielded ops a.tmps) = true
  · rw [if_pos hw] at h1 ⊢
    rcases h1 with h1 | ⟨h1, a2, w2, h2⟩
    · exact .inl (wp_mono2 hpost hfin h1)
    · exact .inr ⟨h1, a2, w2, hpost _ _ _ (by simp) h2⟩
  · rw [if_neg hw] at h1 ⊢
    exact hfin _ _ h1

theorem vb_st {s' : St} (h : s = s') (next : VLB late P C ops n listed K s') : VLB late P C ops n listed K s := by rw [h]; exact next
theorem vb_expose (id : Nat) {el e : Nat} {nl : Option Bool} {f : Bool} {xs : List PV} (hnb : C.nb ≤ id) (hrow : s.rows[id]? = some (.own el e nl f xs))
    (next : VLB late P C ops n listed K ⟨s.n, exposeE id (.pv f (.sl nl e xs)) s.env, (s.rows.map (Row.expose id (.pv f (.sl nl e xs)))).set id .dead⟩) : VLB late P C ops n listed K s :=
  fun m a w hs => next _ a w (hs.expose hnb hrow)
theorem vb_weaken (u : Nat) {e : Nat} {nl : Option Bool} {f : Bool} {xs : List PV} (hu : look s.env u = .pv f (.sl nl e xs))
    (next : VLB late P C ops n listed K ⟨s.n, (u, .pv f (.sl none e xs)) :: s.env, s.rows⟩) : VLB late P C ops n listed K s := by
  intro m a w hs
  refine next m a w { hs with env := fun q => ?_ }
  show RS _ _ _ _ (look ((u, .pv f (.sl none e xs)) :: s.env) q) _
  rw [look_cons]
  split
  · rename_i e
    subst e
    have hv := hs.env q
    rw [hu] at hv
    exact .pv _ _ _ hv.pv_inv.weaken
  · exact hs.env q
end
section
variable {late : List Nat} {P : Program} {C : Ctx} {ops : Array Oper} {K : St → Prop} {s s1 : St} {n : Nat} {listed : Array Bool}
def StepB (late : List Nat) (P : Program) (C : Ctx) (ops : Array Oper) (n : Nat) (listed : Array Bool) (K : St → Prop) (s : St) (i : Nat) : Prop :=
  ∀ m a w, SimM C s m a w → wpOp P ops (post0 C K) i (fun a' w' => (ExtB (lentB C) w w' ∨ late.contains i = true) ∧ anyLB (lentB C) late P ops (post0 C K) n (listed.setIfInBounds i true) a' w') a w
theorem vb_any2 (i j : Nat) (hr : Region.ready .any ops listed = [i, j]) (h1 : StepB late P C ops n listed K s i) (h2 : StepB late P C ops n listed K s j) : VLB late P C ops (n + 1) listed K s := by
  intro m a w hs
  refine ⟨fun h0 => (by rw [hr] at h0; cases h0), fun q hq => ?_⟩
  rw [hr] at hq
  simp at hq
  rcases hq with rfl | rfl
  · exact h1 m a w hs
  · exact h2 m a w hs
theorem vb_any3 (i j k : Nat) (hr : Region.ready .any ops listed = [i, j, k]) (h1 : StepB late P C ops n listed K s i) (h2 : StepB late P C ops n listed K s j) (h3 : StepB late P C ops n listed K s k) : VLB late P C ops (n + 1) listed K s := by
  intro m a w hs
  refine ⟨fun h0 => (by rw [hr] at h0; cases h0), fun q hq => ?_⟩
  rw [hr] at hq
  simp at hq
  rcases hq with rfl | rfl | rfl
  · exact h1 m a w hs
  · exact h2 m a w hs
  · exact h3 m a w hs
theorem sb_ext (i : Nat) {t : Nat} {op : Op} {ty : TypeId} {pos : String} {af : Array Edge} {sv : SV} (hi : ops[i]? = some ⟨some t, op, ty, pos, af, none⟩) (ht : Nat.blt t s1.n = true)
    (hx : Xt P C s ⟨some t, op, ty, pos, af, none⟩ s1 sv) (next : VLB late P C ops n (listed.setIfInBounds i true) K (s1.put t sv)) : StepB late P C ops n listed K s i := by
  intro m a w hs
  obtain ⟨v, w', m', h1, h2, h3, h4⟩ := hx m a w hs
  unfold wpOp
  simp only [hi]
  have hw : Region.wanted ⟨some t, op, ty, pos, af, none⟩ (yielded ops a.tmps) = true := by simp [Region.wanted]
  rw [if_pos hw]
  left
  unfold Oper.wp
  rw [h1, Oper.upon_value]
  exact ⟨.inl h4.toB, next m' _ _ (h2.put (blt_lt ht) h3)⟩
theorem sb_one (i : Nat) {o : Oper} (hi : ops[i]? = some o) (hlate : late.contains i = true)
    (h : VO P C ops [o] (fun e s' => e = .normal ∧ VLB late P C ops n (listed.setIfInBounds i true) K s') s) : StepB late P C ops n listed K s i := by
  intro m a w hs
  have h1 := h a w ⟨m, hs⟩
  have hfin : ∀ a' w', wpList P ops (post C (fun e s' => e = .normal ∧ VLB late P C ops n (listed.setIfInBounds i true) K s')) [] a' w' → (ExtB (lentB C) w w' ∨ late.contains i = true) ∧ anyLB (lentB C) late P ops (post0 C K) n (listed.setIfInBounds i true) a' w' := by
    rintro a' w' ⟨s', ⟨m', hs'⟩, _, h2⟩
    exact ⟨.inr hlate, h2 m' a' w' hs'⟩
  have hpost : ∀ e a' w', e ≠ .normal → post C (fun e s' => e = .normal ∧ VLB late P C ops n (listed.setIfInBounds i true) K s') e a' w' → post0 C K e a' w' := by
    rintro e a' w' hne ⟨s', _, h2, _⟩
    exact absurd h2 hne
  unfold wpOp
  simp only [hi]
  unfold wpList at h1
  by_cases hw : Region.wanted o (yielded ops a.tmps) = true
  · rw [if_pos hw] at h1 ⊢
    rcases h1 with h1 | ⟨h1, a2, w2, h2⟩
    · exact .inl (wp_mono2 hpost hfin h1)
    · exact .inr ⟨h1, a2, w2, hpost _ _ _ (by simp) h2⟩
  · rw [if_neg hw] at h1 ⊢
    exact hfin _ _ h1
theorem vb_ext (i : Nat) {t : Nat} {op : Op} {ty : TypeId} {pos : String} {af : Array Edge} {sv : SV} (hi : ops[i]? = some ⟨some t, op, ty, pos, af, none⟩) (hr : Region.ready .any ops listed = [i]) (ht : Nat.blt t s1.n = true)
    (hx : Xt P C s ⟨some t, op, ty, pos, af, none⟩ s1 sv) (next : VLB late P C ops n (listed.setIfInBounds i true) K (s1.put t sv)) : VLB late P C ops (n + 1) listed K s := by
  intro m a w hs
  refine ⟨fun h0 => (by rw [hr] at h0; cases h0), fun j hj => ?_⟩
  rw [hr] at hj
  simp at hj
  subst hj
  obtain ⟨v, w', m', h1, h2, h3, h4⟩ := hx m a w hs
  unfold wpOp
  simp only [hi]
  have hw : Region.wanted ⟨some t, op, ty, pos, af, none⟩ (yielded ops a.tmps) = true := by simp [Region.wanted]
  rw [if_pos hw]
  left
  unfold Oper.wp
  rw [h1, Oper.upon_value]
  exact ⟨.inl h4.toB, next m' _ _ (h2.put (blt_lt ht) h3)⟩
end
theorem vc_drawBD (late pt pg : List Nat) {P : Program} {C : Ctx} {ops : Array Oper} {s : St} {id : Nat} {Q : Go.Exit → St → Prop} (h1 : pt.all (fun i => Nat.blt i ops.size) = true) (h2 : orderB .text ops [] pt = true) (h3 : pg.all (fun i => Nat.blt i ops.size) = true) (h4 : orderB .gc ops [] pg = true)
    (h : VLB late P C ops ops.size (Array.replicate ops.size false) (Q .normal) s) : VC P C (.region id ops true) Q s := by
  intro a w ⟨m, hs⟩
  refine wp_region_draw fun t => ?_
  have hany := any_of_anyLB _ _ _ _ (h m a _ (hs.grow (w' := { w with drawn := w.drawn + 1 }) (ExtW.refl w) rfl rfl rfl))
  have hfin : ∀ e a' w', post0 C (Q .normal) e a' w' → post C Q e a' w' := by
    rintro e a' w' ⟨rfl, s', hs', hk⟩
    exact ⟨s', hs', hk⟩
  unfold Region.schedule
  split
  · exact wpOps_monoQ hfin _ _ _ (wpAny_sound ops.size t _ a _ hany)
  · split
    · exact wpOps_monoQ hfin _ _ _ (wpAny_sound ops.size _ _ a _ (wpAny_md (order_any pt h1 h2) _ _ _ _ (by simp) hany))
    · exact wpOps_monoQ hfin _ _ _ (wpAny_sound ops.size _ _ a _ (wpAny_md (order_any pg h3 h4) _ _ _ _ (by simp) hany))

section
variable {P : Program} {C : Ctx} {s : St} {t : Nat} {ty : TypeId} {pos : String} {af : Array Edge}
theorem SimM.nbor {m : Nat → MV} {a : Act} {w : World} (hs : SimM C s m a w) {k0 id b : Nat} (hC : C.nb = k0) (hlv : (s.rows.take k0).all Row.live = true) (hge : Nat.ble k0 id = true) (hl : liveAt s.rows id) (hb : (m id).S b) : ¬ lentB C b := by
  rintro ⟨j, hj, hbj⟩
  have hge := Nat.le_of_ble_eq_true hge
  have hjl : j < s.rows.length := Nat.lt_of_lt_of_le hj hs.nbl
  have hlj : liveAt s.rows j := by
    refine ⟨s.rows[j], List.getElem?_eq_getElem hjl, ?_⟩
    rw [List.all_eq_true] at hlv
    refine hlv _ (List.mem_of_getElem? (i := j) ?_)
    rw [List.getElem?_take, if_pos (by omega)]
    exact List.getElem?_eq_getElem hjl
  rw [← hs.bor j hj] at hbj
  have := hs.dist id j b hl hlj hb hbj
  omega
theorem lb_load_var {x : Operand} {T id e i o R k0 : Nat} {cs : List SV} {sv : SV} {D : TypeDesc} (hC : C.nb = k0) (hlv : (s.rows.take k0).all Row.live = true) (hge : Nat.ble k0 id = true) (hx : getO s.env x = .ptr id e i o) (hrow : s.rows[id]? = some (.var R cs))
    (hT : P.underlying T = some D) (hD : (match D with | .struct _ | .array _ _ => true | _ => false) = false) (hc : cs[i * e + o]? = some sv) : LtB P C s ⟨some t, .load T x, ty, pos, af, none⟩ (sv) := by
  intro m a w hs
  obtain ⟨b, hv, hb, hid⟩ := hs.ptr hx
  have hnb : ∀ b', (m id).S b' → ¬ lentB C b' := fun b' h => hs.nbor hC hlv hge ⟨_, hrow, rfl⟩ h
  have hR := hs.rows id _ hrow
  generalize hmv : m id = v at *
  cases hR with
  | var b' t' cs cur hbk hl hr h1 =>
    simp only [MV.of, blk, Option.some.injEq] at hb
    subst hb
    have hlt : i * e + o < cur.size := by rw [hl]; exact (List.getElem?_eq_some_iff.1 hc).1
    have hu : cur[i * e + o]? = some cur[i * e + o] := Array.getElem?_eq_getElem hlt
    have hcell : w.cell? ⟨b', i * e + o, none⟩ = some cur[i * e + o] := by
      rw [cell_of_row w b' _ cur R (0, 0) hbk]; exact hu
    refine ⟨cur[i * e + o], fun w' hw' => ?_, hr _ sv _ hc hu⟩
    have hcell := hw'.cell (hnb b' rfl) hcell
    have hagg := isAgg_false hT hD w'
    simp [execOp, Instr.loadAt, hv, Instr.sureAddr, loadVar, hagg, load, Sem.run, hcell]

theorem lb_load_varG {x : Operand} {T id e i o R n k0 : Nat} {cs : List SV} {D : TypeDesc} {inf : TypeInfo} (hC : C.nb = k0) (hlv : (s.rows.take k0).all Row.live = true) (hge : Nat.ble k0 id = true) (hx : getO s.env x = .ptr id e i o) (hrow : s.rows[id]? = some (.var R cs))
    (hT : P.underlying T = some D) (hD : D.isRow = true) (hinf : P.info? T = some inf) (hsz : inf.size = n) (hle : Nat.ble (i * e + o + n) cs.length = true) :
    LtB P C s ⟨some t, .load T x, ty, pos, af, none⟩ (.ag ((cs.drop (i * e + o)).take n)) := by
  intro m a w hs
  have hle := Nat.le_of_ble_eq_true hle
  obtain ⟨b, cur, hv, hmb, hbk, hl, hr, h1⟩ := hs.var hx hrow
  have hnb : ¬ lentB C b := hs.nbor hC hlv hge ⟨_, hrow, rfl⟩ (by rw [hmb]; rfl)
  have hget : ∀ j, ((cur.toList.drop (i * e + o)).take n)[j]? = if j < n then cur[i * e + o + j]? else none := by
    intro j
    rw [List.getElem?_take]
    split
    · rw [List.getElem?_drop]; simp
    · rfl
  refine ⟨.agg ((cur.toList.drop (i * e + o)).take n).toArray, fun w' hw' => ?_, ?_⟩
  · have := run_loadAt_mid (P := P) w' b (i * e + o) T ((cur.toList.drop (i * e + o)).take n) D (fun j v hj => by
      rw [hget] at hj
      split at hj
      · exact hw'.cell hnb (by rw [cell_of_row w b _ cur R (0, 0) hbk]; exact hj)
      · cases hj) hT hD (by rw [hinf]; simp [hsz]; omega)
    simp [execOp, hv, this]
  · refine .ag _ _ (by simp; omega) (fun j c u hc hu => ?_) (fun j u hu => ?_)
    · have hu : ((cur.toList.drop (i * e + o)).take n)[j]? = some u := by simpa using hu
      rw [hget] at hu
      rw [List.getElem?_take, List.getElem?_drop] at hc
      split at hu
      · rename_i hj; rw [if_pos hj] at hc; exact hr _ c u hc hu
      · cases hu
    · have hu : ((cur.toList.drop (i * e + o)).take n)[j]? = some u := by simpa using hu
      rw [hget] at hu
      split at hu
      · exact h1 _ u hu
      · cases hu

theorem lb_load_varS {x : Operand} {T id e i o R n k0 : Nat} {cs : List SV} {f : Bool} {ps : List PV} {D : TypeDesc} {inf : TypeInfo} (hC : C.nb = k0) (hlv : (s.rows.take k0).all Row.live = true) (hge : Nat.ble k0 id = true) (hx : getO s.env x = .ptr id e i o) (hrow : s.rows[id]? = some (.var R cs))
    (hT : P.underlying T = some D) (hD : D.isRow = true) (hinf : P.info? T = some inf) (hsz : inf.size = n) (hle : Nat.ble (i * e + o + n) cs.length = true) (hps : collectC ((cs.drop (i * e + o)).take n) = some (f, ps)) :
    LtB P C s ⟨some t, .load T x, ty, pos, af, none⟩ (.pv f (.agg ps)) := by
  intro m a w hs
  obtain ⟨v, g1, h2⟩ := lb_load_varG (t := t) (ty := ty) (pos := pos) (af := af) hC hlv hge hx hrow hT hD hinf hsz hle m a w hs
  obtain ⟨c1, c2⟩ := collectC_get hps
  refine ⟨v, g1, ?_⟩
  cases h2 with
  | ag _ us hl h h1 =>
    refine .pv _ _ _ (.agg ps us (by rw [hl, c1]) (fun j p hp => ?_) (fun j p u hp hu => ?_))
    · obtain ⟨g, h3, _⟩ := c2 j p hp
      have hlt : j < us.size := by rw [hl]; exact (List.getElem?_eq_some_iff.1 h3).1
      have hu := Array.getElem?_eq_getElem hlt
      exact (h _ _ _ h3 hu).pv_inv.notAgg (h1 _ _ hu)
    · obtain ⟨g, h3, h4⟩ := c2 j p hp
      exact RP.flag (G := Gd C s.rows m w) (fun b hb => hb.weak) (h _ _ _ h3 hu).pv_inv h4

theorem l0_fieldAddr_ptr {x : Operand} {S : TypeId} {k id e i o : Nat} {fs : Array Field} {fd : Field} {inf : TypeInfo} (hx : getO s.env x = .ptr id e i o)
 (hS : P.underlying S = some (.struct fs)) (hk : fs[k]? = some fd) (hinf : P.info? fd.type = some inf) (hsz : ¬ inf.size = 0) : Lt0 P C s ⟨some t, .fieldAddr S x k, ty, pos, af, none⟩ ((.ptr id e i (o + fd.offset))) := by
  intro m a w hs
  obtain ⟨b, he, hb, hid⟩ := hs.ptr hx
  refine ⟨.pointer (some ⟨b, i * e + (o + fd.offset), none⟩), fun _ => ?_, .ptr id e i _ b hid hb⟩
  simp [execOp, he, Instr.fieldAt, run_underlying hS, hk, Instr.sureAddr, fieldPlace, sizeOf, typeInfo, hinf, hsz, Addr_add, Nat.add_assoc]
theorem l0_build {S : TypeId} {parts : Array (Nat × Operand)} {pl : List (Nat × Nat)} {zs out : List PV} {f : Bool} {ps : List (Nat × PV)} (hS : StInfo P S pl zs) 
 (hp : collectQ s.env parts.toList = some (f, ps)) (ha : applyP pl zs ps = some out) : Lt0 P C s ⟨some t, .build S parts, ty, pos, af, none⟩ ((.pv f (.agg out))) := by
  intro m a w hs
  obtain ⟨⟨fs, hu⟩, zc, hb, hz⟩ := hS
  obtain ⟨h1, h2⟩ := collectQ_vals hs parts.toList f ps hp
  obtain ⟨zc', hf, hr⟩ := fill_apply ps (parts.toList.map fun q => (q.1, a.eval q.2)) zs out zc (hz w (Gd C s.rows m w f)) ha (by simp [h1]) h2
  refine ⟨.agg zc', fun w' => ?_, .pv _ _ _ hr⟩
  have hpl : (parts.map fun (i, x) => (i, a.eval x)).toList = parts.toList.map fun q => (q.1, a.eval q.2) := by rw [Array.toList_map]
  have := run_build (P := P) w' S (parts.map fun (i, x) => (i, a.eval x)) zc' (by rw [hpl, hb]; exact hf)
  simp only [execOp, Sem.run_bind, this, Result.andThen_ok]
  rfl
theorem l0_buildG {S : TypeId} {parts : Array (Nat × Operand)} {pl : List (Nat × Nat)} {zs : List PV} {out : List SV} {ps : List (Nat × List SV)} (hS : StInfo P S pl zs)
    (hp : collectG s.env s.rows parts.toList = some ps) (ha : applyG pl (zs.map fun c => .pv true c) ps = some out) : Lt0 P C s ⟨some t, .build S parts, ty, pos, af, none⟩ (.ag out) := by
  intro m a w hs
  obtain ⟨⟨fs, hu⟩, zc, hb, hz⟩ := hS
  obtain ⟨h1, h2⟩ := collectG_vals hs parts.toList ps hp
  have hz0 : RS w (Gd C s.rows m w) m s.rows.length (.ag (zs.map fun c => .pv true c)) (.agg zc) := by
    have := hz w (Gd C s.rows m w true)
    cases this with
    | agg _ _ hl h1 h =>
      refine .ag _ _ (by simpa using hl) (fun j c u hc hu => ?_) (fun j u hu => ?_)
      · simp only [List.getElem?_map, Option.map_eq_some_iff] at hc
        obtain ⟨c', hc', rfl⟩ := hc
        exact .pv _ _ _ (h j c' u hc' hu)
      · have hj : j < zs.length := by rw [← hl]; exact (Array.getElem?_eq_some_iff.1 hu).1
        exact (h j _ u (List.getElem?_eq_getElem hj) hu).oneCell (h1 j _ (List.getElem?_eq_getElem hj))
  obtain ⟨zc', hf, hr⟩ := fill_applyG ps (parts.toList.map fun q => (q.1, a.eval q.2)) _ out zc hz0 ha (by simp [h1]) h2
  refine ⟨.agg zc', fun w' => ?_, hr⟩
  have hpl : (parts.map fun (i, x) => (i, a.eval x)).toList = parts.toList.map fun q => (q.1, a.eval q.2) := by rw [Array.toList_map]
  have := run_build (P := P) w' S (parts.map fun (i, x) => (i, a.eval x)) zc' (by rw [hpl, hb]; exact hf)
  simp only [execOp, Sem.run_bind, this, Result.andThen_ok]
  rfl
theorem l0_assign {x : Operand} : Lt0 P C s ⟨some t, .assign x, ty, pos, af, none⟩ (getO s.env x) := fun m a w hs => ⟨a.eval x, fun _ => rfl, hs.get x⟩
theorem l0_assign_pv {x : Operand} {f : Bool} {p : PV} (hx : getO s.env x = .pv f p) : Lt0 P C s ⟨some t, .assign x, ty, pos, af, none⟩ (.pv f p) := by rw [← hx]; exact l0_assign
theorem xt_alloc {S : TypeId} {zs : List PV} (hZ : StZ P S zs) : Xt P C s ⟨some t, .alloc S, ty, pos, af, none⟩ { s with rows := s.rows ++ [.var S (zs.map fun c => .pv true c)] } (.ptr s.rows.length 0 0 0) := by
  intro m a w hs
  obtain ⟨_, i, zc, hi, hsz, hz, hr⟩ := hZ
  have hrp := hr w (fun _ => False)
  have hlen : zc.size = zs.length := by cases hrp with | agg _ _ hl => exact hl
  have hadd := hs.addRow (w' := w.alloc (.cells zc S)) (World.grownBy_alloc w _ none) (.var S (zs.map fun c => .pv true c)) (.of <| .pointer (some ⟨w.heap.size, 0, none⟩))
    (fun b hb => by simp [MV.of, blk] at hb; omega) (fun hG => .var w.heap.size S _ zc (heap_alloc_new w _) (by simpa using hlen) (fun j c u hc hu => by
      simp only [List.getElem?_map, Option.map_eq_some_iff] at hc
      obtain ⟨c', hc', rfl⟩ := hc
      have := hr (w.alloc (.cells zc S)) (Gd C (s.rows ++ [.var S (zs.map fun c => .pv true c)]) (updM m s.rows.length (.of <| .pointer (some ⟨w.heap.size, 0, none⟩))) (w.alloc (.cells zc S)) true)
      cases this with
      | agg _ _ _ _ h => exact .pv _ _ _ (h j c' u hc' hu)) (fun j u hu => by
      cases hrp with
      | agg _ _ hl h1 h =>
        have hj : j < zs.length := by rw [← hl]; exact (Array.getElem?_eq_some_iff.1 hu).1
        have hc := List.getElem?_eq_getElem hj
        exact (h j _ u hc hu).oneCell (h1 j _ hc)))
  have hgr := World.grownBy_alloc w (.cells zc S) none
  refine ⟨.pointer (some ⟨w.heap.size, 0, none⟩), _, _, ?_, hadd.1, ?_, hgr.size, fun k hk => hgr.block k hk (by simp)⟩
  · simp [execOp, Instr.alloc, zeroValue, typeInfo, hi, hz, newVar, newRow, Value.cells]
  · exact .ptr s.rows.length 0 0 0 w.heap.size (by simp) (by rw [updM_same]; rfl)
end
section
variable {late : List Nat} {P : Program} {C : Ctx} {ops : Array Oper} {K : St → Prop} {s : St} {n : Nat} {listed : Array Bool}
/-- A call that writes only what was lent. -/
theorem sb_call (i : Nat) (bs : List Nat) {k0 : Nat} (hC : C.nb = k0) (hbs : bs.all (fun id => Nat.blt id k0) = true) {brows : List Row} {t : Nat} {ty : TypeId} {pos : String} {af : Array Edge} {gd : Option (Nat × Bool)} {f : FuncId} {fn : Func} {xs : Array Operand} {Ts : Array TypeId} {args : List SV} {R : List SV → List Row → Prop}
    (hi : ops[i]? = some ⟨some t, .call ⟨.value (.func f), xs, Ts⟩, ty, pos, af, gd⟩) (hw : Wnt C ops s ⟨some t, .call ⟨.value (.func f), xs, Ts⟩, ty, pos, af, gd⟩ true)
    (hf : P.funcs[f]? = some fn) (hnm : (fn.name == "runtime.NumGoroutine") = false) (hbd : fn.body.isNone = false) (ht : Nat.blt t s.n = true)
    (hb1 : bs.map (fun id => (s.rows[id]?).map Row.toArg) = brows.map some) (hb2 : brows.all Row.live = true) (hb3 : bs.map (placeOf bs) = (List.range bs.length).map some)
    (hargs : (xs.toList.map (getO s.env)).mapM (argOfB bs s.rows) = some args) (hsat : SatAt P f args brows R)
    (next : ∀ res rows', R res rows' → bs.length ≤ rows'.length ∧ (res.all SV.noTup = true ∧ rows'.all (Row.bdd 0) = true ∧ (rows'.take bs.length).all Row.live = true ∧ rows'.all Row.noGh = true) ∧
      (((xs.toList.map (getO s.env)).any (SV.isKept bs) = false) ∨ (res.all SV.fresh = true ∧ rows'.all Row.fresh = true)) ∧
      VLB late P C ops n (listed.setIfInBounds i true) K ⟨s.n, (t, packS (res.map (SV.shift bs s.rows.length))) :: s.env, rowsAfter bs s.rows rows'⟩) :
    StepB late P C ops n listed K s i := by
  intro m a w hs
  unfold wpOp
  simp only [hi]
  rw [if_pos (hw m a w hs)]
  left
  have hbs' : ∀ (q id : Nat), bs[q]? = some id → id < C.nb := fun q id hq => by
    rw [List.all_eq_true] at hbs
    rw [hC]; exact blt_lt (hbs id (List.mem_of_getElem? hq))
  have hrc : (execOp a.eval ⟨some t, .call ⟨.value (.func f), xs, Ts⟩, ty, pos, af, gd⟩).run P w = .ok (.enter f (xs.map a.eval)) w := run_call (t := t) (ty := ty) (pos := pos) (af := af) hf hnm hbd (some t)
  refine ow_callA (sa := xs.toList.map (getO s.env)) (va := xs.map a.eval) bs hs hrc (by simp) (fun u x hu => ?_) ht hb1 hb2 hb3 hargs hsat
    (fun res rows' hR => let ⟨h1, h2, h3, h4⟩ := next res rows' hR; ⟨h1, h2, h3, fun m' a' w' hs' hsz hold => ⟨.inl ⟨hsz, fun k hk hb => hold k hk fun q id hq hS => hb ⟨id, hbs' q id hq, by rw [← hs.bor id (hbs' q id hq)]; exact hS⟩⟩, h4 m' a' w' hs'⟩⟩)
  simp only [List.getElem?_map, Option.map_eq_some_iff] at hu
  obtain ⟨o, ho, rfl⟩ := hu
  have ho' : xs[u]? = some o := by simpa using ho
  have e : (xs.map a.eval).getD u undef = a.eval o := by
    rw [Array.getD_eq_getD_getElem?, Array.getElem?_map, ho']; rfl
  rw [e]
  exact hs.get o
theorem vb_any1 (i : Nat) (hr : Region.ready .any ops listed = [i]) (h1 : StepB late P C ops n listed K s i) : VLB late P C ops (n + 1) listed K s := by
  intro m a w hs
  refine ⟨fun h0 => (by rw [hr] at h0; cases h0), fun q hq => ?_⟩
  rw [hr] at hq
  simp at hq
  subst hq
  exact h1 m a w hs
theorem vb_stM {s' : St} (next : VLB late P C ops n listed K s') (h : s = s' := by (try simp only [St.put, exposeE, killE, SV.expose, SV.kill, Row.expose, Row.kill, rowsAfter_nil, rowsAfter_one, packS, SV.shift, placeOf, enumE, List.zip_cons_cons, List.zip_nil_right, List.map_cons, List.map_nil, List.set_cons_zero, List.set_cons_succ, List.length_cons, List.length_nil, List.cons_append, List.nil_append, List.drop_succ_cons, List.drop_zero, List.drop_nil, List.take_succ_cons, List.take_zero, List.take_nil, List.getElem?_cons_zero, List.getElem?_cons_succ, List.getElem?_nil, Option.getD_some, Option.getD_none, Option.map_some, Option.map_none, Nat.reduceAdd, Nat.reduceSub, Nat.reduceEqDiff, Nat.zero_add, Bool.true_or, PV.scal, Bool.or_false, Bool.or_true, Bool.false_or, Bool.and_true, Bool.and_false, Bool.true_and, reduceIte, reduceCtorEq, SV.kill1, SV.expose1, deadAll, refsOf, List.foldl_cons, List.foldl_nil, takeSV, takeRows, takeP, takePV, setAll, resG, look_cons, Nat.succ.injEq, Nat.add_eq, Nat.mul_one, Nat.mul_zero, Nat.zero_mul, Nat.add_zero, List.map_map, PV.cells, Nat.reduceMul, List.append_nil, Option.some.injEq, Int.toNat_natCast]); exact eq_refl _) : VLB late P C ops n listed K s := vb_st h next
end
end Go.Vl

namespace Go.Vl
set_option linter.unusedVariables false
set_option linter.unusedSimpArgs false
open Go.Proofs
theorem S33n : StInfo Try.prog 33 [(0, 1), (1, 1), (2, 1)] [(.sl (some true) 1 []), (.sl (some true) 1 []), (.sl (some true) 2 [])] := by
  refine ⟨⟨_, Try.underlying33⟩, #[(.slice none 0 0), (.slice none 0 0), (.slice none 0 0)], fun l => by kernel_rfl, fun w G => .agg _ _ rfl ?_ ?_⟩
  · intro j c h
    match j, h with
    | 0, h => cases h; rfl
    | 1, h => cases h; rfl
    | 2, h => cases h; rfl
  · intro j c u h hu
    match j, h, hu with
    | 0, h, hu => cases h; cases hu; exact .nilsl _ _ (by decide)
    | 1, h, hu => cases h; cases hu; exact .nilsl _ _ (by decide)
    | 2, h, hu => cases h; cases hu; exact .nilsl _ _ (by decide)
theorem S62n : StInfo Try.prog 62 [(0, 1), (1, 1)] [(.int .i64 0), (.sl (some true) 2 [])] := by
  refine ⟨⟨_, Try.underlying62⟩, #[(.int .i64 0), (.slice none 0 0)], fun l => by kernel_rfl, fun w G => .agg _ _ rfl ?_ ?_⟩
  · intro j c h
    match j, h with
    | 0, h => cases h; rfl
    | 1, h => cases h; rfl
  · intro j c u h hu
    match j, h, hu with
    | 0, h, hu => cases h; cases hu; exact .int _ _
    | 1, h, hu => cases h; cases hu; exact .nilsl _ _ (by decide)

theorem plain_attrs (l : List AttrM) : plainX (l.map attrP) := by
  intro x hx c hc
  obtain ⟨a, _, rfl⟩ := List.mem_map.1 hx
  simp [PV.cells] at hc
  rcases hc with rfl | rfl | rfl <;> rfl
theorem plain_pairsX (l : List (Int × Int)) : plainX (l.map pairP) := by
  intro x hx c hc
  obtain ⟨a, _, rfl⟩ := List.mem_map.1 hx
  simp [PV.cells] at hc
  rcases hc with rfl | rfl <;> rfl
def smallW (w : WorldM) : Prop := (1 ≤ w.bases.length ∧ w.bases.length ≤ 9 ∧ ∀ l ∈ w.bases, l.length ≤ 3) ∧ (w.attrs.length = w.bases.length ∧ ∀ l ∈ w.attrs, l.length ≤ 3) ∧ w.objs.length ≤ 3 ∧ ∀ o ∈ w.objs, o.pairs.length ≤ 3
theorem app_all {α : Type} {p : α → Prop} {l : List α} {x : α} (h : ∀ y ∈ l, p y) (hx : p x) : ∀ y ∈ l ++ [x], p y := by
  intro y hy
  rcases List.mem_append.1 hy with h1 | h1
  · exact h y h1
  · rw [List.mem_singleton.1 h1]; exact hx
theorem app_attrs (l : List AttrM) (a : AttrM) : l.map attrP ++ [attrP a] = (l ++ [a]).map attrP := by simp
theorem app_attrss (l : List (List AttrM)) (a : List AttrM) : l.map attrsP ++ [.sl none 3 (a.map attrP)] = (l ++ [a]).map attrsP := by simp
theorem app_objs (l : List ObjM) (a : Int) (ps : List (Int × Int)) : l.map objP ++ [.agg [.int .i64 a, .sl none 2 (ps.map pairP)]] = (l ++ [(⟨a, ps⟩ : ObjM)]).map objP := by simp
theorem app_pairsX (l : List (Int × Int)) (a b : Int) : l.map pairP ++ [.agg [.int .i64 a, .int .i64 b]] = (l ++ [(a, b)]).map pairP := by simp

theorem someAttr_sat {nl : Option Bool} {c : List (Fin 256)} {p : Nat} (hc : c.length ≤ 2000) (hp : p < 999000) : SatAt Try.prog 57 [.ptr 0 0 0 0] [rdr nl c p] (fun res rows => ∃ (a : AttrM), res = [.pv true (attrP a)] ∧ rows = [rdr nl c (p + 3)]) := by
 refine sat_entry_G (rs := [(2, some (37, 3))]) Try.func57 rfl rfl (Nat.le_of_ble_eq_true rfl) (Nat.le_of_ble_eq_true rfl) (resTs1 ⟨_, _, Try.underlying37, rfl, inf37, sz37⟩) fun C hC => ?_
 rw [Try.ntmps57]
 replace hC : C.nb = 1 := hC
 refine vc_seq fun K1 hK1 => ?_
 refine vc_region ?_
 refine vo_alloc Z37 rfl ?_
 refine vo_stM ?_
 refine vo_nil ?_
 refine hK1 _ ?_
 refine vc_seq fun K2 hK2 => ?_
 refine vc_region ?_
 refine vo_move_ptr rfl rfl ?_
 refine vo_call [0] Try.func58 rfl rfl rfl rfl rfl rfl rfl (pick_sat hc (by omega)) ?_
 rintro _ _ ⟨x4, ⟨hx40, hx41⟩, rfl, rfl⟩
 refine ⟨Nat.le_of_ble_eq_true rfl, ⟨rfl, rfl, rfl, rfl⟩, .inl rfl, ?_⟩
 refine vo_stM ?_
 refine vo_move_ptr rfl rfl ?_
 refine vo_buildSlice E49 rfl rfl rfl rfl rfl ?_
 refine vo_stM ?_
 refine vo_expose 2 (by omega) rfl ?_
 refine vo_stM ?_
 refine vo_weaken 6 rfl ?_
 refine vo_stM ?_
 refine vo_call [0] Try.func59 rfl rfl rfl rfl rfl rfl rfl (one_sat (list := [_,_,_,_,_,_,_,_]) hc (by omega) (by simp) (by simp)) ?_
 rintro _ _ ⟨y7, hy7, rfl, rfl⟩
 refine ⟨Nat.le_of_ble_eq_true rfl, ⟨rfl, rfl, rfl, rfl⟩, .inl rfl, ?_⟩
 refine vo_stM ?_
 refine vo_move_ptr rfl rfl ?_
 refine vo_call [0] Try.func58 rfl rfl rfl rfl rfl rfl rfl (pick_sat hc (by omega)) ?_
 rintro _ _ ⟨x9, ⟨hx90, hx91⟩, rfl, rfl⟩
 refine ⟨Nat.le_of_ble_eq_true rfl, ⟨rfl, rfl, rfl, rfl⟩, .inl rfl, ?_⟩
 refine vo_stM ?_
 refine vo_build S37 rfl rfl rfl ?_
 refine vo_stM ?_
 refine vo_store_varS rfl rfl rfl inf37 sz37 rfl ?_
 refine vo_stM ?_
 refine vo_nil ?_
 refine hK2 _ ?_
 refine vc_ret ?_
 change retQ _ _ _ _ _
 refine retQ_sel [] (srows := []) (.inr rfl) hC rfl rfl rfl rfl rfl rfl rfl ?_
 exact ⟨⟨x4, y7, x9⟩, rfl, rfl⟩


theorem someWorld_sat {nl : Option Bool} {c : List (Fin 256)} {p : Nat} (hc : c.length ≤ 2000) (hp : p < 990000) : SatAt Try.prog 119 [.ptr 0 0 0 0] [rdr nl c p] (fun res rows => ∃ (W : WorldM) (q : Nat) (f : Bool), (smallW W ∧ q ≤ p + 400) ∧ res = [.ag [.pv f (.sl none 1 (W.bases.map ints)), .ref 1, .ref 2]] ∧ rows = [rdr nl c q, .tree 63 1 none none (W.attrs.map attrsP), .tree 62 2 none none (W.objs.map objP)]) := by
 refine sat_entry_G (rs := [(2, some (33, 3))]) Try.func119 rfl rfl (Nat.le_of_ble_eq_true rfl) (Nat.le_of_ble_eq_true rfl) (resTs1 ⟨_, _, Try.underlying33, rfl, inf33, sz33⟩) fun C hC => ?_
 rw [Try.ntmps119]
 replace hC : C.nb = 1 := hC
 refine vc_seq fun K1 hK1 => ?_
 refine vc_region ?_
 refine vo_alloc Z33 rfl ?_
 refine vo_stM ?_
 refine vo_nil ?_
 refine hK1 _ ?_
 refine vc_seq fun K2 hK2 => ?_
 refine vc_region ?_
 refine vo_move_ptr rfl rfl ?_
 refine vo_call [0] Try.func130 rfl rfl rfl rfl rfl rfl rfl (goodBasesX_sat hc (by omega)) ?_
 rintro _ _ ⟨B, q0, f0, nl0, ⟨hB1, hB2, hB3, hB4⟩, rfl, rfl⟩
 refine ⟨Nat.le_of_ble_eq_true rfl, ⟨rfl, rfl, rfl, rfl⟩, .inl rfl, ?_⟩
 refine vo_stM ?_
 refine vo_weaken 13 rfl ?_
 refine vo_stM ?_
 refine vo_buildG S33n rfl rfl rfl ?_
 refine vo_stM ?_
 refine vo_alloc Z33 rfl ?_
 refine vo_stM ?_
 refine vo_store_varG rfl rfl rfl rfl inf33 sz33 rfl ?_
 refine vo_stM ?_
 refine vo_nil ?_
 refine hK2 _ ?_
 refine vc_seq fun K3 hK3 => ?_
 refine vc_seq fun K4 hK4 => ?_
 refine vc_region ?_
 refine vo_assign_pv rfl rfl ?_
 refine vo_nil ?_
 refine hK4 _ ?_
 refine vc_block ?_
 refine vc_own_cell 2 1 E30 rfl rfl ?_
 refine vc_stM ?_
 refine vc_totree 3 rfl ((by intro x hx; cases hx)) ?_
 refine vc_stM ?_
 refine vc_weaktree 3 rfl ?_
 refine vc_stM ?_
 refine vc_stM ?_
 refine vc_loopE [0, 2, 3] [4] [0, 3] _ _ (fun mz vs rs => ∃ (k : Nat) (A : List (List AttrM)) (q : Nat), mz = B.length - k ∧ ((k ≤ B.length ∧ A.length = k ∧ q ≤ q0 + 20 * k)) ∧ ((∀ l ∈ A, l.length ≤ 3)) ∧ vs = [i64 k] ∧ rs = [rdr nl c q, Row.tree 63 1 none none (A.map attrsP)]) (B.length) rfl rfl (le_len hC rfl) ⟨rfl, rfl, rfl⟩ rfl ⟨0, [], q0, rfl, (by simp), (by simp), rfl, rfl⟩ ?_
 rintro mz vs rs - - ⟨k, A, q, rfl, hk, hA, rfl, rfl⟩
 refine vc_stM ?_
 refine vc_seq fun K5 hK5 => ?_
 refine vc_seq fun K6 hK6 => ?_
 refine vc_region ?_
 refine vo_move_pv rfl rfl ?_
 refine vo_fieldAddr_ptr rfl rfl Try.underlying33 rfl inf22 (by rw [sz22]; decide) ?_
 try simp only [Nat.zero_add]
 refine vo_load_var rfl rfl rfl Try.underlying22 rfl rfl ?_
 refine vo_len_pv rfl rfl Try.underlying22 ?_
 refine vo_binI rfl rfl rfl rfl trivial ?_
 refine vo_nil ?_
 refine hK6 _ ?_
 refine vc_cond rfl (fun hc1 => ?_) (fun hc1 => ?_)
 ·try simp only [zq0, zq1, zq2, zq3, zq4, zq5, zq6, zq7, zq8, zq9, zqa, zqb, zqc, zqd, zqe, zqf] at hc1
  refine vc_skip ?_
  refine hK5 _ ?_
  refine vc_seq fun K7 hK7 => ?_
  refine vc_block ?_
  refine vc_seq fun K8 hK8 => ?_
  refine vc_region ?_
  refine vo_buildSlice E63 rfl rfl rfl rfl rfl ?_
  refine vo_stM ?_
  refine vo_assign_ref rfl rfl ?_
  refine vo_nil ?_
  refine hK8 _ ?_
  refine vc_seq fun K9 hK9 => ?_
  refine vc_seq fun K10 hK10 => ?_
  refine vc_region ?_
  refine vo_move_ptr rfl rfl ?_
  refine vo_buildSlice E49 rfl rfl rfl rfl rfl ?_
  refine vo_stM ?_
  refine vo_expose 5 (by omega) rfl ?_
  refine vo_stM ?_
  refine vo_weaken 24 rfl ?_
  refine vo_stM ?_
  refine vo_call [0] Try.func59 rfl rfl rfl rfl rfl rfl rfl (one_sat (list := [_,_,_,_]) hc (by omega) (by simp) (by simp)) ?_
  rintro _ _ ⟨y25, hy25, rfl, rfl⟩
  refine ⟨Nat.le_of_ble_eq_true rfl, ⟨rfl, rfl, rfl, rfl⟩, .inl rfl, ?_⟩
  refine vo_stM ?_
  refine vo_assign_pv rfl rfl ?_
  refine vo_nil ?_
  refine hK10 _ ?_
  refine vc_block ?_
  refine vc_stM ?_
  refine vc_loopE [0, 2, 3, 4] [5, 6] [0, 4] _ _ (fun mz vs rs => ∃ (n : Int) (L : List AttrM) (q2 : Nat), mz = n.toNat ∧ ((0 ≤ n ∧ L.length + n ≤ 3 ∧ q2 + 4 * n ≤ q + 15)) ∧ vs = [.ref 4, i64 n] ∧ rs = [rdr nl c q2, Row.own 37 3 (some false) true (L.map attrP)]) (y25.toNat) rfl rfl (le_len hC rfl) ⟨rfl, rfl, rfl⟩ rfl ⟨y25, [], q + 1, rfl, (by simp at hy25; simp; omega), rfl, rfl⟩ ?_
  rintro mz vs rs - - ⟨n, L, q2, rfl, hn, rfl, rfl⟩
  refine vc_stM ?_
  refine vc_seq fun K11 hK11 => ?_
  refine vc_seq fun K12 hK12 => ?_
  refine vc_region ?_
  refine vo_move_pv rfl rfl ?_
  refine vo_binI rfl rfl rfl rfl trivial ?_
  refine vo_nil ?_
  refine hK12 _ ?_
  refine vc_cond rfl (fun hc2 => ?_) (fun hc2 => ?_)
  ·try simp only [zq0, zq1, zq2, zq3, zq4, zq5, zq6, zq7, zq8, zq9, zqa, zqb, zqc, zqd, zqe, zqf] at hc2
   refine vc_skip ?_
   refine hK11 _ ?_
   refine vc_seq fun K13 hK13 => ?_
   refine vc_block ?_
   refine vc_seq fun K14 hK14 => ?_
   refine vc_region ?_
   refine vo_move_ptr rfl rfl ?_
   refine vo_call [0] Try.func57 rfl rfl rfl rfl rfl rfl rfl (someAttr_sat hc (by omega)) ?_
   rintro _ _ ⟨a, rfl, rfl⟩
   refine ⟨Nat.le_of_ble_eq_true rfl, ⟨rfl, rfl, rfl, rfl⟩, .inl rfl, ?_⟩
   refine vo_stM ?_
   refine vo_alloc Z37 rfl ?_
   refine vo_stM ?_
   refine vo_store_varS rfl rfl rfl inf37 sz37 rfl ?_
   refine vo_stM ?_
   refine vo_nil ?_
   refine hK14 _ ?_
   refine vc_seq fun K15 hK15 => ?_
   refine vc_region ?_
   refine vo_move_ref rfl rfl ?_
   refine vo_fieldAddr_ptr rfl rfl Try.underlying37 rfl inf3 (by rw [sz3]; decide) ?_
   try simp only [Nat.zero_add]
   refine vo_load_var rfl rfl rfl Try.underlying3 rfl rfl ?_
   refine vo_call0 Try.func85 rfl rfl rfl rfl (attrAt_sat (by omega)) ?_
   rintro _ _ ⟨rfl, rfl⟩
   refine ⟨rfl, rfl, .inr rfl, ?_⟩
   refine vo_stM ?_
   refine vo_binI rfl rfl rfl rfl trivial ?_
   refine vo_nil ?_
   refine hK15 _ ?_
   refine vc_cond rfl (fun hc3 => ?_) (fun hc3 => ?_)
   ·try simp only [zq0, zq1, zq2, zq3, zq4, zq5, zq6, zq7, zq8, zq9, zqa, zqb, zqc, zqd, zqe, zqf] at hc3
    refine vc_region ?_
    refine vo_move_ref rfl rfl ?_
    refine vo_load_varS rfl rfl rfl Try.underlying37 rfl inf37 sz37 rfl rfl ?_
    refine vo_buildSlice E63 rfl rfl rfl rfl rfl ?_
    refine vo_stM ?_
    refine vo_append E63 rfl (by omega) rfl rfl rfl sd sd ?_
    refine vo_stM ?_
    try simp only [app_ints, app_intss, app_bools, app_attrs, app_attrss, app_objs, app_pairsX, List.nil_append]
    refine vo_assign_ref rfl rfl ?_
    refine vo_nil ?_
    refine hK13 _ ?_
    refine vc_region ?_
    refine vo_move_pv rfl rfl ?_
    refine vo_binI rfl rfl rfl rfl sd ?_
    refine vo_assign_pv rfl rfl ?_
    refine vo_nil ?_
    change againE _ _ _ _ _ _ _ _ _ _
    refine againE_mk rfl rfl rfl rfl rfl rfl ⟨_, ?_, n - 1, L ++ [a], _, rfl, ?_, rfl, rfl⟩
    ·omega
    ·rw [List.length_append, List.length_singleton]; omega
   ·try simp only [zq0, zq1, zq2, zq3, zq4, zq5, zq6, zq7, zq8, zq9, zqa, zqb, zqc, zqd, zqe, zqf] at hc3
    refine vc_skip ?_
    refine hK13 _ ?_
    refine vc_region ?_
    refine vo_move_pv rfl rfl ?_
    refine vo_binI rfl rfl rfl rfl sd ?_
    refine vo_assign_pv rfl rfl ?_
    refine vo_nil ?_
    change againE _ _ _ _ _ _ _ _ _ _
    refine againE_mk rfl rfl rfl rfl rfl rfl ⟨_, ?_, n - 1, L, _, rfl, ?_, rfl, rfl⟩
    ·omega
    ·omega
  ·try simp only [zq0, zq1, zq2, zq3, zq4, zq5, zq6, zq7, zq8, zq9, zqa, zqb, zqc, zqd, zqe, zqf] at hc2
   refine vc_exit ?_
   refine hK9 _ ?_
   refine vc_region ?_
   refine vo_fieldAddr_ptr rfl rfl Try.underlying33 rfl inf30 (by rw [sz30]; decide) ?_
   try simp only [Nat.zero_add]
   refine vo_load_var rfl rfl rfl Try.underlying30 rfl rfl ?_
   refine vo_move_ref rfl rfl ?_
   refine vo_totree 4 rfl ((by first | exact plain_attrs _ | exact plain_pairsX _)) ?_
   refine vo_stM ?_
   refine vo_weaktree 4 rfl ?_
   refine vo_stM ?_
   refine vo_build_treeG (p := .sl _ _ _) E30 rfl rfl rfl rfl rfl rfl rfl hC rfl (by first | decide | simp [refsOf]) ?_
   refine vo_stM ?_
   refine vo_append_treeG E30 rfl (by omega) (by omega) rfl rfl rfl rfl rfl sd sd sd ?_
   refine vo_stM ?_
   try simp only [app_ints, app_intss, app_bools, app_attrs, app_attrss, app_objs, app_pairsX, List.nil_append]
   refine vo_fieldAddr_ptr rfl rfl Try.underlying33 rfl inf30 (by rw [sz30]; decide) ?_
   try simp only [Nat.zero_add]
   refine vo_store_varG rfl rfl rfl rfl inf30 sz30 rfl ?_
   refine vo_stM ?_
   refine vo_nil ?_
   refine hK7 _ ?_
   refine vc_region ?_
   refine vo_move_pv rfl rfl ?_
   refine vo_binI rfl rfl rfl rfl sd ?_
   refine vo_assign_pv rfl rfl ?_
   refine vo_nil ?_
   change againE _ _ _ _ _ _ _ _ _ _
   refine againE_mk rfl rfl rfl rfl rfl rfl ⟨_, ?_, k + 1, A ++ [L], q2, rfl, ?_, ?_, rfl, rfl⟩
   ·omega
   ·refine ⟨by omega, ?_, by omega⟩; rw [List.length_append, List.length_singleton]; omega
   ·exact app_all hA (by omega)
 ·try simp only [zq0, zq1, zq2, zq3, zq4, zq5, zq6, zq7, zq8, zq9, zqa, zqb, zqc, zqd, zqe, zqf] at hc1
  refine vc_exit ?_
  refine hK3 _ ?_
  refine vc_seq fun K16 hK16 => ?_
  refine vc_seq fun K17 hK17 => ?_
  refine vc_region ?_
  refine vo_move_ptr rfl rfl ?_
  refine vo_buildSlice E49 rfl rfl rfl rfl rfl ?_
  refine vo_stM ?_
  refine vo_expose 4 (by omega) rfl ?_
  refine vo_stM ?_
  refine vo_weaken 48 rfl ?_
  refine vo_stM ?_
  refine vo_call [0] Try.func59 rfl rfl rfl rfl rfl rfl rfl (one_sat (list := [_,_,_,_]) hc (by omega) (by simp) (by simp)) ?_
  rintro _ _ ⟨y49, hy49, rfl, rfl⟩
  refine ⟨Nat.le_of_ble_eq_true rfl, ⟨rfl, rfl, rfl, rfl⟩, .inl rfl, ?_⟩
  refine vo_stM ?_
  refine vo_assign_pv rfl rfl ?_
  refine vo_nil ?_
  refine hK17 _ ?_
  refine vc_block ?_
  refine vc_own_cell 2 2 E31 rfl rfl ?_
  refine vc_stM ?_
  refine vc_totree 5 rfl ((by intro x hx; cases hx)) ?_
  refine vc_stM ?_
  refine vc_weaktree 5 rfl ?_
  refine vc_stM ?_
  refine vc_stM ?_
  refine vc_loopE [0, 2, 3] [8] [0, 5] _ _ (fun mz vs rs => ∃ (n : Int) (O : List ObjM) (q3 : Nat), mz = n.toNat ∧ ((0 ≤ n ∧ O.length + n ≤ 3 ∧ q3 + 20 * n ≤ q + 100)) ∧ ((∀ o ∈ O, o.pairs.length ≤ 3)) ∧ vs = [i64 n] ∧ rs = [rdr nl c q3, Row.tree 62 2 none none (O.map objP)]) (y49.toNat) rfl rfl (le_len hC rfl) ⟨rfl, rfl, rfl⟩ rfl ⟨y49, [], q + 1, rfl, (by simp at hy49; simp; omega), (by simp), rfl, rfl⟩ ?_
  rintro mz vs rs - - ⟨n, O, q3, rfl, hn3, hO, rfl, rfl⟩
  refine vc_stM ?_
  refine vc_seq fun K18 hK18 => ?_
  refine vc_seq fun K19 hK19 => ?_
  refine vc_region ?_
  refine vo_move_pv rfl rfl ?_
  refine vo_binI rfl rfl rfl rfl trivial ?_
  refine vo_nil ?_
  refine hK19 _ ?_
  refine vc_cond rfl (fun hc4 => ?_) (fun hc4 => ?_)
  ·try simp only [zq0, zq1, zq2, zq3, zq4, zq5, zq6, zq7, zq8, zq9, zqa, zqb, zqc, zqd, zqe, zqf] at hc4
   refine vc_skip ?_
   refine hK18 _ ?_
   refine vc_seq fun K20 hK20 => ?_
   refine vc_block ?_
   refine vc_seq fun K21 hK21 => ?_
   refine vc_drawB [14] (by kernel_rfl) ?_
   change VLB [14] _ _ _ 15 _ _ _
   refine vb_light0 0 rfl rfl rfl (by kernel_rfl) (by kernel_rfl) (by kernel_rfl) (wnt_none rfl) (l0_move_ptr rfl) ?_
   refine vb_light0 1 rfl rfl rfl (by kernel_rfl) (by kernel_rfl) (by kernel_rfl) (wnt_none rfl) (l0_fieldAddr_ptr rfl Try.underlying33 rfl inf22 (by rw [sz22]; decide)) ?_
   try simp only [Nat.zero_add]
   refine vb_light 2 [0, 1, 5, 6, 7, 8, 9, 13] rfl rfl rfl (by kernel_rfl) (by kernel_rfl) (by kernel_rfl) (by kernel_rfl) (by kernel_rfl) (wnt_none rfl) (lb_load_var hC rfl rfl rfl rfl Try.underlying22 rfl rfl) ?_
   refine vb_light0 3 rfl rfl rfl (by kernel_rfl) (by kernel_rfl) (by kernel_rfl) (wnt_none rfl) (l0_len_pv rfl Try.underlying22) ?_
   refine vb_light0 4 rfl rfl rfl (by kernel_rfl) (by kernel_rfl) (by kernel_rfl) (wnt_none rfl) (l0_binI rfl rfl rfl sd) ?_
   refine vb_light0 5 rfl rfl rfl (by kernel_rfl) (by kernel_rfl) (by kernel_rfl) (wnt_none rfl) (l0_move_ptr rfl) ?_
   refine vb_light0 6 rfl rfl rfl (by kernel_rfl) (by kernel_rfl) (by kernel_rfl) (wnt_none rfl) (l0_fieldAddr_ptr rfl Try.underlying33 rfl inf22 (by rw [sz22]; decide)) ?_
   try simp only [Nat.zero_add]
   refine vb_light 7 [0, 1, 2, 3, 4, 5, 6, 13] rfl rfl rfl (by kernel_rfl) (by kernel_rfl) (by kernel_rfl) (by kernel_rfl) (by kernel_rfl) (wnt_none rfl) (lb_load_var hC rfl rfl rfl rfl Try.underlying22 rfl rfl) ?_
   refine vb_light0 8 rfl rfl rfl (by kernel_rfl) (by kernel_rfl) (by kernel_rfl) (wnt_none rfl) (l0_len_pv rfl Try.underlying22) ?_
   refine vb_any2 9 13 (by kernel_rfl) ?_ ?_
   ·refine sb_call 9 [0] hC rfl rfl (wnt_none rfl) Try.func58 rfl rfl rfl rfl rfl rfl rfl (pick_sat hc (by omega)) ?_
    rintro _ _ ⟨x63, ⟨hx630, hx631⟩, rfl, rfl⟩
    refine ⟨Nat.le_of_ble_eq_true rfl, ⟨rfl, rfl, rfl, rfl⟩, .inl rfl, ?_⟩
    refine vb_stM ?_
    refine vb_any2 10 13 (by kernel_rfl) ?_ ?_
    ·refine sb_ext 10 rfl rfl (xt_buildSlice E49 rfl rfl rfl rfl) ?_
     refine vb_stM ?_
     refine vb_expose 6 (by omega) rfl ?_
     refine vb_stM ?_
     refine vb_weaken 64 rfl ?_
     refine vb_stM ?_
     refine vb_any2 11 13 (by kernel_rfl) ?_ ?_
     ·refine sb_call 11 [0] hC rfl rfl (wnt_none rfl) Try.func59 rfl rfl rfl rfl rfl rfl rfl (one_sat (list := [_,_]) hc (by omega) (by simp) (by simp)) ?_
      rintro _ _ ⟨y65, hy65, rfl, rfl⟩
      refine ⟨Nat.le_of_ble_eq_true rfl, ⟨rfl, rfl, rfl, rfl⟩, .inl rfl, ?_⟩
      refine vb_stM ?_
      refine vb_light0 12 rfl rfl rfl (by kernel_rfl) (by kernel_rfl) (by kernel_rfl) (wnt_none rfl) (l0_buildG S62n rfl rfl) ?_
      refine vb_stM ?_
      refine vb_ext 13 rfl (by kernel_rfl) rfl (xt_alloc Z62) ?_
      refine vb_stM ?_
      refine vb_one 14 rfl (by kernel_rfl) rfl ?_
      refine vo_store_varG rfl rfl rfl rfl inf62 sz62 rfl ?_
      refine vo_stM ?_
      refine vo_done ⟨rfl, ?_⟩
      refine vb_nil (by kernel_rfl) ?_
      refine hK21 _ ?_
      refine vc_seq fun K22 hK22 => ?_
      refine vc_seq fun K23 hK23 => ?_
      refine vc_region ?_
      refine vo_move_ptr rfl rfl ?_
      refine vo_buildSlice E49 rfl rfl rfl rfl rfl ?_
      refine vo_stM ?_
      refine vo_expose 8 (by omega) rfl ?_
      refine vo_stM ?_
      refine vo_weaken 68 rfl ?_
      refine vo_stM ?_
      refine vo_call [0] Try.func59 rfl rfl rfl rfl rfl rfl rfl (one_sat (list := [_,_,_,_]) hc (by omega) (by simp) (by simp)) ?_
      rintro _ _ ⟨y69, hy69, rfl, rfl⟩
      refine ⟨Nat.le_of_ble_eq_true rfl, ⟨rfl, rfl, rfl, rfl⟩, .inl rfl, ?_⟩
      refine vo_stM ?_
      refine vo_assign_pv rfl rfl ?_
      refine vo_nil ?_
      refine hK23 _ ?_
      refine vc_block ?_
      refine vc_own_cell 7 1 E60 rfl rfl ?_
      refine vc_stM ?_
      refine vc_stM ?_
      refine vc_loopE [0, 2, 3, 8, 9] [10] [0, 9] _ _ (fun mz vs rs => ∃ (n4 : Int) (Pq : List (Int × Int)) (q4 : Nat), mz = n4.toNat ∧ ((0 ≤ n4 ∧ Pq.length + n4 ≤ 3 ∧ q4 + 3 * n4 ≤ q3 + 15)) ∧ vs = [i64 n4] ∧ rs = [rdr nl c q4, Row.own 123 2 none true (Pq.map pairP)]) (y69.toNat) rfl rfl (le_len hC rfl) ⟨rfl, rfl, rfl⟩ rfl ⟨y69, [], _, rfl, (by simp at hy69; simp; omega), rfl, rfl⟩ ?_
      rintro mz vs rs - - ⟨n4, Pq, q4, rfl, hn4, rfl, rfl⟩
      refine vc_stM ?_
      refine vc_seq fun K24 hK24 => ?_
      refine vc_seq fun K25 hK25 => ?_
      refine vc_region ?_
      refine vo_move_pv rfl rfl ?_
      refine vo_binI rfl rfl rfl rfl trivial ?_
      refine vo_nil ?_
      refine hK25 _ ?_
      refine vc_cond rfl (fun hc5 => ?_) (fun hc5 => ?_)
      ·try simp only [zq0, zq1, zq2, zq3, zq4, zq5, zq6, zq7, zq8, zq9, zqa, zqb, zqc, zqd, zqe, zqf] at hc5
       refine vc_skip ?_
       refine hK24 _ ?_
       refine vc_seq fun K26 hK26 => ?_
       refine vc_block ?_
       refine vc_seq fun K27 hK27 => ?_
       refine vc_region ?_
       refine vo_move_ptr rfl rfl ?_
       refine vo_call [0] Try.func58 rfl rfl rfl rfl rfl rfl rfl (pick_sat hc (by omega)) ?_
       rintro _ _ ⟨x75, ⟨hx750, hx751⟩, rfl, rfl⟩
       refine ⟨Nat.le_of_ble_eq_true rfl, ⟨rfl, rfl, rfl, rfl⟩, .inl rfl, ?_⟩
       refine vo_stM ?_
       refine vo_assign_pv rfl rfl ?_
       refine vo_nil ?_
       refine hK27 _ ?_
       refine vc_seq fun K28 hK28 => ?_
       refine vc_region ?_
       refine vo_fieldAddr_ptr rfl rfl Try.underlying62 rfl inf60 (by rw [sz60]; decide) ?_
       try simp only [Nat.zero_add]
       refine vo_load_var rfl rfl rfl Try.underlying60 rfl rfl ?_
       refine vo_move_pv rfl rfl ?_
       refine vo_call0 Try.func112 rfl rfl rfl rfl (pairAt_sat (by omega)) ?_
       rintro _ _ ⟨rfl, rfl⟩
       refine ⟨rfl, rfl, .inr rfl, ?_⟩
       refine vo_stM ?_
       refine vo_binI rfl rfl rfl rfl trivial ?_
       refine vo_nil ?_
       refine hK28 _ ?_
       refine vc_cond rfl (fun hc6 => ?_) (fun hc6 => ?_)
       ·try simp only [zq0, zq1, zq2, zq3, zq4, zq5, zq6, zq7, zq8, zq9, zqa, zqb, zqc, zqd, zqe, zqf] at hc6
        refine vc_drawB [7, 9] (by kernel_rfl) ?_
        change VLB [7, 9] _ _ _ 10 _ _ _
        refine vb_light0 0 rfl rfl rfl (by kernel_rfl) (by kernel_rfl) (by kernel_rfl) (wnt_none rfl) (l0_fieldAddr_ptr rfl Try.underlying62 rfl inf60 (by rw [sz60]; decide)) ?_
        try simp only [Nat.zero_add]
        refine vb_light 1 [0, 2, 3, 4, 5, 6] rfl rfl rfl (by kernel_rfl) (by kernel_rfl) (by kernel_rfl) (by kernel_rfl) (by kernel_rfl) (wnt_none rfl) (lb_load_var hC rfl rfl rfl rfl Try.underlying60 rfl rfl) ?_
        refine vb_light0 2 rfl rfl rfl (by kernel_rfl) (by kernel_rfl) (by kernel_rfl) (wnt_none rfl) (l0_move_pv rfl) ?_
        refine vb_light0 3 rfl rfl rfl (by kernel_rfl) (by kernel_rfl) (by kernel_rfl) (wnt_none rfl) (l0_move_ptr rfl) ?_
        refine vb_any1 4 (by kernel_rfl) ?_
        refine sb_call 4 [0] hC rfl rfl (wnt_none rfl) Try.func58 rfl rfl rfl rfl rfl rfl rfl (pick_sat hc (by omega)) ?_
        rintro _ _ ⟨x85, ⟨hx850, hx851⟩, rfl, rfl⟩
        refine ⟨Nat.le_of_ble_eq_true rfl, ⟨rfl, rfl, rfl, rfl⟩, .inl rfl, ?_⟩
        refine vb_stM ?_
        refine vb_light0 5 rfl rfl rfl (by kernel_rfl) (by kernel_rfl) (by kernel_rfl) (wnt_none rfl) (l0_build S123 rfl rfl) ?_
        refine vb_stM ?_
        refine vb_ext 6 rfl (by kernel_rfl) rfl (xt_buildSlice E60 rfl rfl rfl rfl) ?_
        refine vb_stM ?_
        refine vb_one 7 rfl (by kernel_rfl) rfl ?_
        refine vo_append E60 rfl (by omega) rfl rfl rfl sd sd ?_
        refine vo_stM ?_
        try simp only [app_ints, app_intss, app_bools, app_attrs, app_attrss, app_objs, app_pairsX, List.nil_append]
        refine vo_done ⟨rfl, ?_⟩
        refine vb_light0 8 rfl rfl rfl (by kernel_rfl) (by kernel_rfl) (by kernel_rfl) (wnt_none rfl) (l0_fieldAddr_ptr rfl Try.underlying62 rfl inf60 (by rw [sz60]; decide)) ?_
        try simp only [Nat.zero_add]
        refine vb_one 9 rfl (by kernel_rfl) rfl ?_
        refine vo_store_varG rfl rfl rfl rfl inf60 sz60 rfl ?_
        refine vo_stM ?_
        refine vo_done ⟨rfl, ?_⟩
        refine vb_nil (by kernel_rfl) ?_
        refine hK26 _ ?_
        refine vc_region ?_
        refine vo_move_pv rfl rfl ?_
        refine vo_binI rfl rfl rfl rfl sd ?_
        refine vo_assign_pv rfl rfl ?_
        refine vo_nil ?_
        change againE _ _ _ _ _ _ _ _ _ _
        refine againE_mk rfl rfl rfl rfl rfl rfl ⟨_, ?_, n4 - 1, Pq ++ [(x75, x85)], _, rfl, ?_, rfl, rfl⟩
        ·omega
        ·rw [List.length_append, List.length_singleton]; omega
       ·try simp only [zq0, zq1, zq2, zq3, zq4, zq5, zq6, zq7, zq8, zq9, zqa, zqb, zqc, zqd, zqe, zqf] at hc6
        refine vc_skip ?_
        refine hK26 _ ?_
        refine vc_region ?_
        refine vo_move_pv rfl rfl ?_
        refine vo_binI rfl rfl rfl rfl sd ?_
        refine vo_assign_pv rfl rfl ?_
        refine vo_nil ?_
        change againE _ _ _ _ _ _ _ _ _ _
        refine againE_mk rfl rfl rfl rfl rfl rfl ⟨_, ?_, n4 - 1, Pq, _, rfl, ?_, rfl, rfl⟩
        ·omega
        ·omega
      ·try simp only [zq0, zq1, zq2, zq3, zq4, zq5, zq6, zq7, zq8, zq9, zqa, zqb, zqc, zqd, zqe, zqf] at hc5
       refine vc_exit ?_
       refine hK22 _ ?_
       refine vc_region ?_
       refine vo_fieldAddr_ptr rfl rfl Try.underlying33 rfl inf31 (by rw [sz31]; decide) ?_
       try simp only [Nat.zero_add]
       refine vo_load_var rfl rfl rfl Try.underlying31 rfl rfl ?_
       refine vo_load_varG rfl rfl rfl Try.underlying62 rfl inf62 sz62 rfl ?_
       refine vo_stM ?_
       refine vo_totree 9 rfl ((by first | exact plain_attrs _ | exact plain_pairsX _)) ?_
       refine vo_stM ?_
       refine vo_weaktree 9 rfl ?_
       refine vo_stM ?_
       refine vo_build_treeG (p := .agg _) E31 rfl rfl rfl rfl rfl rfl rfl hC rfl (by first | decide | simp [refsOf]) ?_
       refine vo_stM ?_
       refine vo_append_treeG E31 rfl (by omega) (by omega) rfl rfl rfl rfl rfl sd sd sd ?_
       refine vo_stM ?_
       try simp only [app_ints, app_intss, app_bools, app_attrs, app_attrss, app_objs, app_pairsX, List.nil_append]
       refine vo_fieldAddr_ptr rfl rfl Try.underlying33 rfl inf31 (by rw [sz31]; decide) ?_
       try simp only [Nat.zero_add]
       refine vo_store_varG rfl rfl rfl rfl inf31 sz31 rfl ?_
       refine vo_stM ?_
       refine vo_nil ?_
       refine hK20 _ ?_
       refine vc_region ?_
       refine vo_move_pv rfl rfl ?_
       refine vo_binI rfl rfl rfl rfl sd ?_
       refine vo_assign_pv rfl rfl ?_
       refine vo_nil ?_
       change againE _ _ _ _ _ _ _ _ _ _
       refine againE_mk rfl rfl rfl rfl rfl rfl ⟨_, ?_, n - 1, O ++ [⟨y65, Pq⟩], q4, rfl, ?_, ?_, rfl, rfl⟩
       ·omega
       ·rw [List.length_append, List.length_singleton]; omega
       ·exact app_all hO (by show Pq.length ≤ 3; omega)
     ·refine sb_ext 13 rfl rfl (xt_alloc Z62) ?_
      refine vb_stM ?_
      refine vb_any1 11 (by kernel_rfl) ?_
      refine sb_call 11 [0] hC rfl rfl (wnt_none rfl) Try.func59 rfl rfl rfl rfl rfl rfl rfl (one_sat (list := [_,_]) hc (by omega) (by simp) (by simp)) ?_
      rintro _ _ ⟨y65, hy65, rfl, rfl⟩
      refine ⟨Nat.le_of_ble_eq_true rfl, ⟨rfl, rfl, rfl, rfl⟩, .inl rfl, ?_⟩
      refine vb_stM ?_
      refine vb_light0 12 rfl rfl rfl (by kernel_rfl) (by kernel_rfl) (by kernel_rfl) (wnt_none rfl) (l0_buildG S62n rfl rfl) ?_
      refine vb_stM ?_
      refine vb_one 14 rfl (by kernel_rfl) rfl ?_
      refine vo_store_varG rfl rfl rfl rfl inf62 sz62 rfl ?_
      refine vo_stM ?_
      refine vo_done ⟨rfl, ?_⟩
      refine vb_nil (by kernel_rfl) ?_
      refine hK21 _ ?_
      refine vc_seq fun K29 hK29 => ?_
      refine vc_seq fun K30 hK30 => ?_
      refine vc_region ?_
      refine vo_move_ptr rfl rfl ?_
      refine vo_buildSlice E49 rfl rfl rfl rfl rfl ?_
      refine vo_stM ?_
      refine vo_expose 8 (by omega) rfl ?_
      refine vo_stM ?_
      refine vo_weaken 68 rfl ?_
      refine vo_stM ?_
      refine vo_call [0] Try.func59 rfl rfl rfl rfl rfl rfl rfl (one_sat (list := [_,_,_,_]) hc (by omega) (by simp) (by simp)) ?_
      rintro _ _ ⟨y69, hy69, rfl, rfl⟩
      refine ⟨Nat.le_of_ble_eq_true rfl, ⟨rfl, rfl, rfl, rfl⟩, .inl rfl, ?_⟩
      refine vo_stM ?_
      refine vo_assign_pv rfl rfl ?_
      refine vo_nil ?_
      refine hK30 _ ?_
      refine vc_block ?_
      refine vc_own_cell 7 1 E60 rfl rfl ?_
      refine vc_stM ?_
      refine vc_stM ?_
      refine vc_loopE [0, 2, 3, 8, 9] [10] [0, 9] _ _ (fun mz vs rs => ∃ (n4 : Int) (Pq : List (Int × Int)) (q4 : Nat), mz = n4.toNat ∧ ((0 ≤ n4 ∧ Pq.length + n4 ≤ 3 ∧ q4 + 3 * n4 ≤ q3 + 15)) ∧ vs = [i64 n4] ∧ rs = [rdr nl c q4, Row.own 123 2 none true (Pq.map pairP)]) (y69.toNat) rfl rfl (le_len hC rfl) ⟨rfl, rfl, rfl⟩ rfl ⟨y69, [], _, rfl, (by simp at hy69; simp; omega), rfl, rfl⟩ ?_
      rintro mz vs rs - - ⟨n4, Pq, q4, rfl, hn4, rfl, rfl⟩
      refine vc_stM ?_
      refine vc_seq fun K31 hK31 => ?_
      refine vc_seq fun K32 hK32 => ?_
      refine vc_region ?_
      refine vo_move_pv rfl rfl ?_
      refine vo_binI rfl rfl rfl rfl trivial ?_
      refine vo_nil ?_
      refine hK32 _ ?_
      refine vc_cond rfl (fun hc7 => ?_) (fun hc7 => ?_)
      ·try simp only [zq0, zq1, zq2, zq3, zq4, zq5, zq6, zq7, zq8, zq9, zqa, zqb, zqc, zqd, zqe, zqf] at hc7
       refine vc_skip ?_
       refine hK31 _ ?_
       refine vc_seq fun K33 hK33 => ?_
       refine vc_block ?_
       refine vc_seq fun K34 hK34 => ?_
       refine vc_region ?_
       refine vo_move_ptr rfl rfl ?_
       refine vo_call [0] Try.func58 rfl rfl rfl rfl rfl rfl rfl (pick_sat hc (by omega)) ?_
       rintro _ _ ⟨x75, ⟨hx750, hx751⟩, rfl, rfl⟩
       refine ⟨Nat.le_of_ble_eq_true rfl, ⟨rfl, rfl, rfl, rfl⟩, .inl rfl, ?_⟩
       refine vo_stM ?_
       refine vo_assign_pv rfl rfl ?_
       refine vo_nil ?_
       refine hK34 _ ?_
       refine vc_seq fun K35 hK35 => ?_
       refine vc_region ?_
       refine vo_fieldAddr_ptr rfl rfl Try.underlying62 rfl inf60 (by rw [sz60]; decide) ?_
       try simp only [Nat.zero_add]
       refine vo_load_var rfl rfl rfl Try.underlying60 rfl rfl ?_
       refine vo_move_pv rfl rfl ?_
       refine vo_call0 Try.func112 rfl rfl rfl rfl (pairAt_sat (by omega)) ?_
       rintro _ _ ⟨rfl, rfl⟩
       refine ⟨rfl, rfl, .inr rfl, ?_⟩
       refine vo_stM ?_
       refine vo_binI rfl rfl rfl rfl trivial ?_
       refine vo_nil ?_
       refine hK35 _ ?_
       refine vc_cond rfl (fun hc8 => ?_) (fun hc8 => ?_)
       ·try simp only [zq0, zq1, zq2, zq3, zq4, zq5, zq6, zq7, zq8, zq9, zqa, zqb, zqc, zqd, zqe, zqf] at hc8
        refine vc_drawB [7, 9] (by kernel_rfl) ?_
        change VLB [7, 9] _ _ _ 10 _ _ _
        refine vb_light0 0 rfl rfl rfl (by kernel_rfl) (by kernel_rfl) (by kernel_rfl) (wnt_none rfl) (l0_fieldAddr_ptr rfl Try.underlying62 rfl inf60 (by rw [sz60]; decide)) ?_
        try simp only [Nat.zero_add]
        refine vb_light 1 [0, 2, 3, 4, 5, 6] rfl rfl rfl (by kernel_rfl) (by kernel_rfl) (by kernel_rfl) (by kernel_rfl) (by kernel_rfl) (wnt_none rfl) (lb_load_var hC rfl rfl rfl rfl Try.underlying60 rfl rfl) ?_
        refine vb_light0 2 rfl rfl rfl (by kernel_rfl) (by kernel_rfl) (by kernel_rfl) (wnt_none rfl) (l0_move_pv rfl) ?_
        refine vb_light0 3 rfl rfl rfl (by kernel_rfl) (by kernel_rfl) (by kernel_rfl) (wnt_none rfl) (l0_move_ptr rfl) ?_
        refine vb_any1 4 (by kernel_rfl) ?_
        refine sb_call 4 [0] hC rfl rfl (wnt_none rfl) Try.func58 rfl rfl rfl rfl rfl rfl rfl (pick_sat hc (by omega)) ?_
        rintro _ _ ⟨x85, ⟨hx850, hx851⟩, rfl, rfl⟩
        refine ⟨Nat.le_of_ble_eq_true rfl, ⟨rfl, rfl, rfl, rfl⟩, .inl rfl, ?_⟩
        refine vb_stM ?_
        refine vb_light0 5 rfl rfl rfl (by kernel_rfl) (by kernel_rfl) (by kernel_rfl) (wnt_none rfl) (l0_build S123 rfl rfl) ?_
        refine vb_stM ?_
        refine vb_ext 6 rfl (by kernel_rfl) rfl (xt_buildSlice E60 rfl rfl rfl rfl) ?_
        refine vb_stM ?_
        refine vb_one 7 rfl (by kernel_rfl) rfl ?_
        refine vo_append E60 rfl (by omega) rfl rfl rfl sd sd ?_
        refine vo_stM ?_
        try simp only [app_ints, app_intss, app_bools, app_attrs, app_attrss, app_objs, app_pairsX, List.nil_append]
        refine vo_done ⟨rfl, ?_⟩
        refine vb_light0 8 rfl rfl rfl (by kernel_rfl) (by kernel_rfl) (by kernel_rfl) (wnt_none rfl) (l0_fieldAddr_ptr rfl Try.underlying62 rfl inf60 (by rw [sz60]; decide)) ?_
        try simp only [Nat.zero_add]
        refine vb_one 9 rfl (by kernel_rfl) rfl ?_
        refine vo_store_varG rfl rfl rfl rfl inf60 sz60 rfl ?_
        refine vo_stM ?_
        refine vo_done ⟨rfl, ?_⟩
        refine vb_nil (by kernel_rfl) ?_
        refine hK33 _ ?_
        refine vc_region ?_
        refine vo_move_pv rfl rfl ?_
        refine vo_binI rfl rfl rfl rfl sd ?_
        refine vo_assign_pv rfl rfl ?_
        refine vo_nil ?_
        change againE _ _ _ _ _ _ _ _ _ _
        refine againE_mk rfl rfl rfl rfl rfl rfl ⟨_, ?_, n4 - 1, Pq ++ [(x75, x85)], _, rfl, ?_, rfl, rfl⟩
        ·omega
        ·rw [List.length_append, List.length_singleton]; omega
       ·try simp only [zq0, zq1, zq2, zq3, zq4, zq5, zq6, zq7, zq8, zq9, zqa, zqb, zqc, zqd, zqe, zqf] at hc8
        refine vc_skip ?_
        refine hK33 _ ?_
        refine vc_region ?_
        refine vo_move_pv rfl rfl ?_
        refine vo_binI rfl rfl rfl rfl sd ?_
        refine vo_assign_pv rfl rfl ?_
        refine vo_nil ?_
        change againE _ _ _ _ _ _ _ _ _ _
        refine againE_mk rfl rfl rfl rfl rfl rfl ⟨_, ?_, n4 - 1, Pq, _, rfl, ?_, rfl, rfl⟩
        ·omega
        ·omega
      ·try simp only [zq0, zq1, zq2, zq3, zq4, zq5, zq6, zq7, zq8, zq9, zqa, zqb, zqc, zqd, zqe, zqf] at hc7
       refine vc_exit ?_
       refine hK29 _ ?_
       refine vc_region ?_
       refine vo_fieldAddr_ptr rfl rfl Try.underlying33 rfl inf31 (by rw [sz31]; decide) ?_
       try simp only [Nat.zero_add]
       refine vo_load_var rfl rfl rfl Try.underlying31 rfl rfl ?_
       refine vo_load_varG rfl rfl rfl Try.underlying62 rfl inf62 sz62 rfl ?_
       refine vo_stM ?_
       refine vo_totree 9 rfl ((by first | exact plain_attrs _ | exact plain_pairsX _)) ?_
       refine vo_stM ?_
       refine vo_weaktree 9 rfl ?_
       refine vo_stM ?_
       refine vo_build_treeG (p := .agg _) E31 rfl rfl rfl rfl rfl rfl rfl hC rfl (by first | decide | simp [refsOf]) ?_
       refine vo_stM ?_
       refine vo_append_treeG E31 rfl (by omega) (by omega) rfl rfl rfl rfl rfl sd sd sd ?_
       refine vo_stM ?_
       try simp only [app_ints, app_intss, app_bools, app_attrs, app_attrss, app_objs, app_pairsX, List.nil_append]
       refine vo_fieldAddr_ptr rfl rfl Try.underlying33 rfl inf31 (by rw [sz31]; decide) ?_
       try simp only [Nat.zero_add]
       refine vo_store_varG rfl rfl rfl rfl inf31 sz31 rfl ?_
       refine vo_stM ?_
       refine vo_nil ?_
       refine hK20 _ ?_
       refine vc_region ?_
       refine vo_move_pv rfl rfl ?_
       refine vo_binI rfl rfl rfl rfl sd ?_
       refine vo_assign_pv rfl rfl ?_
       refine vo_nil ?_
       change againE _ _ _ _ _ _ _ _ _ _
       refine againE_mk rfl rfl rfl rfl rfl rfl ⟨_, ?_, n - 1, O ++ [⟨y65, Pq⟩], q4, rfl, ?_, ?_, rfl, rfl⟩
       ·omega
       ·rw [List.length_append, List.length_singleton]; omega
       ·exact app_all hO (by show Pq.length ≤ 3; omega)
    ·refine sb_ext 13 rfl rfl (xt_alloc Z62) ?_
     refine vb_stM ?_
     refine vb_ext 10 rfl (by kernel_rfl) rfl (xt_buildSlice E49 rfl rfl rfl rfl) ?_
     refine vb_stM ?_
     refine vb_expose 7 (by omega) rfl ?_
     refine vb_stM ?_
     refine vb_weaken 64 rfl ?_
     refine vb_stM ?_
     refine vb_any1 11 (by kernel_rfl) ?_
     refine sb_call 11 [0] hC rfl rfl (wnt_none rfl) Try.func59 rfl rfl rfl rfl rfl rfl rfl (one_sat (list := [_,_]) hc (by omega) (by simp) (by simp)) ?_
     rintro _ _ ⟨y65, hy65, rfl, rfl⟩
     refine ⟨Nat.le_of_ble_eq_true rfl, ⟨rfl, rfl, rfl, rfl⟩, .inl rfl, ?_⟩
     refine vb_stM ?_
     refine vb_light0 12 rfl rfl rfl (by kernel_rfl) (by kernel_rfl) (by kernel_rfl) (wnt_none rfl) (l0_buildG S62n rfl rfl) ?_
     refine vb_stM ?_
     refine vb_one 14 rfl (by kernel_rfl) rfl ?_
     refine vo_store_varG rfl rfl rfl rfl inf62 sz62 rfl ?_
     refine vo_stM ?_
     refine vo_done ⟨rfl, ?_⟩
     refine vb_nil (by kernel_rfl) ?_
     refine hK21 _ ?_
     refine vc_seq fun K36 hK36 => ?_
     refine vc_seq fun K37 hK37 => ?_
     refine vc_region ?_
     refine vo_move_ptr rfl rfl ?_
     refine vo_buildSlice E49 rfl rfl rfl rfl rfl ?_
     refine vo_stM ?_
     refine vo_expose 8 (by omega) rfl ?_
     refine vo_stM ?_
     refine vo_weaken 68 rfl ?_
     refine vo_stM ?_
     refine vo_call [0] Try.func59 rfl rfl rfl rfl rfl rfl rfl (one_sat (list := [_,_,_,_]) hc (by omega) (by simp) (by simp)) ?_
     rintro _ _ ⟨y69, hy69, rfl, rfl⟩
     refine ⟨Nat.le_of_ble_eq_true rfl, ⟨rfl, rfl, rfl, rfl⟩, .inl rfl, ?_⟩
     refine vo_stM ?_
     refine vo_assign_pv rfl rfl ?_
     refine vo_nil ?_
     refine hK37 _ ?_
     refine vc_block ?_
     refine vc_own_cell 6 1 E60 rfl rfl ?_
     refine vc_stM ?_
     refine vc_stM ?_
     refine vc_loopE [0, 2, 3, 8, 9] [10] [0, 9] _ _ (fun mz vs rs => ∃ (n4 : Int) (Pq : List (Int × Int)) (q4 : Nat), mz = n4.toNat ∧ ((0 ≤ n4 ∧ Pq.length + n4 ≤ 3 ∧ q4 + 3 * n4 ≤ q3 + 15)) ∧ vs = [i64 n4] ∧ rs = [rdr nl c q4, Row.own 123 2 none true (Pq.map pairP)]) (y69.toNat) rfl rfl (le_len hC rfl) ⟨rfl, rfl, rfl⟩ rfl ⟨y69, [], _, rfl, (by simp at hy69; simp; omega), rfl, rfl⟩ ?_
     rintro mz vs rs - - ⟨n4, Pq, q4, rfl, hn4, rfl, rfl⟩
     refine vc_stM ?_
     refine vc_seq fun K38 hK38 => ?_
     refine vc_seq fun K39 hK39 => ?_
     refine vc_region ?_
     refine vo_move_pv rfl rfl ?_
     refine vo_binI rfl rfl rfl rfl trivial ?_
     refine vo_nil ?_
     refine hK39 _ ?_
     refine vc_cond rfl (fun hc9 => ?_) (fun hc9 => ?_)
     ·try simp only [zq0, zq1, zq2, zq3, zq4, zq5, zq6, zq7, zq8, zq9, zqa, zqb, zqc, zqd, zqe, zqf] at hc9
      refine vc_skip ?_
      refine hK38 _ ?_
      refine vc_seq fun K40 hK40 => ?_
      refine vc_block ?_
      refine vc_seq fun K41 hK41 => ?_
      refine vc_region ?_
      refine vo_move_ptr rfl rfl ?_
      refine vo_call [0] Try.func58 rfl rfl rfl rfl rfl rfl rfl (pick_sat hc (by omega)) ?_
      rintro _ _ ⟨x75, ⟨hx750, hx751⟩, rfl, rfl⟩
      refine ⟨Nat.le_of_ble_eq_true rfl, ⟨rfl, rfl, rfl, rfl⟩, .inl rfl, ?_⟩
      refine vo_stM ?_
      refine vo_assign_pv rfl rfl ?_
      refine vo_nil ?_
      refine hK41 _ ?_
      refine vc_seq fun K42 hK42 => ?_
      refine vc_region ?_
      refine vo_fieldAddr_ptr rfl rfl Try.underlying62 rfl inf60 (by rw [sz60]; decide) ?_
      try simp only [Nat.zero_add]
      refine vo_load_var rfl rfl rfl Try.underlying60 rfl rfl ?_
      refine vo_move_pv rfl rfl ?_
      refine vo_call0 Try.func112 rfl rfl rfl rfl (pairAt_sat (by omega)) ?_
      rintro _ _ ⟨rfl, rfl⟩
      refine ⟨rfl, rfl, .inr rfl, ?_⟩
      refine vo_stM ?_
      refine vo_binI rfl rfl rfl rfl trivial ?_
      refine vo_nil ?_
      refine hK42 _ ?_
      refine vc_cond rfl (fun hc10 => ?_) (fun hc10 => ?_)
      ·try simp only [zq0, zq1, zq2, zq3, zq4, zq5, zq6, zq7, zq8, zq9, zqa, zqb, zqc, zqd, zqe, zqf] at hc10
       refine vc_drawB [7, 9] (by kernel_rfl) ?_
       change VLB [7, 9] _ _ _ 10 _ _ _
       refine vb_light0 0 rfl rfl rfl (by kernel_rfl) (by kernel_rfl) (by kernel_rfl) (wnt_none rfl) (l0_fieldAddr_ptr rfl Try.underlying62 rfl inf60 (by rw [sz60]; decide)) ?_
       try simp only [Nat.zero_add]
       refine vb_light 1 [0, 2, 3, 4, 5, 6] rfl rfl rfl (by kernel_rfl) (by kernel_rfl) (by kernel_rfl) (by kernel_rfl) (by kernel_rfl) (wnt_none rfl) (lb_load_var hC rfl rfl rfl rfl Try.underlying60 rfl rfl) ?_
       refine vb_light0 2 rfl rfl rfl (by kernel_rfl) (by kernel_rfl) (by kernel_rfl) (wnt_none rfl) (l0_move_pv rfl) ?_
       refine vb_light0 3 rfl rfl rfl (by kernel_rfl) (by kernel_rfl) (by kernel_rfl) (wnt_none rfl) (l0_move_ptr rfl) ?_
       refine vb_any1 4 (by kernel_rfl) ?_
       refine sb_call 4 [0] hC rfl rfl (wnt_none rfl) Try.func58 rfl rfl rfl rfl rfl rfl rfl (pick_sat hc (by omega)) ?_
       rintro _ _ ⟨x85, ⟨hx850, hx851⟩, rfl, rfl⟩
       refine ⟨Nat.le_of_ble_eq_true rfl, ⟨rfl, rfl, rfl, rfl⟩, .inl rfl, ?_⟩
       refine vb_stM ?_
       refine vb_light0 5 rfl rfl rfl (by kernel_rfl) (by kernel_rfl) (by kernel_rfl) (wnt_none rfl) (l0_build S123 rfl rfl) ?_
       refine vb_stM ?_
       refine vb_ext 6 rfl (by kernel_rfl) rfl (xt_buildSlice E60 rfl rfl rfl rfl) ?_
       refine vb_stM ?_
       refine vb_one 7 rfl (by kernel_rfl) rfl ?_
       refine vo_append E60 rfl (by omega) rfl rfl rfl sd sd ?_
       refine vo_stM ?_
       try simp only [app_ints, app_intss, app_bools, app_attrs, app_attrss, app_objs, app_pairsX, List.nil_append]
       refine vo_done ⟨rfl, ?_⟩
       refine vb_light0 8 rfl rfl rfl (by kernel_rfl) (by kernel_rfl) (by kernel_rfl) (wnt_none rfl) (l0_fieldAddr_ptr rfl Try.underlying62 rfl inf60 (by rw [sz60]; decide)) ?_
       try simp only [Nat.zero_add]
       refine vb_one 9 rfl (by kernel_rfl) rfl ?_
       refine vo_store_varG rfl rfl rfl rfl inf60 sz60 rfl ?_
       refine vo_stM ?_
       refine vo_done ⟨rfl, ?_⟩
       refine vb_nil (by kernel_rfl) ?_
       refine hK40 _ ?_
       refine vc_region ?_
       refine vo_move_pv rfl rfl ?_
       refine vo_binI rfl rfl rfl rfl sd ?_
       refine vo_assign_pv rfl rfl ?_
       refine vo_nil ?_
       change againE _ _ _ _ _ _ _ _ _ _
       refine againE_mk rfl rfl rfl rfl rfl rfl ⟨_, ?_, n4 - 1, Pq ++ [(x75, x85)], _, rfl, ?_, rfl, rfl⟩
       ·omega
       ·rw [List.length_append, List.length_singleton]; omega
      ·try simp only [zq0, zq1, zq2, zq3, zq4, zq5, zq6, zq7, zq8, zq9, zqa, zqb, zqc, zqd, zqe, zqf] at hc10
       refine vc_skip ?_
       refine hK40 _ ?_
       refine vc_region ?_
       refine vo_move_pv rfl rfl ?_
       refine vo_binI rfl rfl rfl rfl sd ?_
       refine vo_assign_pv rfl rfl ?_
       refine vo_nil ?_
       change againE _ _ _ _ _ _ _ _ _ _
       refine againE_mk rfl rfl rfl rfl rfl rfl ⟨_, ?_, n4 - 1, Pq, _, rfl, ?_, rfl, rfl⟩
       ·omega
       ·omega
     ·try simp only [zq0, zq1, zq2, zq3, zq4, zq5, zq6, zq7, zq8, zq9, zqa, zqb, zqc, zqd, zqe, zqf] at hc9
      refine vc_exit ?_
      refine hK36 _ ?_
      refine vc_region ?_
      refine vo_fieldAddr_ptr rfl rfl Try.underlying33 rfl inf31 (by rw [sz31]; decide) ?_
      try simp only [Nat.zero_add]
      refine vo_load_var rfl rfl rfl Try.underlying31 rfl rfl ?_
      refine vo_load_varG rfl rfl rfl Try.underlying62 rfl inf62 sz62 rfl ?_
      refine vo_stM ?_
      refine vo_totree 9 rfl ((by first | exact plain_attrs _ | exact plain_pairsX _)) ?_
      refine vo_stM ?_
      refine vo_weaktree 9 rfl ?_
      refine vo_stM ?_
      refine vo_build_treeG (p := .agg _) E31 rfl rfl rfl rfl rfl rfl rfl hC rfl (by first | decide | simp [refsOf]) ?_
      refine vo_stM ?_
      refine vo_append_treeG E31 rfl (by omega) (by omega) rfl rfl rfl rfl rfl sd sd sd ?_
      refine vo_stM ?_
      try simp only [app_ints, app_intss, app_bools, app_attrs, app_attrss, app_objs, app_pairsX, List.nil_append]
      refine vo_fieldAddr_ptr rfl rfl Try.underlying33 rfl inf31 (by rw [sz31]; decide) ?_
      try simp only [Nat.zero_add]
      refine vo_store_varG rfl rfl rfl rfl inf31 sz31 rfl ?_
      refine vo_stM ?_
      refine vo_nil ?_
      refine hK20 _ ?_
      refine vc_region ?_
      refine vo_move_pv rfl rfl ?_
      refine vo_binI rfl rfl rfl rfl sd ?_
      refine vo_assign_pv rfl rfl ?_
      refine vo_nil ?_
      change againE _ _ _ _ _ _ _ _ _ _
      refine againE_mk rfl rfl rfl rfl rfl rfl ⟨_, ?_, n - 1, O ++ [⟨y65, Pq⟩], q4, rfl, ?_, ?_, rfl, rfl⟩
      ·omega
      ·rw [List.length_append, List.length_singleton]; omega
      ·exact app_all hO (by show Pq.length ≤ 3; omega)
   ·refine sb_ext 13 rfl rfl (xt_alloc Z62) ?_
    refine vb_stM ?_
    refine vb_any1 9 (by kernel_rfl) ?_
    refine sb_call 9 [0] hC rfl rfl (wnt_none rfl) Try.func58 rfl rfl rfl rfl rfl rfl rfl (pick_sat hc (by omega)) ?_
    rintro _ _ ⟨x63, ⟨hx630, hx631⟩, rfl, rfl⟩
    refine ⟨Nat.le_of_ble_eq_true rfl, ⟨rfl, rfl, rfl, rfl⟩, .inl rfl, ?_⟩
    refine vb_stM ?_
    refine vb_ext 10 rfl (by kernel_rfl) rfl (xt_buildSlice E49 rfl rfl rfl rfl) ?_
    refine vb_stM ?_
    refine vb_expose 7 (by omega) rfl ?_
    refine vb_stM ?_
    refine vb_weaken 64 rfl ?_
    refine vb_stM ?_
    refine vb_any1 11 (by kernel_rfl) ?_
    refine sb_call 11 [0] hC rfl rfl (wnt_none rfl) Try.func59 rfl rfl rfl rfl rfl rfl rfl (one_sat (list := [_,_]) hc (by omega) (by simp) (by simp)) ?_
    rintro _ _ ⟨y65, hy65, rfl, rfl⟩
    refine ⟨Nat.le_of_ble_eq_true rfl, ⟨rfl, rfl, rfl, rfl⟩, .inl rfl, ?_⟩
    refine vb_stM ?_
    refine vb_light0 12 rfl rfl rfl (by kernel_rfl) (by kernel_rfl) (by kernel_rfl) (wnt_none rfl) (l0_buildG S62n rfl rfl) ?_
    refine vb_stM ?_
    refine vb_one 14 rfl (by kernel_rfl) rfl ?_
    refine vo_store_varG rfl rfl rfl rfl inf62 sz62 rfl ?_
    refine vo_stM ?_
    refine vo_done ⟨rfl, ?_⟩
    refine vb_nil (by kernel_rfl) ?_
    refine hK21 _ ?_
    refine vc_seq fun K43 hK43 => ?_
    refine vc_seq fun K44 hK44 => ?_
    refine vc_region ?_
    refine vo_move_ptr rfl rfl ?_
    refine vo_buildSlice E49 rfl rfl rfl rfl rfl ?_
    refine vo_stM ?_
    refine vo_expose 8 (by omega) rfl ?_
    refine vo_stM ?_
    refine vo_weaken 68 rfl ?_
    refine vo_stM ?_
    refine vo_call [0] Try.func59 rfl rfl rfl rfl rfl rfl rfl (one_sat (list := [_,_,_,_]) hc (by omega) (by simp) (by simp)) ?_
    rintro _ _ ⟨y69, hy69, rfl, rfl⟩
    refine ⟨Nat.le_of_ble_eq_true rfl, ⟨rfl, rfl, rfl, rfl⟩, .inl rfl, ?_⟩
    refine vo_stM ?_
    refine vo_assign_pv rfl rfl ?_
    refine vo_nil ?_
    refine hK44 _ ?_
    refine vc_block ?_
    refine vc_own_cell 6 1 E60 rfl rfl ?_
    refine vc_stM ?_
    refine vc_stM ?_
    refine vc_loopE [0, 2, 3, 8, 9] [10] [0, 9] _ _ (fun mz vs rs => ∃ (n4 : Int) (Pq : List (Int × Int)) (q4 : Nat), mz = n4.toNat ∧ ((0 ≤ n4 ∧ Pq.length + n4 ≤ 3 ∧ q4 + 3 * n4 ≤ q3 + 15)) ∧ vs = [i64 n4] ∧ rs = [rdr nl c q4, Row.own 123 2 none true (Pq.map pairP)]) (y69.toNat) rfl rfl (le_len hC rfl) ⟨rfl, rfl, rfl⟩ rfl ⟨y69, [], _, rfl, (by simp at hy69; simp; omega), rfl, rfl⟩ ?_
    rintro mz vs rs - - ⟨n4, Pq, q4, rfl, hn4, rfl, rfl⟩
    refine vc_stM ?_
    refine vc_seq fun K45 hK45 => ?_
    refine vc_seq fun K46 hK46 => ?_
    refine vc_region ?_
    refine vo_move_pv rfl rfl ?_
    refine vo_binI rfl rfl rfl rfl trivial ?_
    refine vo_nil ?_
    refine hK46 _ ?_
    refine vc_cond rfl (fun hc11 => ?_) (fun hc11 => ?_)
    ·try simp only [zq0, zq1, zq2, zq3, zq4, zq5, zq6, zq7, zq8, zq9, zqa, zqb, zqc, zqd, zqe, zqf] at hc11
     refine vc_skip ?_
     refine hK45 _ ?_
     refine vc_seq fun K47 hK47 => ?_
     refine vc_block ?_
     refine vc_seq fun K48 hK48 => ?_
     refine vc_region ?_
     refine vo_move_ptr rfl rfl ?_
     refine vo_call [0] Try.func58 rfl rfl rfl rfl rfl rfl rfl (pick_sat hc (by omega)) ?_
     rintro _ _ ⟨x75, ⟨hx750, hx751⟩, rfl, rfl⟩
     refine ⟨Nat.le_of_ble_eq_true rfl, ⟨rfl, rfl, rfl, rfl⟩, .inl rfl, ?_⟩
     refine vo_stM ?_
     refine vo_assign_pv rfl rfl ?_
     refine vo_nil ?_
     refine hK48 _ ?_
     refine vc_seq fun K49 hK49 => ?_
     refine vc_region ?_
     refine vo_fieldAddr_ptr rfl rfl Try.underlying62 rfl inf60 (by rw [sz60]; decide) ?_
     try simp only [Nat.zero_add]
     refine vo_load_var rfl rfl rfl Try.underlying60 rfl rfl ?_
     refine vo_move_pv rfl rfl ?_
     refine vo_call0 Try.func112 rfl rfl rfl rfl (pairAt_sat (by omega)) ?_
     rintro _ _ ⟨rfl, rfl⟩
     refine ⟨rfl, rfl, .inr rfl, ?_⟩
     refine vo_stM ?_
     refine vo_binI rfl rfl rfl rfl trivial ?_
     refine vo_nil ?_
     refine hK49 _ ?_
     refine vc_cond rfl (fun hc12 => ?_) (fun hc12 => ?_)
     ·try simp only [zq0, zq1, zq2, zq3, zq4, zq5, zq6, zq7, zq8, zq9, zqa, zqb, zqc, zqd, zqe, zqf] at hc12
      refine vc_drawB [7, 9] (by kernel_rfl) ?_
      change VLB [7, 9] _ _ _ 10 _ _ _
      refine vb_light0 0 rfl rfl rfl (by kernel_rfl) (by kernel_rfl) (by kernel_rfl) (wnt_none rfl) (l0_fieldAddr_ptr rfl Try.underlying62 rfl inf60 (by rw [sz60]; decide)) ?_
      try simp only [Nat.zero_add]
      refine vb_light 1 [0, 2, 3, 4, 5, 6] rfl rfl rfl (by kernel_rfl) (by kernel_rfl) (by kernel_rfl) (by kernel_rfl) (by kernel_rfl) (wnt_none rfl) (lb_load_var hC rfl rfl rfl rfl Try.underlying60 rfl rfl) ?_
      refine vb_light0 2 rfl rfl rfl (by kernel_rfl) (by kernel_rfl) (by kernel_rfl) (wnt_none rfl) (l0_move_pv rfl) ?_
      refine vb_light0 3 rfl rfl rfl (by kernel_rfl) (by kernel_rfl) (by kernel_rfl) (wnt_none rfl) (l0_move_ptr rfl) ?_
      refine vb_any1 4 (by kernel_rfl) ?_
      refine sb_call 4 [0] hC rfl rfl (wnt_none rfl) Try.func58 rfl rfl rfl rfl rfl rfl rfl (pick_sat hc (by omega)) ?_
      rintro _ _ ⟨x85, ⟨hx850, hx851⟩, rfl, rfl⟩
      refine ⟨Nat.le_of_ble_eq_true rfl, ⟨rfl, rfl, rfl, rfl⟩, .inl rfl, ?_⟩
      refine vb_stM ?_
      refine vb_light0 5 rfl rfl rfl (by kernel_rfl) (by kernel_rfl) (by kernel_rfl) (wnt_none rfl) (l0_build S123 rfl rfl) ?_
      refine vb_stM ?_
      refine vb_ext 6 rfl (by kernel_rfl) rfl (xt_buildSlice E60 rfl rfl rfl rfl) ?_
      refine vb_stM ?_
      refine vb_one 7 rfl (by kernel_rfl) rfl ?_
      refine vo_append E60 rfl (by omega) rfl rfl rfl sd sd ?_
      refine vo_stM ?_
      try simp only [app_ints, app_intss, app_bools, app_attrs, app_attrss, app_objs, app_pairsX, List.nil_append]
      refine vo_done ⟨rfl, ?_⟩
      refine vb_light0 8 rfl rfl rfl (by kernel_rfl) (by kernel_rfl) (by kernel_rfl) (wnt_none rfl) (l0_fieldAddr_ptr rfl Try.underlying62 rfl inf60 (by rw [sz60]; decide)) ?_
      try simp only [Nat.zero_add]
      refine vb_one 9 rfl (by kernel_rfl) rfl ?_
      refine vo_store_varG rfl rfl rfl rfl inf60 sz60 rfl ?_
      refine vo_stM ?_
      refine vo_done ⟨rfl, ?_⟩
      refine vb_nil (by kernel_rfl) ?_
      refine hK47 _ ?_
      refine vc_region ?_
      refine vo_move_pv rfl rfl ?_
      refine vo_binI rfl rfl rfl rfl sd ?_
      refine vo_assign_pv rfl rfl ?_
      refine vo_nil ?_
      change againE _ _ _ _ _ _ _ _ _ _
      refine againE_mk rfl rfl rfl rfl rfl rfl ⟨_, ?_, n4 - 1, Pq ++ [(x75, x85)], _, rfl, ?_, rfl, rfl⟩
      ·omega
      ·rw [List.length_append, List.length_singleton]; omega
     ·try simp only [zq0, zq1, zq2, zq3, zq4, zq5, zq6, zq7, zq8, zq9, zqa, zqb, zqc, zqd, zqe, zqf] at hc12
      refine vc_skip ?_
      refine hK47 _ ?_
      refine vc_region ?_
      refine vo_move_pv rfl rfl ?_
      refine vo_binI rfl rfl rfl rfl sd ?_
      refine vo_assign_pv rfl rfl ?_
      refine vo_nil ?_
      change againE _ _ _ _ _ _ _ _ _ _
      refine againE_mk rfl rfl rfl rfl rfl rfl ⟨_, ?_, n4 - 1, Pq, _, rfl, ?_, rfl, rfl⟩
      ·omega
      ·omega
    ·try simp only [zq0, zq1, zq2, zq3, zq4, zq5, zq6, zq7, zq8, zq9, zqa, zqb, zqc, zqd, zqe, zqf] at hc11
     refine vc_exit ?_
     refine hK43 _ ?_
     refine vc_region ?_
     refine vo_fieldAddr_ptr rfl rfl Try.underlying33 rfl inf31 (by rw [sz31]; decide) ?_
     try simp only [Nat.zero_add]
     refine vo_load_var rfl rfl rfl Try.underlying31 rfl rfl ?_
     refine vo_load_varG rfl rfl rfl Try.underlying62 rfl inf62 sz62 rfl ?_
     refine vo_stM ?_
     refine vo_totree 9 rfl ((by first | exact plain_attrs _ | exact plain_pairsX _)) ?_
     refine vo_stM ?_
     refine vo_weaktree 9 rfl ?_
     refine vo_stM ?_
     refine vo_build_treeG (p := .agg _) E31 rfl rfl rfl rfl rfl rfl rfl hC rfl (by first | decide | simp [refsOf]) ?_
     refine vo_stM ?_
     refine vo_append_treeG E31 rfl (by omega) (by omega) rfl rfl rfl rfl rfl sd sd sd ?_
     refine vo_stM ?_
     try simp only [app_ints, app_intss, app_bools, app_attrs, app_attrss, app_objs, app_pairsX, List.nil_append]
     refine vo_fieldAddr_ptr rfl rfl Try.underlying33 rfl inf31 (by rw [sz31]; decide) ?_
     try simp only [Nat.zero_add]
     refine vo_store_varG rfl rfl rfl rfl inf31 sz31 rfl ?_
     refine vo_stM ?_
     refine vo_nil ?_
     refine hK20 _ ?_
     refine vc_region ?_
     refine vo_move_pv rfl rfl ?_
     refine vo_binI rfl rfl rfl rfl sd ?_
     refine vo_assign_pv rfl rfl ?_
     refine vo_nil ?_
     change againE _ _ _ _ _ _ _ _ _ _
     refine againE_mk rfl rfl rfl rfl rfl rfl ⟨_, ?_, n - 1, O ++ [⟨y65, Pq⟩], q4, rfl, ?_, ?_, rfl, rfl⟩
     ·omega
     ·rw [List.length_append, List.length_singleton]; omega
     ·exact app_all hO (by show Pq.length ≤ 3; omega)
  ·try simp only [zq0, zq1, zq2, zq3, zq4, zq5, zq6, zq7, zq8, zq9, zqa, zqb, zqc, zqd, zqe, zqf] at hc4
   refine vc_exit ?_
   refine hK16 _ ?_
   refine vc_seq fun K50 hK50 => ?_
   refine vc_region ?_
   refine vo_load_varG rfl rfl rfl Try.underlying33 rfl inf33 sz33 rfl ?_
   refine vo_stM ?_
   refine vo_store_varG rfl rfl rfl rfl inf33 sz33 rfl ?_
   refine vo_stM ?_
   refine vo_nil ?_
   refine hK50 _ ?_
   refine vc_ret ?_
   change retQ _ _ _ _ _
   refine retQ_sel [3, 5] (srows := [_, _]) (.inr rfl) hC rfl rfl rfl rfl rfl rfl rfl ?_
   exact ⟨⟨B, A, O⟩, _, _, ⟨⟨⟨by omega, by omega, hB3⟩, ⟨by show A.length = B.length; omega, hA⟩, by show O.length ≤ 3; omega, hO⟩, by omega⟩, rfl, rfl⟩

end Go.Vl

namespace Go.Vl
set_option linter.unusedVariables false
set_option linter.unusedSimpArgs false
open Go.Proofs

end Go.Vl

namespace Go.Vl
set_option linter.unusedVariables false
set_option linter.unusedSimpArgs false
open Go.Proofs

theorem orderOf_satI {nl0 : Option Bool} {bases : List (List Int)} {c : Int} (hbases : bases.length < 1000000000) (hlbases : ∀ l ∈ bases, l.length < 1000000000) (hv : VB bases) (h0 : 0 ≤ c) (h1 : c < bases.length) : SatAt Try.prog 108 [.pv false (.sl nl0 1 (bases.map ints)), i64 c] [] (fun res rows => ∃ nl, res = [.ref 0] ∧ rows = [Row.own 3 1 nl true ((ordM bases c.toNat).map intP)]) := by
 obtain ⟨n, rfl⟩ := Int.eq_ofNat_of_zero_le h0
 exact orderOf_sat hbases hlbases hv n (by omega)
end Go.Vl

namespace Go.Vl
set_option linter.unusedVariables false
set_option linter.unusedSimpArgs false
open Go.Proofs

theorem ownM_yes {w : WorldM} {c name : Int} (hv : VWorld w ∧ 0 ≤ c ∧ c ≤ (w.bases.length : Int) - 1) : ownM w c name = ownrs w.attrs name (ordM w.bases c.toNat) := by unfold ownM; rw [if_pos hv]

theorem owners_sat {w : WorldM} {c : Int} {name : Int}  (hw : SW w) (hV : VWorld w) (h0 : 0 ≤ c) (h1 : c ≤ (w.bases.length : Int) - 1) : SatAt Try.prog 72 [.pv false (worldP w), i64 c, i64 name] [] (fun res rows => res = [.ref 0] ∧ rows = [Row.own 3 1 (some false) true ((ownrs w.attrs name ((ordM w.bases c.toNat))).map intP)]) := by
 have hw0 := hw
 obtain ⟨⟨b1, b2⟩, ⟨a1, a2⟩, o1, o2⟩ := hw
 have hoi := ordIn_of hV h0 h1
 have hol := ordM_len hV.1.1 (show c.toNat < w.bases.length by omega)
 refine sat_entry_G (rs := [(6, none)]) Try.func72 rfl rfl (Nat.le_of_ble_eq_true rfl) (Nat.le_of_ble_eq_true rfl) (resTs1 trivial) fun C hC => ?_
 rw [Try.ntmps72]
 replace hC : C.nb = 0 := hC
 refine vc_seq fun K1 hK1 => ?_
 refine vc_region ?_
 refine vo_box rfl rfl ?_
 refine vo_stM ?_
 refine vo_assign_pv rfl rfl ?_
 refine vo_nil ?_
 refine hK1 _ ?_
 refine vc_seq fun K2 hK2 => ?_
 refine vc_region ?_
 refine vo_buildSlice E49 rfl rfl rfl rfl rfl ?_
 refine vo_stM ?_
 refine vo_assign_ref rfl rfl ?_
 refine vo_nil ?_
 refine hK2 _ ?_
 refine vc_seq fun K3 hK3 => ?_
 refine vc_region ?_
 refine vo_fieldAddr_ptr rfl rfl Try.underlying33 rfl inf22 (by rw [sz22]; decide) ?_
 try simp only [Nat.zero_add]
 refine vo_load_var rfl rfl rfl Try.underlying22 rfl rfl ?_
 refine vo_move_pv rfl rfl ?_
 refine vo_call [] Try.func108 rfl rfl rfl rfl rfl rfl rfl (orderOf_satI (by omega) (fun l hl => by have := b2 l hl; omega) hV.1.1 h0 (by omega)) ?_
 rintro _ _ ⟨nlo, rfl, rfl⟩
 refine ⟨Nat.le_of_ble_eq_true rfl, ⟨rfl, rfl, rfl, rfl⟩, .inl rfl, ?_⟩
 refine vo_stM ?_
 refine vo_assign_ref rfl rfl ?_
 refine vo_nil ?_
 refine hK3 _ ?_
 refine vc_seq fun K4 hK4 => ?_
 refine vc_seq fun K5 hK5 => ?_
 refine vc_region ?_
 refine vo_assign_pv rfl rfl ?_
 refine vo_nil ?_
 refine hK5 _ ?_
 refine vc_block ?_
 refine vc_stM ?_
 refine vc_loopE [2, 3, 8] [7, 9] [1] _ _ (fun mz vs rs => ∃ (k : Nat), mz = (ordM w.bases c.toNat).length - k ∧ (k ≤ (ordM w.bases c.toNat).length) ∧ vs = [.ref 1, i64 k] ∧ rs = [Row.own 3 1 (some false) true ((ownrs w.attrs name ((ordM w.bases c.toNat).take k)).map intP)]) ((ordM w.bases c.toNat).length) rfl rfl (le_len hC rfl) ⟨rfl, rfl, rfl⟩ rfl ⟨0, rfl, Nat.zero_le _, rfl, rfl⟩ ?_
 rintro mz vs rs - - ⟨k, rfl, hk, rfl, rfl⟩
 refine vc_stM ?_
 have hrl := ownrs_len w.attrs name ((ordM w.bases c.toNat).take k)
 rw [List.length_take] at hrl
 refine vc_seq fun K6 hK6 => ?_
 refine vc_seq fun K7 hK7 => ?_
 refine vc_region ?_
 refine vo_move_pv rfl rfl ?_
 refine vo_move_ref rfl rfl ?_
 refine vo_len_ref rfl rfl rfl Try.underlying49 ?_
 refine vo_binI rfl rfl rfl rfl trivial ?_
 refine vo_nil ?_
 refine hK7 _ ?_
 refine vc_cond rfl (fun hc1 => ?_) (fun hc1 => ?_)
 ·try simp only [zq0, zq1, zq2, zq3, zq4, zq5, zq6, zq7, zq8, zq9, zqa, zqb, zqc, zqd, zqe, zqf] at hc1
  have hin := hoi.2 _ (getD_mem (show k < (ordM w.bases c.toNat).length by omega) 0)
  have hak := (getD_all (p := fun l : List AttrM => l.length ≤ 2000000) a2 [] (by simp) ((ordM w.bases c.toNat).getD k 0).toNat)
  refine vc_skip ?_
  refine hK6 _ ?_
  refine vc_seq fun K8 hK8 => ?_
  refine vc_block ?_
  refine vc_seq fun K9 hK9 => ?_
  refine vc_draw (by kernel_rfl) ?_
  change VD _ _ _ 11 _ _ _
  refine vd_light 0 rfl rfl rfl (by kernel_rfl) (by kernel_rfl) (by kernel_rfl) (wnt_none rfl) (lt_fieldAddr_ptr rfl Try.underlying33 rfl inf30 (by rw [sz30]; decide)) ?_
  try simp only [Nat.zero_add]
  refine vd_light 1 rfl rfl rfl (by kernel_rfl) (by kernel_rfl) (by kernel_rfl) (wnt_none rfl) (lt_load_var rfl rfl Try.underlying30 rfl rfl) ?_
  refine vd_light 2 rfl rfl rfl (by kernel_rfl) (by kernel_rfl) (by kernel_rfl) (wnt_none rfl) (lt_move_ref rfl) ?_
  refine vd_light 3 rfl rfl rfl (by kernel_rfl) (by kernel_rfl) (by kernel_rfl) (wnt_none rfl) (lt_move_pv rfl) ?_
  refine vd_light 4 rfl rfl rfl (by kernel_rfl) (by kernel_rfl) (by kernel_rfl) (wnt_none rfl) (lt_index_ref rfl rfl rfl E49.und inf3 sz3 sd sd) ?_
  try simp only [Int.toNat_natCast]
  refine vd_light 5 rfl rfl rfl (by kernel_rfl) (by kernel_rfl) (by kernel_rfl) (wnt_none rfl) (lt_load_own rfl rfl Try.underlying3 rfl sd (getD_ints _ _) rfl) ?_
  try simp only [Int.toNat_natCast]
  refine vd_light 6 rfl rfl rfl (by kernel_rfl) (by kernel_rfl) (by kernel_rfl) (wnt_none rfl) (lt_index_pv (.sl none 3 []) rfl rfl E30.und inf63 sz63 sd sd) ?_
  simp only [Int.toNat_natCast, Int.toNat_zero, getD_ints, getD_intss, getD_bools, getD_bytes, PV.cells, getD_ops, getD_pairs, getD_insts, getD_attrs, getD_attrss, getD_objs, getD_ordP]
  refine vd_light 7 rfl rfl rfl (by kernel_rfl) (by kernel_rfl) (by kernel_rfl) (wnt_none rfl) (lt_load_adr rfl Try.underlying63 rfl) ?_
  refine vd_light 8 rfl rfl rfl (by kernel_rfl) (by kernel_rfl) (by kernel_rfl) (wnt_none rfl) (lt_move_pv rfl) ?_
  refine vd_call 9 rfl (by kernel_rfl) (wnt_none rfl) Try.func85 rfl rfl rfl rfl (attrAt_sat (by omega)) ?_
  rintro _ _ ⟨rfl, rfl⟩
  refine ⟨rfl, rfl, .inl rfl, ?_⟩
  refine vd_stM ?_
  refine vd_light 10 rfl rfl rfl (by kernel_rfl) (by kernel_rfl) (by kernel_rfl) (wnt_none rfl) (lt_binI rfl rfl rfl trivial) ?_
  refine vd_nil (by kernel_rfl) ?_
  refine hK9 _ ?_
  refine vc_cond rfl (fun hc2 => ?_) (fun hc2 => ?_)
  ·try simp only [zq0, zq1, zq2, zq3, zq4, zq5, zq6, zq7, zq8, zq9, zqa, zqb, zqc, zqd, zqe, zqf] at hc2
   refine vc_region ?_
   refine vo_move_ref rfl rfl ?_
   refine vo_move_ref rfl rfl ?_
   refine vo_move_pv rfl rfl ?_
   refine vo_index_ref rfl rfl rfl rfl E49.und inf3 sz3 sd sd ?_
   try simp only [Int.toNat_natCast]
   refine vo_load_own rfl rfl rfl Try.underlying3 rfl sd (getD_ints _ _) rfl ?_
   try simp only [Int.toNat_natCast]
   refine vo_buildSlice E49 rfl rfl rfl rfl rfl ?_
   refine vo_stM ?_
   refine vo_append E49 rfl (by omega) rfl rfl rfl sd sd ?_
   refine vo_stM ?_
   try simp only [app_ints, app_intss, app_bools]
   refine vo_assign_ref rfl rfl ?_
   refine vo_nil ?_
   refine hK8 _ ?_
   refine vc_region ?_
   refine vo_move_pv rfl rfl ?_
   refine vo_binI rfl rfl rfl rfl sd ?_
   refine vo_assign_pv rfl rfl ?_
   refine vo_nil ?_
   change againE _ _ _ _ _ _ _ _ _ _
   refine againE_mk rfl rfl rfl rfl rfl rfl ⟨_, ?_, k + 1, rfl, ?_, rfl, (by rw [ownrs_yes (by omega) (by omega)]; rfl)⟩
   ·omega
   ·omega
  ·try simp only [zq0, zq1, zq2, zq3, zq4, zq5, zq6, zq7, zq8, zq9, zqa, zqb, zqc, zqd, zqe, zqf] at hc2
   refine vc_skip ?_
   refine hK8 _ ?_
   refine vc_region ?_
   refine vo_move_pv rfl rfl ?_
   refine vo_binI rfl rfl rfl rfl sd ?_
   refine vo_assign_pv rfl rfl ?_
   refine vo_nil ?_
   change againE _ _ _ _ _ _ _ _ _ _
   refine againE_mk rfl rfl rfl rfl rfl rfl ⟨_, ?_, k + 1, rfl, ?_, rfl, (by rw [ownrs_no (by omega) (by omega)]; rfl)⟩
   ·omega
   ·omega
 ·try simp only [zq0, zq1, zq2, zq3, zq4, zq5, zq6, zq7, zq8, zq9, zqa, zqb, zqc, zqd, zqe, zqf] at hc1
  refine vc_exit ?_
  refine hK4 _ ?_
  refine vc_seq fun K10 hK10 => ?_
  refine vc_region ?_
  refine vo_move_ref rfl rfl ?_
  refine vo_assign_ref rfl rfl ?_
  refine vo_nil ?_
  refine hK10 _ ?_
  refine vc_ret ?_
  change retQ _ _ _ _ _
  refine retQ_sel [1] (srows := [_]) (.inr rfl) hC rfl rfl rfl rfl rfl rfl rfl ?_
  rw [show (ordM w.bases c.toNat).take k = (ordM w.bases c.toNat) from take_all (by omega)]; exact ⟨rfl, rfl⟩


theorem ownersOwn_sat {w : WorldM} {c : Int} {name : Int}  (hw : SW w) : SatAt Try.prog 21 [.pv false (worldP w), i64 c, i64 name] [] (fun res rows => ∃ nl, res = [.ref 0] ∧ rows = [Row.own 3 1 nl true ((ownM w c name).map intP)]) := by
 have hw0 := hw
 obtain ⟨⟨b1, b2⟩, ⟨a1, a2⟩, o1, o2⟩ := hw
 refine sat_entry_G (rs := [(6, none)]) Try.func21 rfl rfl (Nat.le_of_ble_eq_true rfl) (Nat.le_of_ble_eq_true rfl) (resTs1 trivial) fun C hC => ?_
 rw [Try.ntmps21]
 replace hC : C.nb = 0 := hC
 refine vc_seq fun K1 hK1 => ?_
 refine vc_region ?_
 refine vo_box rfl rfl ?_
 refine vo_stM ?_
 refine vo_assign_pv rfl rfl ?_
 refine vo_own_nil 6 E49 rfl ?_
 refine vo_nil ?_
 refine hK1 _ ?_
 refine vc_seq fun K2 hK2 => ?_
 refine vc_seq fun K3 hK3 => ?_
 refine vc_region ?_
 refine vo_load_varS rfl rfl rfl Try.underlying33 rfl inf33 sz33 rfl rfl ?_
 refine vo_move_pv rfl rfl ?_
 refine vo_call0 Try.func40 rfl rfl rfl rfl (hasClassIn_sat hw0) ?_
 rintro _ _ ⟨rfl, rfl⟩
 refine ⟨rfl, rfl, .inl rfl, ?_⟩
 refine vo_stM ?_
 refine vo_not rfl rfl ?_
 refine vo_nil ?_
 refine hK3 _ ?_
 refine vc_cond rfl (fun hc1 => ?_) (fun hc1 => ?_)
 ·try simp only [zq0, zq1, zq2, zq3, zq4, zq5, zq6, zq7, zq8, zq9, zqa, zqb, zqc, zqd, zqe, zqf] at hc1
  refine vc_seq fun K4 hK4 => ?_
  refine vc_region ?_
  refine vo_assign_pv rfl rfl ?_
  refine vo_own_nil 6 E49 rfl ?_
  refine vo_nil ?_
  refine hK4 _ ?_
  refine vc_ret ?_
  change retQ _ _ _ _ _
  refine retQ_sel [2] (srows := [_]) (.inr rfl) hC rfl rfl rfl rfl rfl rfl rfl ?_
  have e : ownM w c name = [] := by unfold ownM; rw [if_neg (by assumption)]
  rw [e]; exact ⟨_, rfl, rfl⟩
 ·try simp only [zq0, zq1, zq2, zq3, zq4, zq5, zq6, zq7, zq8, zq9, zqa, zqb, zqc, zqd, zqe, zqf] at hc1
  have htl := ordT_len w.bases (c.toNat + 1)
  have hoi := ordIn_of hc1.1 hc1.2.1 hc1.2.2
  have hol := ordM_len hc1.1.1.1 (show c.toNat < w.bases.length by omega)
  refine vc_skip ?_
  refine hK2 _ ?_
  refine vc_seq fun K5 hK5 => ?_
  refine vc_region ?_
  refine vo_assign_pv rfl rfl ?_
  refine vo_nil ?_
  refine hK5 _ ?_
  refine vc_seq fun K6 hK6 => ?_
  refine vc_seq fun K7 hK7 => ?_
  refine vc_region ?_
  refine vo_fieldAddr_ptr rfl rfl Try.underlying33 rfl inf22 (by rw [sz22]; decide) ?_
  try simp only [Nat.zero_add]
  refine vo_load_var rfl rfl rfl Try.underlying22 rfl rfl ?_
  refine vo_move_pv rfl rfl ?_
  refine vo_call [] Try.func64 rfl rfl rfl rfl rfl rfl rfl (ordersUpTo_satI (by omega) (fun l hl => by have := b2 l hl; omega) hc1.1.1.1 hc1.2.1 (by have := hc1.2.2; omega)) ?_
  rintro _ _ ⟨rfl, rfl⟩
  refine ⟨Nat.le_of_ble_eq_true rfl, ⟨rfl, rfl, rfl, rfl⟩, .inl rfl, ?_⟩
  refine vo_stM ?_
  refine vo_treeown 2 (by omega) rfl ?_
  refine vo_stM ?_
  refine vo_expose 2 (by omega) rfl ?_
  refine vo_stM ?_
  refine vo_weaken 17 rfl ?_
  refine vo_stM ?_
  refine vo_move_pv rfl rfl ?_
  refine vo_index_pv (.sl (some true) 1 []) rfl rfl rfl E22.und inf49 sz49 sd sd ?_
  simp only [Int.toNat_natCast, Int.toNat_zero, getD_ints, getD_intss, getD_bools, getD_bytes, PV.cells, getD_ops, getD_pairs, getD_insts, getD_attrs, getD_attrss, getD_objs, getD_ordP]
  refine vo_load_adr rfl rfl Try.underlying49 rfl ?_
  rw [ordT_get w.bases (c.toNat + 1) c.toNat (by omega)]
  refine vo_stM ?_
  refine vo_len_pv rfl rfl Try.underlying49 ?_
  refine vo_move_pv rfl rfl ?_
  refine vo_nil ?_
  refine hK7 _ ?_
  refine vc_block ?_
  refine vc_own_nil 7 E49 rfl ?_
  refine vc_stM ?_
  refine vc_loopE [2, 3, 20, 21] [7, 22] [3] _ _ (fun mz vs rs => ∃ (k : Nat), mz = (ordM w.bases c.toNat).length - k ∧ (k ≤ (ordM w.bases c.toNat).length) ∧ vs = [.ref 3, i64 k] ∧ rs = [Row.own 3 1 none true ((ownrs w.attrs name ((ordM w.bases c.toNat).take k)).map intP)]) ((ordM w.bases c.toNat).length) rfl rfl (le_len hC rfl) ⟨rfl, rfl, rfl⟩ rfl ⟨0, rfl, Nat.zero_le _, rfl, rfl⟩ ?_
  rintro mz vs rs - - ⟨k, rfl, hk, rfl, rfl⟩
  refine vc_stM ?_
  have hrl := ownrs_len w.attrs name ((ordM w.bases c.toNat).take k)
  rw [List.length_take] at hrl
  refine vc_seq fun K8 hK8 => ?_
  refine vc_region ?_
  refine vo_binI rfl rfl rfl rfl trivial ?_
  refine vo_nil ?_
  refine hK8 _ ?_
  refine vc_seq fun K9 hK9 => ?_
  refine vc_cond rfl (fun hc2 => ?_) (fun hc2 => ?_)
  ·try simp only [zq0, zq1, zq2, zq3, zq4, zq5, zq6, zq7, zq8, zq9, zqa, zqb, zqc, zqd, zqe, zqf] at hc2
   have hin := hoi.2 _ (getD_mem (show k < (ordM w.bases c.toNat).length by omega) 0)
   have hak := (getD_all (p := fun l : List AttrM => l.length ≤ 2000000) a2 [] (by simp) ((ordM w.bases c.toNat).getD k 0).toNat)
   refine vc_skip ?_
   refine hK9 _ ?_
   refine vc_seq fun K10 hK10 => ?_
   refine vc_block ?_
   refine vc_seq fun K11 hK11 => ?_
   refine vc_region ?_
   refine vo_index_pv (.int .i64 0) rfl rfl rfl E49.und inf3 sz3 sd sd ?_
   simp only [Int.toNat_natCast, Int.toNat_zero, getD_ints, getD_intss, getD_bools, getD_bytes, PV.cells, getD_ops, getD_pairs, getD_insts, getD_attrs, getD_attrss, getD_objs, getD_ordP]
   refine vo_load_adr rfl rfl Try.underlying3 rfl ?_
   refine vo_assign_pv rfl rfl ?_
   refine vo_nil ?_
   refine hK11 _ ?_
   refine vc_seq fun K12 hK12 => ?_
   refine vc_region ?_
   refine vo_fieldAddr_ptr rfl rfl Try.underlying33 rfl inf30 (by rw [sz30]; decide) ?_
   try simp only [Nat.zero_add]
   refine vo_load_var rfl rfl rfl Try.underlying30 rfl rfl ?_
   refine vo_move_pv rfl rfl ?_
   refine vo_index_pv (.sl none 3 []) rfl rfl rfl E30.und inf63 sz63 sd sd ?_
   simp only [Int.toNat_natCast, Int.toNat_zero, getD_ints, getD_intss, getD_bools, getD_bytes, PV.cells, getD_ops, getD_pairs, getD_insts, getD_attrs, getD_attrss, getD_objs, getD_ordP]
   refine vo_load_adr rfl rfl Try.underlying63 rfl ?_
   refine vo_move_pv rfl rfl ?_
   refine vo_call0 Try.func42 rfl rfl rfl rfl (attrPlace_sat (by omega)) ?_
   rintro _ _ ⟨rfl, rfl⟩
   refine ⟨rfl, rfl, .inl rfl, ?_⟩
   refine vo_stM ?_
   refine vo_binI rfl rfl rfl rfl trivial ?_
   refine vo_nil ?_
   refine hK12 _ ?_
   refine vc_cond rfl (fun hc3 => ?_) (fun hc3 => ?_)
   ·try simp only [zq0, zq1, zq2, zq3, zq4, zq5, zq6, zq7, zq8, zq9, zqa, zqb, zqc, zqd, zqe, zqf] at hc3
    refine vc_region ?_
    refine vo_move_ref rfl rfl ?_
    refine vo_move_pv rfl rfl ?_
    refine vo_buildSlice E49 rfl rfl rfl rfl rfl ?_
    refine vo_stM ?_
    refine vo_append E49 rfl (by omega) rfl rfl rfl sd sd ?_
    refine vo_stM ?_
    try simp only [app_ints, app_intss, app_bools]
    refine vo_assign_ref rfl rfl ?_
    refine vo_nil ?_
    refine hK10 _ ?_
    refine vc_region ?_
    refine vo_binI rfl rfl rfl rfl sd ?_
    refine vo_move_pv rfl rfl ?_
    refine vo_nil ?_
    change againE _ _ _ _ _ _ _ _ _ _
    refine againE_mk rfl rfl rfl rfl rfl rfl ⟨_, ?_, k + 1, rfl, ?_, rfl, (by rw [ownrs_yes (by omega) (by omega)]; rfl)⟩
    ·omega
    ·omega
   ·try simp only [zq0, zq1, zq2, zq3, zq4, zq5, zq6, zq7, zq8, zq9, zqa, zqb, zqc, zqd, zqe, zqf] at hc3
    refine vc_skip ?_
    refine hK10 _ ?_
    refine vc_region ?_
    refine vo_binI rfl rfl rfl rfl sd ?_
    refine vo_move_pv rfl rfl ?_
    refine vo_nil ?_
    change againE _ _ _ _ _ _ _ _ _ _
    refine againE_mk rfl rfl rfl rfl rfl rfl ⟨_, ?_, k + 1, rfl, ?_, rfl, (by rw [ownrs_no (by omega) (by omega)]; rfl)⟩
    ·omega
    ·omega
  ·try simp only [zq0, zq1, zq2, zq3, zq4, zq5, zq6, zq7, zq8, zq9, zqa, zqb, zqc, zqd, zqe, zqf] at hc2
   refine vc_exit ?_
   refine hK6 _ ?_
   refine vc_seq fun K13 hK13 => ?_
   refine vc_region ?_
   refine vo_move_ref rfl rfl ?_
   refine vo_assign_ref rfl rfl ?_
   refine vo_nil ?_
   refine hK13 _ ?_
   refine vc_ret ?_
   change retQ _ _ _ _ _
   refine retQ_sel [3] (srows := [_]) (.inr rfl) hC rfl rfl rfl rfl rfl rfl rfl ?_
   have e : ownM w c name = ownrs w.attrs name ((ordM w.bases c.toNat).take k) := by unfold ownM; rw [if_pos (by assumption), show (ordM w.bases c.toNat).take k = (ordM w.bases c.toNat) from take_all (by omega)]
   rw [e]; exact ⟨_, rfl, rfl⟩

end Go.Vl

namespace Go.Vl
set_option linter.unusedVariables false
set_option linter.unusedSimpArgs false
open Go.Proofs

def hkN (l : List AttrM) : List Int := (l.filter fun a => decide (a.kind = 2 ∨ a.kind = 3)).map (·.name)
def hkO (c : Int) : List Int → Int
  | [] => -1
  | x :: r => if x = c then hkO c r else x
theorem take_oneA {l : List AttrM} {k : Nat} (h : k < l.length) : l.take (k+1) = l.take k ++ [l.getD k ⟨0, 0, 0⟩] := by rw [List.take_add_one, List.getD, List.getElem?_eq_getElem h]; rfl
theorem hkN_yes {l : List AttrM} {k : Nat} (h : k < l.length) (hp : (l.getD k ⟨0, 0, 0⟩).kind = 2 ∨ (l.getD k ⟨0, 0, 0⟩).kind = 3) : hkN (l.take (k+1)) = hkN (l.take k) ++ [(l.getD k ⟨0, 0, 0⟩).name] := by
  unfold hkN; rw [take_oneA h, List.filter_append, List.filter_cons_of_pos (by simpa using hp), List.map_append]; rfl
theorem hkN_no {l : List AttrM} {k : Nat} (h : k < l.length) (hp : ¬ ((l.getD k ⟨0, 0, 0⟩).kind = 2 ∨ (l.getD k ⟨0, 0, 0⟩).kind = 3)) : hkN (l.take (k+1)) = hkN (l.take k) := by
  unfold hkN; rw [take_oneA h, List.filter_append, List.filter_cons_of_neg (by simpa using hp)]; simp
theorem hkN_len (l : List AttrM) : (hkN l).length ≤ l.length := by unfold hkN; rw [List.length_map]; exact List.length_filter_le _ _
theorem hkO_drop {c : Int} {o : List Int} {k : Nat} (h : k < o.length) : hkO c (o.drop k) = if o.getD k 0 = c then hkO c (o.drop (k+1)) else o.getD k 0 := by
  have e : o.getD k 0 = o[k] := by simp [List.getD, List.getElem?_eq_getElem h]
  rw [List.drop_eq_getElem_cons h, e]; rfl
theorem hkO_notin {c : Int} {o : List Int} (h : c ∉ o) : hkO c o = if 0 < o.length then o.getD 0 0 else -1 := by
  cases o with
  | nil => rfl
  | cons x r =>
    have : x ≠ c := fun e => h (by simp [e])
    simp [hkO, this]
theorem hkO_nodup {c : Int} {o : List Int} (h : o.Nodup) : hkO c o = if 0 < o.length ∧ o.getD 0 0 = c then (if 1 < o.length then o.getD 1 0 else -1) else if 0 < o.length then o.getD 0 0 else -1 := by
  cases o with
  | nil => rfl
  | cons x r =>
    by_cases e : x = c
    · have h9 : c ∉ r := by rw [← e]; exact (List.nodup_cons.1 h).1
      subst e
      simp only [hkO, if_true, hkO_notin h9]
      cases r <;> simp
    · simp [hkO, e]
def hasC (w : WorldM) (c : Int) : Prop := VWorld w ∧ 0 ≤ c ∧ c ≤ (w.bases.length : Int) - 1
instance (w : WorldM) (c : Int) : Decidable (hasC w c) := by unfold hasC; exact inferInstance
def hookN (w : WorldM) (c : Int) : List Int := if hasC w c then hkN (w.attrs.getD c.toNat []) else []
def hookO (w : WorldM) (c hook : Int) : Int := if hasC w c then hkO c (ownM w c hook) else -1
theorem own_nodup {w : WorldM} {c name : Int} (hv : hasC w c) : (ownM w c name).Nodup := by
  rw [ownM_yes hv]
  have hc : c.toNat < w.bases.length := by have := hv.2; omega
  exact (ordM_ok hv.1.1.1 c.toNat hc).1.filter _
theorem hookN_len {w : WorldM} {c : Int} (hs : SW w) : (hookN w c).length ≤ 2000000 := by
  unfold hookN
  split
  · exact Nat.le_trans (hkN_len _) (getD_all (p := fun l : List AttrM => l.length ≤ 2000000) hs.2.1.2 [] (by simp) c.toNat)
  · simp
theorem getD_cut1 {X : List Int} (h : 1 < X.length) : (List.take (X.length - 1) (X.drop 1)).getD 0 0 = X.getD 1 0 := by
  simp only [List.getD, List.getElem?_take, List.getElem?_drop]
  rw [if_pos (by omega)]
theorem hooksOwn_sat {w : WorldM} {c : Int} {hook : Int}  (hw : SW w) : SatAt Try.prog 27 [.pv false (worldP w), i64 c, i64 hook] [] (fun res rows => ∃ nl, res = [.ref 0, i64 (hookO w c hook)] ∧ rows = [Row.own 3 1 nl true ((hookN w c).map intP)]) := by
 have hw0 := hw
 obtain ⟨⟨b1, b2⟩, ⟨a1, a2⟩, o1, o2⟩ := hw
 refine sat_entry_G (rs := [(6, none), (7, none)]) Try.func27 rfl rfl (Nat.le_of_ble_eq_true rfl) (Nat.le_of_ble_eq_true rfl) (resTs2 trivial trivial) fun C hC => ?_
 rw [Try.ntmps27]
 replace hC : C.nb = 0 := hC
 refine vc_seq fun K1 hK1 => ?_
 refine vc_region ?_
 refine vo_box rfl rfl ?_
 refine vo_stM ?_
 refine vo_assign_pv rfl rfl ?_
 refine vo_own_nil 6 E49 rfl ?_
 refine vo_assign_pv rfl rfl ?_
 refine vo_nil ?_
 refine hK1 _ ?_
 refine vc_seq fun K2 hK2 => ?_
 refine vc_seq fun K3 hK3 => ?_
 refine vc_region ?_
 refine vo_load_varS rfl rfl rfl Try.underlying33 rfl inf33 sz33 rfl rfl ?_
 refine vo_move_pv rfl rfl ?_
 refine vo_call0 Try.func40 rfl rfl rfl rfl (hasClassIn_sat hw0) ?_
 rintro _ _ ⟨rfl, rfl⟩
 refine ⟨rfl, rfl, .inl rfl, ?_⟩
 refine vo_stM ?_
 refine vo_not rfl rfl ?_
 refine vo_nil ?_
 refine hK3 _ ?_
 refine vc_cond rfl (fun hc1 => ?_) (fun hc1 => ?_)
 ·try simp only [zq0, zq1, zq2, zq3, zq4, zq5, zq6, zq7, zq8, zq9, zqa, zqb, zqc, zqd, zqe, zqf] at hc1
  refine vc_seq fun K4 hK4 => ?_
  refine vc_region ?_
  refine vo_assign_pv rfl rfl ?_
  refine vo_own_nil 6 E49 rfl ?_
  refine vo_assign_pv rfl rfl ?_
  refine vo_nil ?_
  refine hK4 _ ?_
  refine vc_ret ?_
  change retQ _ _ _ _ _
  refine retQ_sel [2] (srows := [_]) (.inr rfl) hC rfl rfl rfl rfl rfl rfl rfl ?_
  have e1 : hookN w c = [] := by unfold hookN; rw [if_neg (by assumption)]
  have e2 : hookO w c hook = -1 := by unfold hookO; rw [if_neg (by assumption)]
  rw [e1, e2]; exact ⟨_, rfl, rfl⟩
 ·try simp only [zq0, zq1, zq2, zq3, zq4, zq5, zq6, zq7, zq8, zq9, zqa, zqb, zqc, zqd, zqe, zqf] at hc1
  have hcv : hasC w c := hc1
  have hca := hc1.1.2.1
  have hak := getD_all (p := fun l : List AttrM => l.length ≤ 2000000) a2 [] (by simp) c.toNat
  have hol := ownM_len (w := w) (c := c) (name := hook)
  refine vc_skip ?_
  refine hK2 _ ?_
  refine vc_seq fun K5 hK5 => ?_
  refine vc_region ?_
  refine vo_assign_pv rfl rfl ?_
  refine vo_nil ?_
  refine hK5 _ ?_
  refine vc_seq fun K6 hK6 => ?_
  refine vc_seq fun K7 hK7 => ?_
  refine vc_region ?_
  refine vo_fieldAddr_ptr rfl rfl Try.underlying33 rfl inf30 (by rw [sz30]; decide) ?_
  try simp only [Nat.zero_add]
  refine vo_load_var rfl rfl rfl Try.underlying30 rfl rfl ?_
  refine vo_move_pv rfl rfl ?_
  refine vo_index_pv (.sl none 3 []) rfl rfl rfl E30.und inf63 sz63 sd sd ?_
  simp only [Int.toNat_natCast, Int.toNat_zero, getD_ints, getD_intss, getD_bools, getD_bytes, PV.cells, getD_ops, getD_pairs, getD_insts, getD_attrs, getD_attrss, getD_objs, getD_ordP]
  refine vo_load_adr rfl rfl Try.underlying63 rfl ?_
  refine vo_len_pv rfl rfl Try.underlying63 ?_
  refine vo_move_pv rfl rfl ?_
  refine vo_nil ?_
  refine hK7 _ ?_
  refine vc_block ?_
  refine vc_own_nil 8 E49 rfl ?_
  refine vc_stM ?_
  refine vc_loopE [1, 2, 3, 23, 24] [8, 25] [2] _ _ (fun mz vs rs => ∃ (k : Nat), mz = (w.attrs.getD c.toNat []).length - k ∧ (k ≤ (w.attrs.getD c.toNat []).length) ∧ vs = [.ref 2, i64 k] ∧ rs = [Row.own 3 1 none true ((hkN ((w.attrs.getD c.toNat []).take k)).map intP)]) ((w.attrs.getD c.toNat []).length) rfl rfl (le_len hC rfl) ⟨rfl, rfl, rfl⟩ rfl ⟨0, rfl, Nat.zero_le _, rfl, rfl⟩ ?_
  rintro mz vs rs - - ⟨k, rfl, hk, rfl, rfl⟩
  refine vc_stM ?_
  have hkl := hkN_len ((w.attrs.getD c.toNat []).take k)
  rw [List.length_take] at hkl
  refine vc_seq fun K8 hK8 => ?_
  refine vc_region ?_
  refine vo_binI rfl rfl rfl rfl trivial ?_
  refine vo_nil ?_
  refine hK8 _ ?_
  refine vc_seq fun K9 hK9 => ?_
  refine vc_cond rfl (fun hc2 => ?_) (fun hc2 => ?_)
  ·try simp only [zq0, zq1, zq2, zq3, zq4, zq5, zq6, zq7, zq8, zq9, zqa, zqb, zqc, zqd, zqe, zqf] at hc2
   refine vc_skip ?_
   refine hK9 _ ?_
   refine vc_seq fun K10 hK10 => ?_
   refine vc_block ?_
   refine vc_seq fun K11 hK11 => ?_
   refine vc_region ?_
   refine vo_index_pv (.agg [(.int .i64 0), (.int .i64 0), (.int .i64 0)]) rfl rfl rfl E63.und inf37 sz37 sd sd ?_
   simp only [Int.toNat_natCast, Int.toNat_zero, getD_ints, getD_intss, getD_bools, getD_bytes, PV.cells, getD_ops, getD_pairs, getD_insts, getD_attrs, getD_attrss, getD_objs, getD_ordP]
   refine vo_load_adrS rfl rfl Try.underlying37 rfl inf37 sz37 rfl ?_
   refine vo_st (by (try simp only [St.put, PV.cells, PV.scal, List.drop_succ_cons, List.drop_zero, List.take_succ_cons, List.take_zero, List.map_cons, List.map_nil, Bool.or_true, Bool.or_false, Bool.false_or, Bool.true_or, opP, pairP, instP, heapP]); exact eq_refl _) ?_
   refine vo_alloc Z37 rfl ?_
   refine vo_stM ?_
   refine vo_store_varS rfl rfl rfl inf37 sz37 rfl ?_
   refine vo_stM ?_
   refine vo_nil ?_
   refine hK11 _ ?_
   refine vc_seq fun K12 hK12 => ?_
   refine vc_region ?_
   refine vo_move_pv rfl rfl ?_
   refine vo_load_varS rfl rfl rfl Try.underlying37 rfl inf37 sz37 rfl rfl ?_
   refine vo_call0 Try.func71 rfl rfl rfl rfl memberOf_sat ?_
   rintro _ _ ⟨p, hp, rfl, rfl⟩
   refine ⟨rfl, rfl, .inl rfl, ?_⟩
   refine vo_stM ?_
   rcases hp with ⟨hk, rfl⟩ | ⟨hk, rfl⟩ | ⟨hk, rfl⟩ | ⟨hk, rfl⟩ | ⟨hk, rfl⟩ | ⟨hk, rfl⟩
   ·skip
    refine vo_assert_no rfl rfl Try.underlying102 inf133 (by kernel_rfl) (fun w => by kernel_rfl) ?_
    refine vo_stM ?_
    refine vo_move rfl ?_
    refine vo_stM ?_
    refine vo_extract rfl rfl rfl ?_
    refine vo_extract rfl rfl rfl ?_
    refine vo_assign_pv rfl rfl ?_
    refine vo_assign_pv rfl rfl ?_
    refine vo_nil ?_
    refine hK12 _ ?_
    refine vc_seq fun K13 hK13 => ?_
    refine vc_region ?_
    refine vo_move_pv rfl rfl ?_
    refine vo_nil ?_
    refine hK13 _ ?_
    refine vc_cond_f rfl ?_
    refine vc_skip ?_
    refine hK10 _ ?_
    refine vc_region ?_
    refine vo_binI rfl rfl rfl rfl sd ?_
    refine vo_move_pv rfl rfl ?_
    refine vo_nil ?_
    change againE _ _ _ _ _ _ _ _ _ _
    refine againE_mk rfl rfl rfl rfl rfl rfl ⟨_, ?_, k + 1, rfl, ?_, rfl, (by first | (rw [hkN_yes (by omega) (by omega)]; rfl) | (rw [hkN_no (by omega) (by omega)]; rfl) | (exfalso; omega))⟩
    ·omega
    ·omega
   ·skip
    refine vo_assert_no rfl rfl Try.underlying102 inf135 (by kernel_rfl) (fun w => by kernel_rfl) ?_
    refine vo_stM ?_
    refine vo_move rfl ?_
    refine vo_stM ?_
    refine vo_extract rfl rfl rfl ?_
    refine vo_extract rfl rfl rfl ?_
    refine vo_assign_pv rfl rfl ?_
    refine vo_assign_pv rfl rfl ?_
    refine vo_nil ?_
    refine hK12 _ ?_
    refine vc_seq fun K14 hK14 => ?_
    refine vc_region ?_
    refine vo_move_pv rfl rfl ?_
    refine vo_nil ?_
    refine hK14 _ ?_
    refine vc_cond_f rfl ?_
    refine vc_skip ?_
    refine hK10 _ ?_
    refine vc_region ?_
    refine vo_binI rfl rfl rfl rfl sd ?_
    refine vo_move_pv rfl rfl ?_
    refine vo_nil ?_
    change againE _ _ _ _ _ _ _ _ _ _
    refine againE_mk rfl rfl rfl rfl rfl rfl ⟨_, ?_, k + 1, rfl, ?_, rfl, (by first | (rw [hkN_yes (by omega) (by omega)]; rfl) | (rw [hkN_no (by omega) (by omega)]; rfl) | (exfalso; omega))⟩
    ·omega
    ·omega
   ·skip
    refine vo_assert_no rfl rfl Try.underlying102 inf137 (by kernel_rfl) (fun w => by kernel_rfl) ?_
    refine vo_stM ?_
    refine vo_move rfl ?_
    refine vo_stM ?_
    refine vo_extract rfl rfl rfl ?_
    refine vo_extract rfl rfl rfl ?_
    refine vo_assign_pv rfl rfl ?_
    refine vo_assign_pv rfl rfl ?_
    refine vo_nil ?_
    refine hK12 _ ?_
    refine vc_seq fun K15 hK15 => ?_
    refine vc_region ?_
    refine vo_move_pv rfl rfl ?_
    refine vo_nil ?_
    refine hK15 _ ?_
    refine vc_cond_f rfl ?_
    refine vc_skip ?_
    refine hK10 _ ?_
    refine vc_region ?_
    refine vo_binI rfl rfl rfl rfl sd ?_
    refine vo_move_pv rfl rfl ?_
    refine vo_nil ?_
    change againE _ _ _ _ _ _ _ _ _ _
    refine againE_mk rfl rfl rfl rfl rfl rfl ⟨_, ?_, k + 1, rfl, ?_, rfl, (by first | (rw [hkN_yes (by omega) (by omega)]; rfl) | (rw [hkN_no (by omega) (by omega)]; rfl) | (exfalso; omega))⟩
    ·omega
    ·omega
   ·skip
    refine vo_assert_yes rfl rfl Try.underlying102 inf138 (by kernel_rfl) ?_
    refine vo_stM ?_
    refine vo_move rfl ?_
    refine vo_stM ?_
    refine vo_extract rfl rfl rfl ?_
    refine vo_extract rfl rfl rfl ?_
    refine vo_assign rfl ?_
    refine vo_stM ?_
    refine vo_assign_pv rfl rfl ?_
    refine vo_nil ?_
    refine hK12 _ ?_
    refine vc_seq fun K16 hK16 => ?_
    refine vc_region ?_
    refine vo_move_pv rfl rfl ?_
    refine vo_nil ?_
    refine hK16 _ ?_
    refine vc_cond_t rfl ?_
    refine vc_region ?_
    refine vo_move_ref rfl rfl ?_
    refine vo_fieldAddr_ptr rfl rfl Try.underlying37 rfl inf3 (by rw [sz3]; decide) ?_
    try simp only [Nat.zero_add]
    refine vo_load_var rfl rfl rfl Try.underlying3 rfl rfl ?_
    refine vo_buildSlice E49 rfl rfl rfl rfl rfl ?_
    refine vo_stM ?_
    refine vo_append E49 rfl (by omega) rfl rfl rfl sd sd ?_
    refine vo_stM ?_
    try simp only [app_ints, app_intss, app_bools]
    refine vo_assign_ref rfl rfl ?_
    refine vo_nil ?_
    refine hK10 _ ?_
    refine vc_region ?_
    refine vo_binI rfl rfl rfl rfl sd ?_
    refine vo_move_pv rfl rfl ?_
    refine vo_nil ?_
    change againE _ _ _ _ _ _ _ _ _ _
    refine againE_mk rfl rfl rfl rfl rfl rfl ⟨_, ?_, k + 1, rfl, ?_, rfl, (by first | (rw [hkN_yes (by omega) (by omega)]; rfl) | (rw [hkN_no (by omega) (by omega)]; rfl) | (exfalso; omega))⟩
    ·omega
    ·omega
   ·skip
    refine vo_assert_yes rfl rfl Try.underlying102 inf140 (by kernel_rfl) ?_
    refine vo_stM ?_
    refine vo_move rfl ?_
    refine vo_stM ?_
    refine vo_extract rfl rfl rfl ?_
    refine vo_extract rfl rfl rfl ?_
    refine vo_assign rfl ?_
    refine vo_stM ?_
    refine vo_assign_pv rfl rfl ?_
    refine vo_nil ?_
    refine hK12 _ ?_
    refine vc_seq fun K17 hK17 => ?_
    refine vc_region ?_
    refine vo_move_pv rfl rfl ?_
    refine vo_nil ?_
    refine hK17 _ ?_
    refine vc_cond_t rfl ?_
    refine vc_region ?_
    refine vo_move_ref rfl rfl ?_
    refine vo_fieldAddr_ptr rfl rfl Try.underlying37 rfl inf3 (by rw [sz3]; decide) ?_
    try simp only [Nat.zero_add]
    refine vo_load_var rfl rfl rfl Try.underlying3 rfl rfl ?_
    refine vo_buildSlice E49 rfl rfl rfl rfl rfl ?_
    refine vo_stM ?_
    refine vo_append E49 rfl (by omega) rfl rfl rfl sd sd ?_
    refine vo_stM ?_
    try simp only [app_ints, app_intss, app_bools]
    refine vo_assign_ref rfl rfl ?_
    refine vo_nil ?_
    refine hK10 _ ?_
    refine vc_region ?_
    refine vo_binI rfl rfl rfl rfl sd ?_
    refine vo_move_pv rfl rfl ?_
    refine vo_nil ?_
    change againE _ _ _ _ _ _ _ _ _ _
    refine againE_mk rfl rfl rfl rfl rfl rfl ⟨_, ?_, k + 1, rfl, ?_, rfl, (by first | (rw [hkN_yes (by omega) (by omega)]; rfl) | (rw [hkN_no (by omega) (by omega)]; rfl) | (exfalso; omega))⟩
    ·omega
    ·omega
   ·skip
    refine vo_assert_no rfl rfl Try.underlying102 inf141 (by kernel_rfl) (fun w => by kernel_rfl) ?_
    refine vo_stM ?_
    refine vo_move rfl ?_
    refine vo_stM ?_
    refine vo_extract rfl rfl rfl ?_
    refine vo_extract rfl rfl rfl ?_
    refine vo_assign_pv rfl rfl ?_
    refine vo_assign_pv rfl rfl ?_
    refine vo_nil ?_
    refine hK12 _ ?_
    refine vc_seq fun K18 hK18 => ?_
    refine vc_region ?_
    refine vo_move_pv rfl rfl ?_
    refine vo_nil ?_
    refine hK18 _ ?_
    refine vc_cond_f rfl ?_
    refine vc_skip ?_
    refine hK10 _ ?_
    refine vc_region ?_
    refine vo_binI rfl rfl rfl rfl sd ?_
    refine vo_move_pv rfl rfl ?_
    refine vo_nil ?_
    change againE _ _ _ _ _ _ _ _ _ _
    refine againE_mk rfl rfl rfl rfl rfl rfl ⟨_, ?_, k + 1, rfl, ?_, rfl, (by first | (rw [hkN_yes (by omega) (by omega)]; rfl) | (rw [hkN_no (by omega) (by omega)]; rfl) | (exfalso; omega))⟩
    ·omega
    ·omega
  ·try simp only [zq0, zq1, zq2, zq3, zq4, zq5, zq6, zq7, zq8, zq9, zqa, zqb, zqc, zqd, zqe, zqf] at hc2
   refine vc_exit ?_
   refine hK6 _ ?_
   refine vc_seq fun K19 hK19 => ?_
   refine vc_seq fun K20 hK20 => ?_
   refine vc_region ?_
   refine vo_load_varS rfl rfl rfl Try.underlying33 rfl inf33 sz33 rfl rfl ?_
   refine vo_move_pv rfl rfl ?_
   refine vo_move_pv rfl rfl ?_
   refine vo_call [] Try.func21 rfl rfl rfl rfl rfl rfl rfl (ownersOwn_sat hw0) ?_
   rintro _ _ ⟨nlo, rfl, rfl⟩
   refine ⟨Nat.le_of_ble_eq_true rfl, ⟨rfl, rfl, rfl, rfl⟩, .inl rfl, ?_⟩
   refine vo_stM ?_
   refine vo_len_ref rfl rfl rfl Try.underlying49 ?_
   refine vo_move_pv rfl rfl ?_
   refine vo_nil ?_
   refine hK20 _ ?_
   refine vc_block ?_
   refine vc_stM ?_
   refine vc_loopE [1, 8, 46, 47] [48] [] _ _ (fun mz vs rs => ∃ (j : Nat), mz = (ownM w c hook).length - j ∧ (j ≤ (ownM w c hook).length) ∧ (hkO c (ownM w c hook) = hkO c ((ownM w c hook).drop j)) ∧ vs = [i64 j] ∧ rs = []) ((ownM w c hook).length) rfl rfl (le_len hC rfl) ⟨rfl, rfl, rfl⟩ rfl ⟨0, rfl, (Nat.zero_le _), rfl, rfl, rfl⟩ ?_
   rintro mz vs rs - - ⟨j, rfl, hj, hf, rfl, rfl⟩
   refine vc_stM ?_
   refine vc_seq fun K21 hK21 => ?_
   refine vc_region ?_
   refine vo_binI rfl rfl rfl rfl trivial ?_
   refine vo_nil ?_
   refine hK21 _ ?_
   refine vc_seq fun K22 hK22 => ?_
   refine vc_cond rfl (fun hc3 => ?_) (fun hc3 => ?_)
   ·try simp only [zq0, zq1, zq2, zq3, zq4, zq5, zq6, zq7, zq8, zq9, zqa, zqb, zqc, zqd, zqe, zqf] at hc3
    refine vc_skip ?_
    refine hK22 _ ?_
    refine vc_seq fun K23 hK23 => ?_
    refine vc_block ?_
    refine vc_seq fun K24 hK24 => ?_
    refine vc_region ?_
    refine vo_index_ref rfl rfl rfl rfl E49.und inf3 sz3 sd sd ?_
    try simp only [Int.toNat_natCast]
    refine vo_load_own rfl rfl rfl Try.underlying3 rfl sd (getD_ints _ _) rfl ?_
    try simp only [Int.toNat_natCast]
    refine vo_assign_pv rfl rfl ?_
    refine vo_nil ?_
    refine hK24 _ ?_
    refine vc_seq fun K25 hK25 => ?_
    refine vc_region ?_
    refine vo_move_pv rfl rfl ?_
    refine vo_move_pv rfl rfl ?_
    refine vo_binI rfl rfl rfl rfl trivial ?_
    refine vo_nil ?_
    refine hK25 _ ?_
    refine vc_cond rfl (fun hc4 => ?_) (fun hc4 => ?_)
    ·try simp only [zq0, zq1, zq2, zq3, zq4, zq5, zq6, zq7, zq8, zq9, zqa, zqb, zqc, zqd, zqe, zqf] at hc4
     refine vc_seq fun K26 hK26 => ?_
     refine vc_region ?_
     refine vo_move_ref rfl rfl ?_
     refine vo_move_pv rfl rfl ?_
     refine vo_assign_ref rfl rfl ?_
     refine vo_assign_pv rfl rfl ?_
     refine vo_nil ?_
     refine hK26 _ ?_
     refine vc_ret ?_
     change retQ _ _ _ _ _
     refine retQ_sel [2] (srows := [_]) (.inr rfl) hC rfl rfl rfl rfl rfl rfl rfl ?_
     have e1 : hookN w c = hkN ((w.attrs.getD c.toNat []).take k) := by unfold hookN; rw [if_pos (by assumption), take_all (by omega)]
     have e2 : hookO w c hook = (ownM w c hook).getD j 0 := by unfold hookO; rw [if_pos (by assumption), hf, hkO_drop (by omega), if_neg (by assumption)]
     rw [e1, e2]; exact ⟨_, rfl, rfl⟩
    ·try simp only [zq0, zq1, zq2, zq3, zq4, zq5, zq6, zq7, zq8, zq9, zqa, zqb, zqc, zqd, zqe, zqf] at hc4
     refine vc_skip ?_
     refine hK23 _ ?_
     refine vc_region ?_
     refine vo_binI rfl rfl rfl rfl sd ?_
     refine vo_move_pv rfl rfl ?_
     refine vo_nil ?_
     change againE _ _ _ _ _ _ _ _ _ _
     refine againE_mk rfl rfl rfl rfl rfl rfl ⟨_, ?_, j + 1, rfl, ?_, ?_, rfl, rfl⟩
     ·omega
     ·omega
     ·rw [hf, hkO_drop (by omega), if_pos (by assumption)]
   ·try simp only [zq0, zq1, zq2, zq3, zq4, zq5, zq6, zq7, zq8, zq9, zqa, zqb, zqc, zqd, zqe, zqf] at hc3
    refine vc_exit ?_
    refine hK19 _ ?_
    refine vc_seq fun K27 hK27 => ?_
    refine vc_region ?_
    refine vo_move_ref rfl rfl ?_
    refine vo_assign_ref rfl rfl ?_
    refine vo_assign_pv rfl rfl ?_
    refine vo_nil ?_
    refine hK27 _ ?_
    refine vc_ret ?_
    change retQ _ _ _ _ _
    refine retQ_sel [2] (srows := [_]) (.inr rfl) hC rfl rfl rfl rfl rfl rfl rfl ?_
    have e1 : hookN w c = hkN ((w.attrs.getD c.toNat []).take k) := by unfold hookN; rw [if_pos (by assumption), take_all (by omega)]
    have e2 : hookO w c hook = -1 := by unfold hookO; rw [if_pos (by assumption), hf, List.drop_eq_nil_of_le (by omega)]; rfl
    rw [e1, e2]; exact ⟨_, rfl, rfl⟩


theorem specHooksOf_sat {w : WorldM} {c : Int} {hook : Int}  (hw : SW w) : SatAt Try.prog 28 [.pv false (worldP w), i64 c, i64 hook] [] (fun res rows => ∃ nl, res = [.pv true (.sl nl 1 ((hookN w c).map intP)), i64 (hookO w c hook)] ∧ rows = []) := by
  have hw0 := hw
  obtain ⟨⟨b1, b2⟩, ⟨a1, a2⟩, o1, o2⟩ := hw
  refine sat_entry_G (rs := [(6, none), (7, none)]) Try.func28 rfl rfl (Nat.le_of_ble_eq_true rfl) (Nat.le_of_ble_eq_true rfl) (resTs2 trivial trivial) fun C hC => ?_
  rw [Try.ntmps28]
  replace hC : C.nb = 0 := hC
  refine vc_seq fun K1 hK1 => ?_
  refine vc_region ?_
  refine vo_box rfl rfl ?_
  refine vo_stM ?_
  refine vo_assign_pv rfl rfl ?_
  refine vo_own_nil 6 E49 rfl ?_
  refine vo_assign_pv rfl rfl ?_
  refine vo_nil ?_
  refine hK1 _ ?_
  refine vc_seq fun K2 hK2 => ?_
  refine vc_seq fun K3 hK3 => ?_
  refine vc_region ?_
  refine vo_load_varS rfl rfl rfl Try.underlying33 rfl inf33 sz33 rfl rfl ?_
  refine vo_call0 Try.func34 rfl rfl rfl rfl (specValidWorld0_sat hw0) ?_
  rintro _ _ ⟨rfl, rfl⟩
  refine ⟨rfl, rfl, .inl rfl, ?_⟩
  refine vo_stM ?_
  refine vo_not rfl rfl ?_
  refine vo_move_pv rfl rfl ?_
  refine vo_split 14 rfl (fun hg1 => ?_) (fun hg1 => ?_)
  · try simp only [zq0, zq1, zq2, zq3, zq4, zq5, zq6, zq7, zq8, zq9, zqa, zqb, zqc, zqd, zqe, zqf] at hg1
    refine vo_guard_off rfl rfl rfl rfl rfl ?_
    refine vo_guard_off rfl rfl rfl rfl rfl ?_
    refine vo_guard_off rfl rfl rfl rfl rfl ?_
    refine vo_guard_off rfl rfl rfl rfl rfl ?_
    refine vo_guard_off rfl rfl rfl rfl rfl ?_
    refine vo_guard_off rfl rfl rfl rfl rfl ?_
    refine vo_guard_off rfl rfl rfl rfl rfl ?_
    refine vo_pick_t rfl rfl ?_
    refine vo_nil ?_
    refine hK3 _ ?_
    refine vc_cond_t rfl ?_
    refine vc_seq fun K4 hK4 => ?_
    refine vc_region ?_
    refine vo_assign_pv rfl rfl ?_
    refine vo_own_nil 6 E49 rfl ?_
    refine vo_assign_pv rfl rfl ?_
    refine vo_nil ?_
    refine hK4 _ ?_
    refine vc_expose 2 (by omega) rfl ?_
    refine vc_stM ?_
    refine vc_ret ?_
    change retQ _ _ _ _ _
    refine retQ_sel [] (srows := []) (.inr rfl) hC rfl rfl rfl rfl rfl rfl rfl ?_
    have e0 : ¬ hasC w c := (by unfold hasC; first | assumption | (simp_all; done) | (intro h; omega))
    have e1 : hookN w c = [] := by unfold hookN; rw [if_neg e0]
    have e2 : hookO w c hook = -1 := by unfold hookO; rw [if_neg e0]
    rw [e1, e2]; exact ⟨_, rfl, rfl⟩
  · try simp only [zq0, zq1, zq2, zq3, zq4, zq5, zq6, zq7, zq8, zq9, zqa, zqb, zqc, zqd, zqe, zqf] at hg1
    refine vo_guard_on rfl rfl rfl ?_
    refine vo_move_pv rfl rfl ?_
    refine vo_guard_on rfl rfl rfl ?_
    refine vo_fieldAddr_ptr rfl rfl Try.underlying33 rfl inf22 (by rw [sz22]; decide) ?_
    try simp only [Nat.zero_add]
    refine vo_guard_on rfl rfl rfl ?_
    refine vo_load_var rfl rfl rfl Try.underlying22 rfl rfl ?_
    refine vo_guard_on rfl rfl rfl ?_
    refine vo_len_pv rfl rfl Try.underlying22 ?_
    refine vo_guard_on rfl rfl rfl ?_
    refine vo_binI rfl rfl rfl rfl sd ?_
    refine vo_guard_on rfl rfl rfl ?_
    refine vo_call0 Try.func35 rfl rfl rfl rfl inRange_sat ?_
    rintro _ _ ⟨rfl, rfl⟩
    refine ⟨rfl, rfl, .inl rfl, ?_⟩
    refine vo_stM ?_
    refine vo_guard_on rfl rfl rfl ?_
    refine vo_not rfl rfl ?_
    refine vo_pick_f rfl rfl ?_
    refine vo_nil ?_
    refine hK3 _ ?_
    refine vc_cond rfl (fun hc2 => ?_) (fun hc2 => ?_)
    · try simp only [zq0, zq1, zq2, zq3, zq4, zq5, zq6, zq7, zq8, zq9, zqa, zqb, zqc, zqd, zqe, zqf] at hc2
      refine vc_seq fun K5 hK5 => ?_
      refine vc_region ?_
      refine vo_assign_pv rfl rfl ?_
      refine vo_own_nil 6 E49 rfl ?_
      refine vo_assign_pv rfl rfl ?_
      refine vo_nil ?_
      refine hK5 _ ?_
      refine vc_expose 2 (by omega) rfl ?_
      refine vc_stM ?_
      refine vc_ret ?_
      change retQ _ _ _ _ _
      refine retQ_sel [] (srows := []) (.inr rfl) hC rfl rfl rfl rfl rfl rfl rfl ?_
      have e0 : ¬ hasC w c := (by unfold hasC; first | assumption | (simp_all; done) | (intro h; omega))
      have e1 : hookN w c = [] := by unfold hookN; rw [if_neg e0]
      have e2 : hookO w c hook = -1 := by unfold hookO; rw [if_neg e0]
      rw [e1, e2]; exact ⟨_, rfl, rfl⟩
    · try simp only [zq0, zq1, zq2, zq3, zq4, zq5, zq6, zq7, zq8, zq9, zqa, zqb, zqc, zqd, zqe, zqf] at hc2
      have hcv : hasC w c := ⟨by assumption, by omega, by omega⟩
      have hca := hcv.1.2.1
      have hak := getD_all (p := fun l : List AttrM => l.length ≤ 2000000) a2 [] (by simp) c.toNat
      have hol := ownM_len (w := w) (c := c) (name := hook)
      have hon := hkO_nodup (c := c) (own_nodup (name := hook) hcv)
      rw [ownM_yes hcv] at hol hon
      refine vc_skip ?_
      refine hK2 _ ?_
      refine vc_seq fun K6 hK6 => ?_
      refine vc_region ?_
      refine vo_buildSlice E49 rfl rfl rfl rfl rfl ?_
      refine vo_stM ?_
      refine vo_assign_ref rfl rfl ?_
      refine vo_nil ?_
      refine hK6 _ ?_
      refine vc_seq fun K7 hK7 => ?_
      refine vc_seq fun K8 hK8 => ?_
      refine vc_region ?_
      refine vo_assign_pv rfl rfl ?_
      refine vo_nil ?_
      refine hK8 _ ?_
      refine vc_block ?_
      refine vc_stM ?_
      refine vc_loopE [1, 2, 3] [8, 9] [2] _ _ (fun mz vs rs => ∃ (k : Nat), mz = (w.attrs.getD c.toNat []).length - k ∧ (k ≤ (w.attrs.getD c.toNat []).length) ∧ vs = [.ref 2, i64 k] ∧ rs = [Row.own 3 1 (some false) true ((hkN ((w.attrs.getD c.toNat []).take k)).map intP)]) ((w.attrs.getD c.toNat []).length) rfl rfl (le_len hC rfl) ⟨rfl, rfl, rfl⟩ rfl ⟨0, rfl, Nat.zero_le _, rfl, rfl⟩ ?_
      rintro mz vs rs - - ⟨k, rfl, hk, rfl, rfl⟩
      refine vc_stM ?_
      have hkl := hkN_len ((w.attrs.getD c.toNat []).take k)
      rw [List.length_take] at hkl
      refine vc_seq fun K9 hK9 => ?_
      refine vc_seq fun K10 hK10 => ?_
      refine vc_region ?_
      refine vo_move_pv rfl rfl ?_
      refine vo_fieldAddr_ptr rfl rfl Try.underlying33 rfl inf30 (by rw [sz30]; decide) ?_
      try simp only [Nat.zero_add]
      refine vo_load_var rfl rfl rfl Try.underlying30 rfl rfl ?_
      refine vo_move_pv rfl rfl ?_
      refine vo_index_pv (.sl none 3 []) rfl rfl rfl E30.und inf63 sz63 sd sd ?_
      simp only [Int.toNat_natCast, Int.toNat_zero, getD_ints, getD_intss, getD_bools, getD_bytes, PV.cells, getD_ops, getD_pairs, getD_insts, getD_attrs, getD_attrss, getD_objs, getD_ordP]
      refine vo_load_adr rfl rfl Try.underlying63 rfl ?_
      refine vo_len_pv rfl rfl Try.underlying63 ?_
      refine vo_binI rfl rfl rfl rfl trivial ?_
      refine vo_nil ?_
      refine hK10 _ ?_
      refine vc_cond rfl (fun hc3 => ?_) (fun hc3 => ?_)
      · try simp only [zq0, zq1, zq2, zq3, zq4, zq5, zq6, zq7, zq8, zq9, zqa, zqb, zqc, zqd, zqe, zqf] at hc3
        refine vc_skip ?_
        refine hK9 _ ?_
        refine vc_seq fun K11 hK11 => ?_
        refine vc_block ?_
        refine vc_seq fun K12 hK12 => ?_
        refine vc_region ?_
        refine vo_fieldAddr_ptr rfl rfl Try.underlying33 rfl inf30 (by rw [sz30]; decide) ?_
        try simp only [Nat.zero_add]
        refine vo_load_var rfl rfl rfl Try.underlying30 rfl rfl ?_
        refine vo_move_pv rfl rfl ?_
        refine vo_index_pv (.sl none 3 []) rfl rfl rfl E30.und inf63 sz63 sd sd ?_
        simp only [Int.toNat_natCast, Int.toNat_zero, getD_ints, getD_intss, getD_bools, getD_bytes, PV.cells, getD_ops, getD_pairs, getD_insts, getD_attrs, getD_attrss, getD_objs, getD_ordP]
        refine vo_load_adr rfl rfl Try.underlying63 rfl ?_
        refine vo_move_pv rfl rfl ?_
        refine vo_index_pv (.agg [(.int .i64 0), (.int .i64 0), (.int .i64 0)]) rfl rfl rfl E63.und inf37 sz37 sd sd ?_
        simp only [Int.toNat_natCast, Int.toNat_zero, getD_ints, getD_intss, getD_bools, getD_bytes, PV.cells, getD_ops, getD_pairs, getD_insts, getD_attrs, getD_attrss, getD_objs, getD_ordP]
        refine vo_fieldAddr_adr rfl rfl Try.underlying37 rfl inf3 (by rw [sz3]; decide) ?_
        refine vo_load_adr rfl rfl Try.underlying3 rfl ?_
        refine vo_binI rfl rfl rfl rfl trivial ?_
        refine vo_move_pv rfl rfl ?_
        refine vo_split 44 rfl (fun hg4 => ?_) (fun hg4 => ?_)
        · try simp only [zq0, zq1, zq2, zq3, zq4, zq5, zq6, zq7, zq8, zq9, zqa, zqb, zqc, zqd, zqe, zqf] at hg4
          refine vo_guard_off rfl rfl rfl rfl rfl ?_
          refine vo_guard_off rfl rfl rfl rfl rfl ?_
          refine vo_guard_off rfl rfl rfl rfl rfl ?_
          refine vo_guard_off rfl rfl rfl rfl rfl ?_
          refine vo_guard_off rfl rfl rfl rfl rfl ?_
          refine vo_guard_off rfl rfl rfl rfl rfl ?_
          refine vo_guard_off rfl rfl rfl rfl rfl ?_
          refine vo_guard_off rfl rfl rfl rfl rfl ?_
          refine vo_guard_off rfl rfl rfl rfl rfl ?_
          refine vo_guard_off rfl rfl rfl rfl rfl ?_
          refine vo_pick_t rfl rfl ?_
          refine vo_nil ?_
          refine hK12 _ ?_
          refine vc_cond_t rfl ?_
          refine vc_region ?_
          refine vo_move_ref rfl rfl ?_
          refine vo_fieldAddr_ptr rfl rfl Try.underlying33 rfl inf30 (by rw [sz30]; decide) ?_
          try simp only [Nat.zero_add]
          refine vo_load_var rfl rfl rfl Try.underlying30 rfl rfl ?_
          refine vo_move_pv rfl rfl ?_
          refine vo_index_pv (.sl none 3 []) rfl rfl rfl E30.und inf63 sz63 sd sd ?_
          simp only [Int.toNat_natCast, Int.toNat_zero, getD_ints, getD_intss, getD_bools, getD_bytes, PV.cells, getD_ops, getD_pairs, getD_insts, getD_attrs, getD_attrss, getD_objs, getD_ordP]
          refine vo_load_adr rfl rfl Try.underlying63 rfl ?_
          refine vo_move_pv rfl rfl ?_
          refine vo_index_pv (.agg [(.int .i64 0), (.int .i64 0), (.int .i64 0)]) rfl rfl rfl E63.und inf37 sz37 sd sd ?_
          simp only [Int.toNat_natCast, Int.toNat_zero, getD_ints, getD_intss, getD_bools, getD_bytes, PV.cells, getD_ops, getD_pairs, getD_insts, getD_attrs, getD_attrss, getD_objs, getD_ordP]
          refine vo_fieldAddr_adr rfl rfl Try.underlying37 rfl inf3 (by rw [sz3]; decide) ?_
          refine vo_load_adr rfl rfl Try.underlying3 rfl ?_
          refine vo_buildSlice E49 rfl rfl rfl rfl rfl ?_
          refine vo_stM ?_
          refine vo_append E49 rfl (by omega) rfl rfl rfl sd sd ?_
          refine vo_stM ?_
          try simp only [app_ints, app_intss, app_bools]
          refine vo_assign_ref rfl rfl ?_
          refine vo_nil ?_
          refine hK11 _ ?_
          refine vc_region ?_
          refine vo_move_pv rfl rfl ?_
          refine vo_binI rfl rfl rfl rfl sd ?_
          refine vo_assign_pv rfl rfl ?_
          refine vo_nil ?_
          change againE _ _ _ _ _ _ _ _ _ _
          refine againE_mk rfl rfl rfl rfl rfl rfl ⟨_, ?_, k + 1, rfl, ?_, rfl, (by first | (rw [hkN_yes (by omega) (by omega)]; rfl) | (rw [hkN_no (by omega) (by omega)]; rfl) | (exfalso; omega))⟩
          · omega
          · omega
        · try simp only [zq0, zq1, zq2, zq3, zq4, zq5, zq6, zq7, zq8, zq9, zqa, zqb, zqc, zqd, zqe, zqf] at hg4
          refine vo_guard_on rfl rfl rfl ?_
          refine vo_fieldAddr_ptr rfl rfl Try.underlying33 rfl inf30 (by rw [sz30]; decide) ?_
          try simp only [Nat.zero_add]
          refine vo_guard_on rfl rfl rfl ?_
          refine vo_load_var rfl rfl rfl Try.underlying30 rfl rfl ?_
          refine vo_guard_on rfl rfl rfl ?_
          refine vo_move_pv rfl rfl ?_
          refine vo_guard_on rfl rfl rfl ?_
          refine vo_index_pv (.sl none 3 []) rfl rfl rfl E30.und inf63 sz63 sd sd ?_
          simp only [Int.toNat_natCast, Int.toNat_zero, getD_ints, getD_intss, getD_bools, getD_bytes, PV.cells, getD_ops, getD_pairs, getD_insts, getD_attrs, getD_attrss, getD_objs, getD_ordP]
          refine vo_guard_on rfl rfl rfl ?_
          refine vo_load_adr rfl rfl Try.underlying63 rfl ?_
          refine vo_guard_on rfl rfl rfl ?_
          refine vo_move_pv rfl rfl ?_
          refine vo_guard_on rfl rfl rfl ?_
          refine vo_index_pv (.agg [(.int .i64 0), (.int .i64 0), (.int .i64 0)]) rfl rfl rfl E63.und inf37 sz37 sd sd ?_
          simp only [Int.toNat_natCast, Int.toNat_zero, getD_ints, getD_intss, getD_bools, getD_bytes, PV.cells, getD_ops, getD_pairs, getD_insts, getD_attrs, getD_attrss, getD_objs, getD_ordP]
          refine vo_guard_on rfl rfl rfl ?_
          refine vo_fieldAddr_adr rfl rfl Try.underlying37 rfl inf3 (by rw [sz3]; decide) ?_
          refine vo_guard_on rfl rfl rfl ?_
          refine vo_load_adr rfl rfl Try.underlying3 rfl ?_
          refine vo_guard_on rfl rfl rfl ?_
          refine vo_binI rfl rfl rfl rfl trivial ?_
          refine vo_pick_f rfl rfl ?_
          refine vo_nil ?_
          refine hK12 _ ?_
          refine vc_cond rfl (fun hc5 => ?_) (fun hc5 => ?_)
          · try simp only [zq0, zq1, zq2, zq3, zq4, zq5, zq6, zq7, zq8, zq9, zqa, zqb, zqc, zqd, zqe, zqf] at hc5
            refine vc_region ?_
            refine vo_move_ref rfl rfl ?_
            refine vo_fieldAddr_ptr rfl rfl Try.underlying33 rfl inf30 (by rw [sz30]; decide) ?_
            try simp only [Nat.zero_add]
            refine vo_load_var rfl rfl rfl Try.underlying30 rfl rfl ?_
            refine vo_move_pv rfl rfl ?_
            refine vo_index_pv (.sl none 3 []) rfl rfl rfl E30.und inf63 sz63 sd sd ?_
            simp only [Int.toNat_natCast, Int.toNat_zero, getD_ints, getD_intss, getD_bools, getD_bytes, PV.cells, getD_ops, getD_pairs, getD_insts, getD_attrs, getD_attrss, getD_objs, getD_ordP]
            refine vo_load_adr rfl rfl Try.underlying63 rfl ?_
            refine vo_move_pv rfl rfl ?_
            refine vo_index_pv (.agg [(.int .i64 0), (.int .i64 0), (.int .i64 0)]) rfl rfl rfl E63.und inf37 sz37 sd sd ?_
            simp only [Int.toNat_natCast, Int.toNat_zero, getD_ints, getD_intss, getD_bools, getD_bytes, PV.cells, getD_ops, getD_pairs, getD_insts, getD_attrs, getD_attrss, getD_objs, getD_ordP]
            refine vo_fieldAddr_adr rfl rfl Try.underlying37 rfl inf3 (by rw [sz3]; decide) ?_
            refine vo_load_adr rfl rfl Try.underlying3 rfl ?_
            refine vo_buildSlice E49 rfl rfl rfl rfl rfl ?_
            refine vo_stM ?_
            refine vo_append E49 rfl (by omega) rfl rfl rfl sd sd ?_
            refine vo_stM ?_
            try simp only [app_ints, app_intss, app_bools]
            refine vo_assign_ref rfl rfl ?_
            refine vo_nil ?_
            refine hK11 _ ?_
            refine vc_region ?_
            refine vo_move_pv rfl rfl ?_
            refine vo_binI rfl rfl rfl rfl sd ?_
            refine vo_assign_pv rfl rfl ?_
            refine vo_nil ?_
            change againE _ _ _ _ _ _ _ _ _ _
            refine againE_mk rfl rfl rfl rfl rfl rfl ⟨_, ?_, k + 1, rfl, ?_, rfl, (by first | (rw [hkN_yes (by omega) (by omega)]; rfl) | (rw [hkN_no (by omega) (by omega)]; rfl) | (exfalso; omega))⟩
            · omega
            · omega
          · try simp only [zq0, zq1, zq2, zq3, zq4, zq5, zq6, zq7, zq8, zq9, zqa, zqb, zqc, zqd, zqe, zqf] at hc5
            refine vc_skip ?_
            refine hK11 _ ?_
            refine vc_region ?_
            refine vo_move_pv rfl rfl ?_
            refine vo_binI rfl rfl rfl rfl sd ?_
            refine vo_assign_pv rfl rfl ?_
            refine vo_nil ?_
            change againE _ _ _ _ _ _ _ _ _ _
            refine againE_mk rfl rfl rfl rfl rfl rfl ⟨_, ?_, k + 1, rfl, ?_, rfl, (by first | (rw [hkN_yes (by omega) (by omega)]; rfl) | (rw [hkN_no (by omega) (by omega)]; rfl) | (exfalso; omega))⟩
            · omega
            · omega
      · try simp only [zq0, zq1, zq2, zq3, zq4, zq5, zq6, zq7, zq8, zq9, zqa, zqb, zqc, zqd, zqe, zqf] at hc3
        refine vc_exit ?_
        refine hK7 _ ?_
        refine vc_seq fun K13 hK13 => ?_
        refine vc_region ?_
        refine vo_load_varS rfl rfl rfl Try.underlying33 rfl inf33 sz33 rfl rfl ?_
        refine vo_move_pv rfl rfl ?_
        refine vo_move_pv rfl rfl ?_
        refine vo_call [] Try.func72 rfl rfl rfl rfl rfl rfl rfl (owners_sat hw0 hcv.1 hcv.2.1 hcv.2.2) ?_
        rintro _ _ ⟨rfl, rfl⟩
        refine ⟨Nat.le_of_ble_eq_true rfl, ⟨rfl, rfl, rfl, rfl⟩, .inl rfl, ?_⟩
        refine vo_stM ?_
        refine vo_expose 3 (by omega) rfl ?_
        refine vo_stM ?_
        refine vo_weaken 71 rfl ?_
        refine vo_stM ?_
        refine vo_assign_pv rfl rfl ?_
        refine vo_nil ?_
        refine hK13 _ ?_
        refine vc_seq fun K14 hK14 => ?_
        refine vc_seq fun K15 hK15 => ?_
        refine vc_region ?_
        refine vo_move_pv rfl rfl ?_
        refine vo_len_pv rfl rfl Try.underlying49 ?_
        refine vo_binI rfl rfl rfl rfl trivial ?_
        refine vo_move_pv rfl rfl ?_
        refine vo_split 75 rfl (fun hg6 => ?_) (fun hg6 => ?_)
        · try simp only [zq0, zq1, zq2, zq3, zq4, zq5, zq6, zq7, zq8, zq9, zqa, zqb, zqc, zqd, zqe, zqf] at hg6
          refine vo_guard_on rfl rfl rfl ?_
          refine vo_move_pv rfl rfl ?_
          refine vo_guard_on rfl rfl rfl ?_
          refine vo_index_pv (.int .i64 0) rfl rfl rfl E49.und inf3 sz3 sd sd ?_
          simp only [Int.toNat_natCast, Int.toNat_zero, getD_ints, getD_intss, getD_bools, getD_bytes, PV.cells, getD_ops, getD_pairs, getD_insts, getD_attrs, getD_attrss, getD_objs, getD_ordP]
          refine vo_guard_on rfl rfl rfl ?_
          refine vo_load_adr rfl rfl Try.underlying3 rfl ?_
          refine vo_guard_on rfl rfl rfl ?_
          refine vo_move_pv rfl rfl ?_
          refine vo_guard_on rfl rfl rfl ?_
          refine vo_binI rfl rfl rfl rfl trivial ?_
          refine vo_pick_t rfl rfl ?_
          refine vo_nil ?_
          refine hK15 _ ?_
          refine vc_cond rfl (fun hc7 => ?_) (fun hc7 => ?_)
          · try simp only [zq0, zq1, zq2, zq3, zq4, zq5, zq6, zq7, zq8, zq9, zqa, zqb, zqc, zqd, zqe, zqf] at hc7
            refine vc_region ?_
            refine vo_move_pv rfl rfl ?_
            refine vo_slice_pv rfl rfl rfl rfl E49.und inf3 sz3 sd sd sd ?_
            simp only [Int.toNat_natCast, Int.toNat_zero, List.drop_zero, Nat.sub_zero, ← List.map_drop, ← List.map_take]
            refine vo_assign_pv rfl rfl ?_
            refine vo_nil ?_
            refine hK14 _ ?_
            refine vc_seq fun K16 hK16 => ?_
            refine vc_seq fun K17 hK17 => ?_
            refine vc_region ?_
            refine vo_move_pv rfl rfl ?_
            refine vo_len_pv rfl rfl Try.underlying49 ?_
            refine vo_binI rfl rfl rfl rfl trivial ?_
            refine vo_nil ?_
            refine hK17 _ ?_
            refine vc_cond rfl (fun hc8 => ?_) (fun hc8 => ?_)
            · try simp only [zq0, zq1, zq2, zq3, zq4, zq5, zq6, zq7, zq8, zq9, zqa, zqb, zqc, zqd, zqe, zqf] at hc8
              refine vc_seq fun K18 hK18 => ?_
              refine vc_region ?_
              refine vo_move_ref rfl rfl ?_
              refine vo_assign_ref rfl rfl ?_
              refine vo_assign_pv rfl rfl ?_
              refine vo_nil ?_
              refine hK18 _ ?_
              refine vc_expose 2 (by omega) rfl ?_
              refine vc_stM ?_
              refine vc_ret ?_
              change retQ _ _ _ _ _
              refine retQ_sel [] (srows := []) (.inr rfl) hC rfl rfl rfl rfl rfl rfl rfl ?_
              have e1 : hookN w c = hkN ((w.attrs.getD c.toNat []).take k) := by unfold hookN; rw [if_pos (by assumption), take_all (by omega)]
              have e2 : hookO w c hook = hkO c (ownrs w.attrs hook (ordM w.bases c.toNat)) := by unfold hookO; rw [if_pos (by assumption), ownM_yes (by assumption)]
              have hml : ((ownrs w.attrs hook (ordM w.bases c.toNat)).map intP).length = (ownrs w.attrs hook (ordM w.bases c.toNat)).length := List.length_map ..
              have hl2 : (List.take ((ownrs w.attrs hook (ordM w.bases c.toNat)).length - Int.toNat 1) ((ownrs w.attrs hook (ordM w.bases c.toNat)).drop (Int.toNat 1))).length = (ownrs w.attrs hook (ordM w.bases c.toNat)).length - 1 := by show (List.take ((ownrs w.attrs hook (ordM w.bases c.toNat)).length - 1) ((ownrs w.attrs hook (ordM w.bases c.toNat)).drop 1)).length = (ownrs w.attrs hook (ordM w.bases c.toNat)).length - 1; rw [List.length_take, List.length_drop]; omega
              have hl3 : 1 < (ownrs w.attrs hook (ordM w.bases c.toNat)).length → (List.take (((ownrs w.attrs hook (ordM w.bases c.toNat)).map intP).length - Int.toNat 1) ((ownrs w.attrs hook (ordM w.bases c.toNat)).drop (Int.toNat 1))).getD 0 0 = (ownrs w.attrs hook (ordM w.bases c.toNat)).getD 1 0 := fun h => by rw [hml]; exact getD_cut1 h
              first
                | (have e3 : hkO c (ownrs w.attrs hook (ordM w.bases c.toNat)) = -1 := by
                     rw [hon]
                     repeat' split
                     all_goals first | rfl | omega
                   rw [e1, e2, e3]; exact ⟨_, rfl, rfl⟩)
                | (have e3 : hkO c (ownrs w.attrs hook (ordM w.bases c.toNat)) = (ownrs w.attrs hook (ordM w.bases c.toNat)).getD 0 0 := by
                     rw [hon]
                     repeat' split
                     all_goals first | rfl | omega
                   rw [e1, e2, e3]; exact ⟨_, rfl, rfl⟩)
                | (have e3 : hkO c (ownrs w.attrs hook (ordM w.bases c.toNat)) = (List.take (((ownrs w.attrs hook (ordM w.bases c.toNat)).map intP).length - Int.toNat 1) ((ownrs w.attrs hook (ordM w.bases c.toNat)).drop (Int.toNat 1))).getD 0 0 := by
                     rw [hon]
                     repeat' split
                     all_goals first | omega | exact (hl3 (by omega)).symm
                   rw [e1, e2, e3]; exact ⟨_, rfl, rfl⟩)
            · try simp only [zq0, zq1, zq2, zq3, zq4, zq5, zq6, zq7, zq8, zq9, zqa, zqb, zqc, zqd, zqe, zqf] at hc8
              refine vc_skip ?_
              refine hK16 _ ?_
              refine vc_seq fun K19 hK19 => ?_
              refine vc_drawLD [] [0, 1, 2, 3, 4, 5] [0, 4, 1, 2, 3, 5] (by kernel_rfl) (by kernel_rfl) (by kernel_rfl) (by kernel_rfl) ?_
              change VL [] _ _ _ 6 _ _ _
              refine vl_light 0 [1, 2, 3] rfl rfl rfl (by kernel_rfl) (by kernel_rfl) (by kernel_rfl) (by kernel_rfl) (by kernel_rfl) (wnt_none rfl) (lt_move_ref rfl) ?_
              refine vl_light 1 [0, 4] rfl rfl rfl (by kernel_rfl) (by kernel_rfl) (by kernel_rfl) (by kernel_rfl) (by kernel_rfl) (wnt_none rfl) (lt_move_pv rfl) ?_
              refine vl_light 2 [0, 1, 4] rfl rfl rfl (by kernel_rfl) (by kernel_rfl) (by kernel_rfl) (by kernel_rfl) (by kernel_rfl) (wnt_none rfl) (lt_index_pv (.int .i64 0) rfl rfl E49.und inf3 sz3 sd sd) ?_
              simp only [Int.toNat_natCast, Int.toNat_zero, getD_ints, getD_intss, getD_bools, getD_bytes, PV.cells, getD_ops, getD_pairs, getD_insts, getD_attrs, getD_attrss, getD_objs, getD_ordP]
              refine vl_light 3 [0, 1, 2, 4] rfl rfl rfl (by kernel_rfl) (by kernel_rfl) (by kernel_rfl) (by kernel_rfl) (by kernel_rfl) (wnt_none rfl) (lt_load_adr rfl Try.underlying3 rfl) ?_
              refine vl_light 4 [0, 1, 2, 3] rfl rfl rfl (by kernel_rfl) (by kernel_rfl) (by kernel_rfl) (by kernel_rfl) (by kernel_rfl) (wnt_none rfl) (lt_assign_ref rfl) ?_
              refine vl_light 5 [0, 1, 2, 3, 4] rfl rfl rfl (by kernel_rfl) (by kernel_rfl) (by kernel_rfl) (by kernel_rfl) (by kernel_rfl) (wnt_none rfl) (lt_assign_pv rfl) ?_
              refine vl_nil (by kernel_rfl) ?_
              refine hK19 _ ?_
              refine vc_expose 2 (by omega) rfl ?_
              refine vc_stM ?_
              refine vc_ret ?_
              change retQ _ _ _ _ _
              refine retQ_sel [] (srows := []) (.inr rfl) hC rfl rfl rfl rfl rfl rfl rfl ?_
              have e1 : hookN w c = hkN ((w.attrs.getD c.toNat []).take k) := by unfold hookN; rw [if_pos (by assumption), take_all (by omega)]
              have e2 : hookO w c hook = hkO c (ownrs w.attrs hook (ordM w.bases c.toNat)) := by unfold hookO; rw [if_pos (by assumption), ownM_yes (by assumption)]
              have hml : ((ownrs w.attrs hook (ordM w.bases c.toNat)).map intP).length = (ownrs w.attrs hook (ordM w.bases c.toNat)).length := List.length_map ..
              have hl2 : (List.take ((ownrs w.attrs hook (ordM w.bases c.toNat)).length - Int.toNat 1) ((ownrs w.attrs hook (ordM w.bases c.toNat)).drop (Int.toNat 1))).length = (ownrs w.attrs hook (ordM w.bases c.toNat)).length - 1 := by show (List.take ((ownrs w.attrs hook (ordM w.bases c.toNat)).length - 1) ((ownrs w.attrs hook (ordM w.bases c.toNat)).drop 1)).length = (ownrs w.attrs hook (ordM w.bases c.toNat)).length - 1; rw [List.length_take, List.length_drop]; omega
              have hl3 : 1 < (ownrs w.attrs hook (ordM w.bases c.toNat)).length → (List.take (((ownrs w.attrs hook (ordM w.bases c.toNat)).map intP).length - Int.toNat 1) ((ownrs w.attrs hook (ordM w.bases c.toNat)).drop (Int.toNat 1))).getD 0 0 = (ownrs w.attrs hook (ordM w.bases c.toNat)).getD 1 0 := fun h => by rw [hml]; exact getD_cut1 h
              first
                | (have e3 : hkO c (ownrs w.attrs hook (ordM w.bases c.toNat)) = -1 := by
                     rw [hon]
                     repeat' split
                     all_goals first | rfl | omega
                   rw [e1, e2, e3]; exact ⟨_, rfl, rfl⟩)
                | (have e3 : hkO c (ownrs w.attrs hook (ordM w.bases c.toNat)) = (ownrs w.attrs hook (ordM w.bases c.toNat)).getD 0 0 := by
                     rw [hon]
                     repeat' split
                     all_goals first | rfl | omega
                   rw [e1, e2, e3]; exact ⟨_, rfl, rfl⟩)
                | (have e3 : hkO c (ownrs w.attrs hook (ordM w.bases c.toNat)) = (List.take (((ownrs w.attrs hook (ordM w.bases c.toNat)).map intP).length - Int.toNat 1) ((ownrs w.attrs hook (ordM w.bases c.toNat)).drop (Int.toNat 1))).getD 0 0 := by
                     rw [hon]
                     repeat' split
                     all_goals first | omega | exact (hl3 (by omega)).symm
                   rw [e1, e2, e3]; exact ⟨_, rfl, rfl⟩)
          · try simp only [zq0, zq1, zq2, zq3, zq4, zq5, zq6, zq7, zq8, zq9, zqa, zqb, zqc, zqd, zqe, zqf] at hc7
            refine vc_skip ?_
            refine hK14 _ ?_
            refine vc_seq fun K20 hK20 => ?_
            refine vc_seq fun K21 hK21 => ?_
            refine vc_region ?_
            refine vo_move_pv rfl rfl ?_
            refine vo_len_pv rfl rfl Try.underlying49 ?_
            refine vo_binI rfl rfl rfl rfl trivial ?_
            refine vo_nil ?_
            refine hK21 _ ?_
            refine vc_cond rfl (fun hc9 => ?_) (fun hc9 => ?_)
            · try simp only [zq0, zq1, zq2, zq3, zq4, zq5, zq6, zq7, zq8, zq9, zqa, zqb, zqc, zqd, zqe, zqf] at hc9
              refine vc_seq fun K22 hK22 => ?_
              refine vc_region ?_
              refine vo_move_ref rfl rfl ?_
              refine vo_assign_ref rfl rfl ?_
              refine vo_assign_pv rfl rfl ?_
              refine vo_nil ?_
              refine hK22 _ ?_
              refine vc_expose 2 (by omega) rfl ?_
              refine vc_stM ?_
              refine vc_ret ?_
              change retQ _ _ _ _ _
              refine retQ_sel [] (srows := []) (.inr rfl) hC rfl rfl rfl rfl rfl rfl rfl ?_
              have e1 : hookN w c = hkN ((w.attrs.getD c.toNat []).take k) := by unfold hookN; rw [if_pos (by assumption), take_all (by omega)]
              have e2 : hookO w c hook = hkO c (ownrs w.attrs hook (ordM w.bases c.toNat)) := by unfold hookO; rw [if_pos (by assumption), ownM_yes (by assumption)]
              have hml : ((ownrs w.attrs hook (ordM w.bases c.toNat)).map intP).length = (ownrs w.attrs hook (ordM w.bases c.toNat)).length := List.length_map ..
              have hl2 : (List.take ((ownrs w.attrs hook (ordM w.bases c.toNat)).length - Int.toNat 1) ((ownrs w.attrs hook (ordM w.bases c.toNat)).drop (Int.toNat 1))).length = (ownrs w.attrs hook (ordM w.bases c.toNat)).length - 1 := by show (List.take ((ownrs w.attrs hook (ordM w.bases c.toNat)).length - 1) ((ownrs w.attrs hook (ordM w.bases c.toNat)).drop 1)).length = (ownrs w.attrs hook (ordM w.bases c.toNat)).length - 1; rw [List.length_take, List.length_drop]; omega
              have hl3 : 1 < (ownrs w.attrs hook (ordM w.bases c.toNat)).length → (List.take (((ownrs w.attrs hook (ordM w.bases c.toNat)).map intP).length - Int.toNat 1) ((ownrs w.attrs hook (ordM w.bases c.toNat)).drop (Int.toNat 1))).getD 0 0 = (ownrs w.attrs hook (ordM w.bases c.toNat)).getD 1 0 := fun h => by rw [hml]; exact getD_cut1 h
              first
                | (have e3 : hkO c (ownrs w.attrs hook (ordM w.bases c.toNat)) = -1 := by
                     rw [hon]
                     repeat' split
                     all_goals first | rfl | omega
                   rw [e1, e2, e3]; exact ⟨_, rfl, rfl⟩)
                | (have e3 : hkO c (ownrs w.attrs hook (ordM w.bases c.toNat)) = (ownrs w.attrs hook (ordM w.bases c.toNat)).getD 0 0 := by
                     rw [hon]
                     repeat' split
                     all_goals first | rfl | omega
                   rw [e1, e2, e3]; exact ⟨_, rfl, rfl⟩)
                | (have e3 : hkO c (ownrs w.attrs hook (ordM w.bases c.toNat)) = (List.take (((ownrs w.attrs hook (ordM w.bases c.toNat)).map intP).length - Int.toNat 1) ((ownrs w.attrs hook (ordM w.bases c.toNat)).drop (Int.toNat 1))).getD 0 0 := by
                     rw [hon]
                     repeat' split
                     all_goals first | omega | exact (hl3 (by omega)).symm
                   rw [e1, e2, e3]; exact ⟨_, rfl, rfl⟩)
            · try simp only [zq0, zq1, zq2, zq3, zq4, zq5, zq6, zq7, zq8, zq9, zqa, zqb, zqc, zqd, zqe, zqf] at hc9
              refine vc_skip ?_
              refine hK20 _ ?_
              refine vc_seq fun K23 hK23 => ?_
              refine vc_drawLD [] [0, 1, 2, 3, 4, 5] [0, 4, 1, 2, 3, 5] (by kernel_rfl) (by kernel_rfl) (by kernel_rfl) (by kernel_rfl) ?_
              change VL [] _ _ _ 6 _ _ _
              refine vl_light 0 [1, 2, 3] rfl rfl rfl (by kernel_rfl) (by kernel_rfl) (by kernel_rfl) (by kernel_rfl) (by kernel_rfl) (wnt_none rfl) (lt_move_ref rfl) ?_
              refine vl_light 1 [0, 4] rfl rfl rfl (by kernel_rfl) (by kernel_rfl) (by kernel_rfl) (by kernel_rfl) (by kernel_rfl) (wnt_none rfl) (lt_move_pv rfl) ?_
              refine vl_light 2 [0, 1, 4] rfl rfl rfl (by kernel_rfl) (by kernel_rfl) (by kernel_rfl) (by kernel_rfl) (by kernel_rfl) (wnt_none rfl) (lt_index_pv (.int .i64 0) rfl rfl E49.und inf3 sz3 sd sd) ?_
              simp only [Int.toNat_natCast, Int.toNat_zero, getD_ints, getD_intss, getD_bools, getD_bytes, PV.cells, getD_ops, getD_pairs, getD_insts, getD_attrs, getD_attrss, getD_objs, getD_ordP]
              refine vl_light 3 [0, 1, 2, 4] rfl rfl rfl (by kernel_rfl) (by kernel_rfl) (by kernel_rfl) (by kernel_rfl) (by kernel_rfl) (wnt_none rfl) (lt_load_adr rfl Try.underlying3 rfl) ?_
              refine vl_light 4 [0, 1, 2, 3] rfl rfl rfl (by kernel_rfl) (by kernel_rfl) (by kernel_rfl) (by kernel_rfl) (by kernel_rfl) (wnt_none rfl) (lt_assign_ref rfl) ?_
              refine vl_light 5 [0, 1, 2, 3, 4] rfl rfl rfl (by kernel_rfl) (by kernel_rfl) (by kernel_rfl) (by kernel_rfl) (by kernel_rfl) (wnt_none rfl) (lt_assign_pv rfl) ?_
              refine vl_nil (by kernel_rfl) ?_
              refine hK23 _ ?_
              refine vc_expose 2 (by omega) rfl ?_
              refine vc_stM ?_
              refine vc_ret ?_
              change retQ _ _ _ _ _
              refine retQ_sel [] (srows := []) (.inr rfl) hC rfl rfl rfl rfl rfl rfl rfl ?_
              have e1 : hookN w c = hkN ((w.attrs.getD c.toNat []).take k) := by unfold hookN; rw [if_pos (by assumption), take_all (by omega)]
              have e2 : hookO w c hook = hkO c (ownrs w.attrs hook (ordM w.bases c.toNat)) := by unfold hookO; rw [if_pos (by assumption), ownM_yes (by assumption)]
              have hml : ((ownrs w.attrs hook (ordM w.bases c.toNat)).map intP).length = (ownrs w.attrs hook (ordM w.bases c.toNat)).length := List.length_map ..
              have hl2 : (List.take ((ownrs w.attrs hook (ordM w.bases c.toNat)).length - Int.toNat 1) ((ownrs w.attrs hook (ordM w.bases c.toNat)).drop (Int.toNat 1))).length = (ownrs w.attrs hook (ordM w.bases c.toNat)).length - 1 := by show (List.take ((ownrs w.attrs hook (ordM w.bases c.toNat)).length - 1) ((ownrs w.attrs hook (ordM w.bases c.toNat)).drop 1)).length = (ownrs w.attrs hook (ordM w.bases c.toNat)).length - 1; rw [List.length_take, List.length_drop]; omega
              have hl3 : 1 < (ownrs w.attrs hook (ordM w.bases c.toNat)).length → (List.take (((ownrs w.attrs hook (ordM w.bases c.toNat)).map intP).length - Int.toNat 1) ((ownrs w.attrs hook (ordM w.bases c.toNat)).drop (Int.toNat 1))).getD 0 0 = (ownrs w.attrs hook (ordM w.bases c.toNat)).getD 1 0 := fun h => by rw [hml]; exact getD_cut1 h
              first
                | (have e3 : hkO c (ownrs w.attrs hook (ordM w.bases c.toNat)) = -1 := by
                     rw [hon]
                     repeat' split
                     all_goals first | rfl | omega
                   rw [e1, e2, e3]; exact ⟨_, rfl, rfl⟩)
                | (have e3 : hkO c (ownrs w.attrs hook (ordM w.bases c.toNat)) = (ownrs w.attrs hook (ordM w.bases c.toNat)).getD 0 0 := by
                     rw [hon]
                     repeat' split
                     all_goals first | rfl | omega
                   rw [e1, e2, e3]; exact ⟨_, rfl, rfl⟩)
                | (have e3 : hkO c (ownrs w.attrs hook (ordM w.bases c.toNat)) = (List.take (((ownrs w.attrs hook (ordM w.bases c.toNat)).map intP).length - Int.toNat 1) ((ownrs w.attrs hook (ordM w.bases c.toNat)).drop (Int.toNat 1))).getD 0 0 := by
                     rw [hon]
                     repeat' split
                     all_goals first | omega | exact (hl3 (by omega)).symm
                   rw [e1, e2, e3]; exact ⟨_, rfl, rfl⟩)
        · try simp only [zq0, zq1, zq2, zq3, zq4, zq5, zq6, zq7, zq8, zq9, zqa, zqb, zqc, zqd, zqe, zqf] at hg6
          refine vo_guard_off rfl rfl rfl rfl rfl ?_
          refine vo_guard_off rfl rfl rfl rfl rfl ?_
          refine vo_guard_off rfl rfl rfl rfl rfl ?_
          refine vo_guard_off rfl rfl rfl rfl rfl ?_
          refine vo_guard_off rfl rfl rfl rfl rfl ?_
          refine vo_pick_f rfl rfl ?_
          refine vo_nil ?_
          refine hK15 _ ?_
          refine vc_cond_f rfl ?_
          refine vc_skip ?_
          refine hK14 _ ?_
          refine vc_seq fun K24 hK24 => ?_
          refine vc_seq fun K25 hK25 => ?_
          refine vc_region ?_
          refine vo_move_pv rfl rfl ?_
          refine vo_len_pv rfl rfl Try.underlying49 ?_
          refine vo_binI rfl rfl rfl rfl trivial ?_
          refine vo_nil ?_
          refine hK25 _ ?_
          refine vc_cond rfl (fun hc10 => ?_) (fun hc10 => ?_)
          · try simp only [zq0, zq1, zq2, zq3, zq4, zq5, zq6, zq7, zq8, zq9, zqa, zqb, zqc, zqd, zqe, zqf] at hc10
            refine vc_seq fun K26 hK26 => ?_
            refine vc_region ?_
            refine vo_move_ref rfl rfl ?_
            refine vo_assign_ref rfl rfl ?_
            refine vo_assign_pv rfl rfl ?_
            refine vo_nil ?_
            refine hK26 _ ?_
            refine vc_expose 2 (by omega) rfl ?_
            refine vc_stM ?_
            refine vc_ret ?_
            change retQ _ _ _ _ _
            refine retQ_sel [] (srows := []) (.inr rfl) hC rfl rfl rfl rfl rfl rfl rfl ?_
            have e1 : hookN w c = hkN ((w.attrs.getD c.toNat []).take k) := by unfold hookN; rw [if_pos (by assumption), take_all (by omega)]
            have e2 : hookO w c hook = hkO c (ownrs w.attrs hook (ordM w.bases c.toNat)) := by unfold hookO; rw [if_pos (by assumption), ownM_yes (by assumption)]
            have hml : ((ownrs w.attrs hook (ordM w.bases c.toNat)).map intP).length = (ownrs w.attrs hook (ordM w.bases c.toNat)).length := List.length_map ..
            have hl2 : (List.take ((ownrs w.attrs hook (ordM w.bases c.toNat)).length - Int.toNat 1) ((ownrs w.attrs hook (ordM w.bases c.toNat)).drop (Int.toNat 1))).length = (ownrs w.attrs hook (ordM w.bases c.toNat)).length - 1 := by show (List.take ((ownrs w.attrs hook (ordM w.bases c.toNat)).length - 1) ((ownrs w.attrs hook (ordM w.bases c.toNat)).drop 1)).length = (ownrs w.attrs hook (ordM w.bases c.toNat)).length - 1; rw [List.length_take, List.length_drop]; omega
            have hl3 : 1 < (ownrs w.attrs hook (ordM w.bases c.toNat)).length → (List.take (((ownrs w.attrs hook (ordM w.bases c.toNat)).map intP).length - Int.toNat 1) ((ownrs w.attrs hook (ordM w.bases c.toNat)).drop (Int.toNat 1))).getD 0 0 = (ownrs w.attrs hook (ordM w.bases c.toNat)).getD 1 0 := fun h => by rw [hml]; exact getD_cut1 h
            first
              | (have e3 : hkO c (ownrs w.attrs hook (ordM w.bases c.toNat)) = -1 := by
                   rw [hon]
                   repeat' split
                   all_goals first | rfl | omega
                 rw [e1, e2, e3]; exact ⟨_, rfl, rfl⟩)
              | (have e3 : hkO c (ownrs w.attrs hook (ordM w.bases c.toNat)) = (ownrs w.attrs hook (ordM w.bases c.toNat)).getD 0 0 := by
                   rw [hon]
                   repeat' split
                   all_goals first | rfl | omega
                 rw [e1, e2, e3]; exact ⟨_, rfl, rfl⟩)
              | (have e3 : hkO c (ownrs w.attrs hook (ordM w.bases c.toNat)) = (List.take (((ownrs w.attrs hook (ordM w.bases c.toNat)).map intP).length - Int.toNat 1) ((ownrs w.attrs hook (ordM w.bases c.toNat)).drop (Int.toNat 1))).getD 0 0 := by
                   rw [hon]
                   repeat' split
                   all_goals first | omega | exact (hl3 (by omega)).symm
                 rw [e1, e2, e3]; exact ⟨_, rfl, rfl⟩)
          · try simp only [zq0, zq1, zq2, zq3, zq4, zq5, zq6, zq7, zq8, zq9, zqa, zqb, zqc, zqd, zqe, zqf] at hc10
            refine vc_skip ?_
            refine hK24 _ ?_
            refine vc_seq fun K27 hK27 => ?_
            refine vc_drawLD [] [0, 1, 2, 3, 4, 5] [0, 4, 1, 2, 3, 5] (by kernel_rfl) (by kernel_rfl) (by kernel_rfl) (by kernel_rfl) ?_
            change VL [] _ _ _ 6 _ _ _
            refine vl_light 0 [1, 2, 3] rfl rfl rfl (by kernel_rfl) (by kernel_rfl) (by kernel_rfl) (by kernel_rfl) (by kernel_rfl) (wnt_none rfl) (lt_move_ref rfl) ?_
            refine vl_light 1 [0, 4] rfl rfl rfl (by kernel_rfl) (by kernel_rfl) (by kernel_rfl) (by kernel_rfl) (by kernel_rfl) (wnt_none rfl) (lt_move_pv rfl) ?_
            refine vl_light 2 [0, 1, 4] rfl rfl rfl (by kernel_rfl) (by kernel_rfl) (by kernel_rfl) (by kernel_rfl) (by kernel_rfl) (wnt_none rfl) (lt_index_pv (.int .i64 0) rfl rfl E49.und inf3 sz3 sd sd) ?_
            simp only [Int.toNat_natCast, Int.toNat_zero, getD_ints, getD_intss, getD_bools, getD_bytes, PV.cells, getD_ops, getD_pairs, getD_insts, getD_attrs, getD_attrss, getD_objs, getD_ordP]
            refine vl_light 3 [0, 1, 2, 4] rfl rfl rfl (by kernel_rfl) (by kernel_rfl) (by kernel_rfl) (by kernel_rfl) (by kernel_rfl) (wnt_none rfl) (lt_load_adr rfl Try.underlying3 rfl) ?_
            refine vl_light 4 [0, 1, 2, 3] rfl rfl rfl (by kernel_rfl) (by kernel_rfl) (by kernel_rfl) (by kernel_rfl) (by kernel_rfl) (wnt_none rfl) (lt_assign_ref rfl) ?_
            refine vl_light 5 [0, 1, 2, 3, 4] rfl rfl rfl (by kernel_rfl) (by kernel_rfl) (by kernel_rfl) (by kernel_rfl) (by kernel_rfl) (wnt_none rfl) (lt_assign_pv rfl) ?_
            refine vl_nil (by kernel_rfl) ?_
            refine hK27 _ ?_
            refine vc_expose 2 (by omega) rfl ?_
            refine vc_stM ?_
            refine vc_ret ?_
            change retQ _ _ _ _ _
            refine retQ_sel [] (srows := []) (.inr rfl) hC rfl rfl rfl rfl rfl rfl rfl ?_
            have e1 : hookN w c = hkN ((w.attrs.getD c.toNat []).take k) := by unfold hookN; rw [if_pos (by assumption), take_all (by omega)]
            have e2 : hookO w c hook = hkO c (ownrs w.attrs hook (ordM w.bases c.toNat)) := by unfold hookO; rw [if_pos (by assumption), ownM_yes (by assumption)]
            have hml : ((ownrs w.attrs hook (ordM w.bases c.toNat)).map intP).length = (ownrs w.attrs hook (ordM w.bases c.toNat)).length := List.length_map ..
            have hl2 : (List.take ((ownrs w.attrs hook (ordM w.bases c.toNat)).length - Int.toNat 1) ((ownrs w.attrs hook (ordM w.bases c.toNat)).drop (Int.toNat 1))).length = (ownrs w.attrs hook (ordM w.bases c.toNat)).length - 1 := by show (List.take ((ownrs w.attrs hook (ordM w.bases c.toNat)).length - 1) ((ownrs w.attrs hook (ordM w.bases c.toNat)).drop 1)).length = (ownrs w.attrs hook (ordM w.bases c.toNat)).length - 1; rw [List.length_take, List.length_drop]; omega
            have hl3 : 1 < (ownrs w.attrs hook (ordM w.bases c.toNat)).length → (List.take (((ownrs w.attrs hook (ordM w.bases c.toNat)).map intP).length - Int.toNat 1) ((ownrs w.attrs hook (ordM w.bases c.toNat)).drop (Int.toNat 1))).getD 0 0 = (ownrs w.attrs hook (ordM w.bases c.toNat)).getD 1 0 := fun h => by rw [hml]; exact getD_cut1 h
            first
              | (have e3 : hkO c (ownrs w.attrs hook (ordM w.bases c.toNat)) = -1 := by
                   rw [hon]
                   repeat' split
                   all_goals first | rfl | omega
                 rw [e1, e2, e3]; exact ⟨_, rfl, rfl⟩)
              | (have e3 : hkO c (ownrs w.attrs hook (ordM w.bases c.toNat)) = (ownrs w.attrs hook (ordM w.bases c.toNat)).getD 0 0 := by
                   rw [hon]
                   repeat' split
                   all_goals first | rfl | omega
                 rw [e1, e2, e3]; exact ⟨_, rfl, rfl⟩)
              | (have e3 : hkO c (ownrs w.attrs hook (ordM w.bases c.toNat)) = (List.take (((ownrs w.attrs hook (ordM w.bases c.toNat)).map intP).length - Int.toNat 1) ((ownrs w.attrs hook (ordM w.bases c.toNat)).drop (Int.toNat 1))).getD 0 0 := by
                   rw [hon]
                   repeat' split
                   all_goals first | omega | exact (hl3 (by omega)).symm
                 rw [e1, e2, e3]; exact ⟨_, rfl, rfl⟩)

end Go.Vl

/- More for such statements: what is taken out of a row; nil cells of rows. -/
namespace Go.Vl
set_option linter.unusedVariables false
set_option linter.unusedSimpArgs false
open Go.RowKit
section
variable {late : List Nat} {P : Program} {C : Ctx} {ops : Array Oper} {K : St → Prop} {s : St} {n : Nat} {listed : Array Bool}
theorem sb_light (i : Nat) {o : Oper} {t : Nat} {sv : SV} (hi : ops[i]? = some o) (hd : o.dst = some t) (ht : Nat.blt t s.n = true) (hw : Wnt C ops s o true)
    (hl : LtB P C s { o with guard := none } sv) (next : VLB late P C ops n (listed.setIfInBounds i true) K (s.put t sv)) : StepB late P C ops n listed K s i := by
  intro m a w hs
  obtain ⟨v, hrun, hv⟩ := hl m a w hs
  have hy : yieldsB (lentB C) P ops o v a w := .inl ⟨hw m a w hs, hrun⟩
  refine hy.op hi ⟨.inl (ExtB.refl _ w), ?_⟩
  rw [hd]
  exact next m _ _ (hs.put (blt_lt ht) hv)

/-- An operation that leaves all memory as it is, or makes new: what is told of it is not known at once. -/
def XtE (P : Program) (C : Ctx) (s : St) (o : Oper) (α : Type) (s1 : α → St) (sv : SV) : Prop :=
  ∀ m a w, SimM C s m a w → ∃ x v w' m', (execOp a.eval o).run P w = .ok (.value v) w' ∧ SimM C (s1 x) m' a w' ∧ RS w' (Gd C (s1 x).rows m' w') m' (s1 x).rows.length sv v ∧ ExtW w w'
theorem sb_extE (i : Nat) {α : Type} {s1 : α → St} {t : Nat} {op : Op} {ty : TypeId} {pos : String} {af : Array Edge} {sv : SV} (hi : ops[i]? = some ⟨some t, op, ty, pos, af, none⟩) (ht : ∀ x, Nat.blt t (s1 x).n = true)
    (hx : XtE P C s ⟨some t, op, ty, pos, af, none⟩ α s1 sv) (next : ∀ x, VLB late P C ops n (listed.setIfInBounds i true) K ((s1 x).put t sv)) : StepB late P C ops n listed K s i := by
  intro m a w hs
  obtain ⟨x, v, w', m', h1, h2, h3, h4⟩ := hx m a w hs
  unfold wpOp
  simp only [hi]
  have hw : Region.wanted ⟨some t, op, ty, pos, af, none⟩ (yielded ops a.tmps) = true := by simp [Region.wanted]
  rw [if_pos hw]
  left
  unfold Oper.wp
  rw [h1, Oper.upon_value]
  exact ⟨.inl h4.toB, next x m' _ _ (h2.put (blt_lt (ht x)) h3)⟩
end
section
variable {P : Program} {C : Ctx} {Q : Go.Exit → St → Prop} {s : St} {ops : Array Oper} {rest : List Oper} {t : Nat} {ty : TypeId} {pos : String} {af : Array Edge}
theorem xt_load_take1 {x : Operand} {T id R i e' : Nat} {nl nl' : Option Bool} {xs ys : List PV} {D : TypeDesc} (hx : getO s.env x = .ptr id 1 i 0) (hrow : s.rows[id]? = some (.tree R 1 nl none xs)) (hnb : C.nb ≤ id)
    (hT : P.underlying T = some D) (hD : (match D with | .struct _ | .array _ _ => true | _ => false) = false) (hget : xs[i]? = some (.sl nl' e' ys)) :
    XtE P C s ⟨some t, .load T x, ty, pos, af, none⟩ TypeId (fun Rf => ⟨s.n, s.env, s.rows.set id (.tree R 1 nl none (xs.set i .gone)) ++ [.tree Rf e' nl' none ys]⟩) (.ref s.rows.length) := by
  intro m a w hs
  obtain ⟨b, vals, Sf, hv, hb, hown, hf, hcell, hr, hd, hn, hz, hS, h1, h2, hw, _⟩ := hs.elemT hx hrow hget
  obtain ⟨Rf, m', hs', hG, hmv, hnew⟩ := hs.takeRow hnb hrow hget rfl hown hr hd hn hz hS h1 h2 hw
  have hi : i < xs.length := (List.getElem?_eq_some_iff.1 hget).1
  have hlt : i * 1 + 0 < xs.length * 1 := by omega
  have hvl : vals.length = xs.length * 1 := hown.1
  have hu : vals[i * 1 + 0]? = some (vals.getD (i * 1 + 0) undef) := by rw [List.getD_eq_getElem?_getD, List.getElem?_eq_getElem (by omega)]; rfl
  have hcl := hcell _ hlt
  rw [hu] at hcl
  refine ⟨Rf 0, vals.getD (i * 1 + 0) undef, w, m', ?_, hs', ?_, ExtW.refl w⟩
  · have hagg := isAgg_false hT hD w
    simp only [Nat.mul_one, Nat.add_zero] at hcl hv
    simp [execOp, Instr.loadAt, hv, Instr.sureAddr, loadVar, hagg, load, Sem.run, hcl]
  · obtain ⟨g1, g2⟩ := hnew 0 0 rfl
    rw [Nat.add_zero] at g1 g2
    show RS _ _ _ _ (.ref s.rows.length) _
    rw [← g1]
    exact .ref _ g2

theorem TP.nil_any {w : World} {e : Nat} {v : Value} {S : Nat → Prop} (h : TP w (.sl (some true) e []) v S) (e2 : Nat) : TP w (.sl none e2 []) v S := by
  cases h with
  | scal _ _ _ hsc => simp [PV.scal] at hsc
  | sl t e nl xs v vals Sf S hown h1 h2 hw hr hd hn hz hS =>
    have hv := h1 rfl
    subst hv
    have hE : ∀ b, ¬ S b := fun b hb => by
      rcases (hS b).1 hb with h | ⟨q, h⟩
      · simp [blk] at h
      · exact hz q b (by simp) h
    refine .sl t e2 none [] _ [] (fun _ _ => False) S ⟨by simp, .inl ⟨rfl, rfl⟩⟩ (fun h => by cases h) (fun h => by cases h) (fun i x hx => by simp at hx) (fun i x j c u hx => by simp at hx) (fun _ _ _ h => h.elim) (fun _ _ h => h.elim) (fun _ _ _ h => h) (fun b => ⟨fun h => (hE b h).elim, fun h => h.elim (fun h => by simp [blk] at h) (fun ⟨_, h⟩ => h.elim)⟩)

/-- A nil cell of a row is a slice without elements. -/
theorem SimM.nilcell {m : Nat → MV} {a : Act} {w : World} (hs : SimM C s m a w) (id i o e2 : Nat) {R e e' : Nat} {nl : Option Bool} {xs : List PV} {p p' : PV} (hrow : s.rows[id]? = some (.tree R e nl none xs)) (hget : xs[i]? = some p) (hc : p.cells[o]? = some (.sl (some true) e' []))
    (hp' : p'.cells = p.cells.set o (.sl none e2 [])) : SimM C ⟨s.n, s.env, s.rows.set id (.tree R e nl none (xs.set i p'))⟩ m a w := by
  have hlid : liveAt s.rows id := ⟨_, hrow, rfl⟩
  refine hs.storeRow (w' := w) hlid (bo := none) (fun b h => by cases h) (grown_refl w) _ (fun hG => ?_)
  have := (hs.rows id _ hrow).mono hG (Nat.le_refl _) (fun _ _ => rfl) (fun _ _ _ => rfl)
  generalize m id = mv at this ⊢
  have hi : i < xs.length := (List.getElem?_eq_some_iff.1 hget).1
  cases this with
  | tree mv t' e nl h xs vals Sf hown h1 h2 hw hr hd hn hz hS hkn =>
    have hf := hw i p hget
    have ho : o < e := by rw [← hf.1]; exact (List.getElem?_eq_some_iff.1 hc).1
    refine .tree _ _ e nl none (xs.set i p') vals Sf (by rw [List.length_set]; exact hown) h1 h2 (fun k z hz9 => ?_) (fun k z j d u hz9 hd9 hu => .inl ?_) hd hn (by rw [List.length_set]; exact hz) hS (fun _ _ h => by cases h)
    · rw [List.getElem?_set] at hz9
      split at hz9
      · cases hz9; exact fits_set hf rfl hp'
      · exact hw k z hz9
    · by_cases hkj : k = i ∧ j = o
      · obtain ⟨rfl, rfl⟩ := hkj
        rw [List.getElem?_set_self hi] at hz9
        cases hz9
        rw [hp', List.getElem?_set_self (by rw [hf.1]; exact ho)] at hd9
        cases hd9
        exact (hr k p j _ u hget hc hu).tp.nil_any e2
      · have key : ∃ z0, xs[k]? = some z0 ∧ z0.cells[j]? = some d := by
          rw [List.getElem?_set] at hz9
          split at hz9
          · rename_i e1
            subst e1
            cases hz9
            refine ⟨p, hget, ?_⟩
            rw [hp', List.getElem?_set_ne (fun e => hkj ⟨rfl, e.symm⟩)] at hd9
            exact hd9
          · exact ⟨z, hz9, hd9⟩
        obtain ⟨z0, g1, g2⟩ := key
        exact (hr k z0 j d u g1 g2 hu).tp
theorem vo_nilcell {l : List Oper} (id i o e2 : Nat) {R e e' : Nat} {nl : Option Bool} {xs : List PV} {p p' : PV} (hrow : s.rows[id]? = some (.tree R e nl none xs)) (hget : xs[i]? = some p) (hc : p.cells[o]? = some (.sl (some true) e' []))
    (hp' : p'.cells = p.cells.set o (.sl none e2 [])) (next : VO P C ops l Q ⟨s.n, s.env, s.rows.set id (.tree R e nl none (xs.set i p'))⟩) : VO P C ops l Q s :=
  fun a w ⟨m, hs⟩ => next a w ⟨m, hs.nilcell id i o e2 hrow hget hc hp'⟩
end
section
variable {late : List Nat} {P : Program} {C : Ctx} {ops : Array Oper} {K : St → Prop} {s : St} {n : Nat} {listed : Array Bool}
theorem vb_treeown (id : Nat) (hnb : C.nb ≤ id) {el e : Nat} {nl : Option Bool} {xs : List PV} (hrow : s.rows[id]? = some (.tree el e nl none xs))
    (next : VLB late P C ops n listed K ⟨s.n, s.env, s.rows.set id (.own el e nl false xs)⟩) : VLB late P C ops n listed K s :=
  fun m a w hs => next _ a w (hs.treeown id hnb hrow)
end
end Go.Vl
