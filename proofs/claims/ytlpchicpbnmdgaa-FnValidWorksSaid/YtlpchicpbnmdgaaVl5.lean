/- Part 5 of the texts that the proof of FnValidWorks is built on. -/
import Derived.Test.YtlpchicpbnmdgaaVl4
namespace Go.Vl
set_option linter.unusedVariables false
set_option linter.unusedSimpArgs false
open Go.Proofs

structure WorksM where
  bases : List (List Int)
  abs : List (List Int)
  real : List (List Int)
  deriving Inhabited, DecidableEq
abbrev worksP (w : WorksM) : PV := .agg [.sl none 1 (w.bases.map ints), .sl none 1 (w.abs.map ints), .sl none 1 (w.real.map ints)]
def GK63 (w : WorksM) : Prop := (w.bases.length ≤ 9223372036854775807 ∧ ∀ l ∈ w.bases, l.length ≤ 9223372036854775807) ∧ (w.abs.length ≤ 9223372036854775807 ∧ ∀ l ∈ w.abs, l.length ≤ 9223372036854775807) ∧ (w.real.length ≤ 9223372036854775807 ∧ ∀ l ∈ w.real, l.length ≤ 9223372036854775807)
def SK (w : WorksM) : Prop := (w.bases.length ≤ 2000000 ∧ ∀ l ∈ w.bases, l.length ≤ 2000000) ∧ (w.abs.length ≤ 2000000 ∧ ∀ l ∈ w.abs, l.length ≤ 2000000) ∧ (w.real.length ≤ 2000000 ∧ ∀ l ∈ w.real, l.length ≤ 2000000)
def okWk (a r : List Int) : Prop := (a ++ r).Nodup ∧ ∀ n ∈ a ++ r, 0 ≤ n ∧ n ≤ 9
instance (a r : List Int) : Decidable (okWk a r) := by unfold okWk; exact inferInstance
def VWorks (x : WorksM) : Prop := allOK x.bases ∧ x.abs.length = x.bases.length ∧ x.real.length = x.bases.length ∧ ∀ i, i < x.bases.length → okWk (x.abs.getD i []) (x.real.getD i [])
instance (x : WorksM) : Decidable (VWorks x) := by unfold VWorks; exact inferInstance
theorem nodup_le10 {l : List Int} (h : l.Nodup) (hr : ∀ n ∈ l, 0 ≤ n ∧ n ≤ 9) : l.length ≤ 10 := pig 10 l h fun n hn => by have := hr n hn; omega
theorem flat_succ {L : List (List Int)} {k : Nat} (h : k < L.length) : (L.take (k+1)).flatten = (L.take k).flatten ++ L.getD k [] := by
  have e : L.take (k+1) = L.take k ++ [L.getD k []] := by rw [List.take_add_one, List.getD, List.getElem?_eq_getElem h]; rfl
  rw [e, List.flatten_append]; simp
theorem flat_len {L : List (List Int)} {k : Nat} (h : k < L.length) : (L.take (k+1)).flatten.length = (L.take k).flatten.length + (L.getD k []).length := by rw [flat_succ h, List.length_append]
theorem okWk_len {a r : List Int} (h : okWk a r) : a.length + r.length ≤ 10 := by
  have := nodup_le10 h.1 h.2
  rwa [List.length_append] at this

theorem Grow_nil_sat {f : Bool} {n : Int} (h0 : 0 ≤ n) (h1 : n ≤ 1000000) : SatAt Try.prog 132 [.pv f (.sl (some true) 1 []), i64 n] [] (fun res rows => res = [.ref 0] ∧ ∃ nl, rows = [Row.own 3 1 nl true []]) := by
 refine sat_entry_G (rs := [(4, none)]) Try.func132 rfl rfl (Nat.le_of_ble_eq_true rfl) (Nat.le_of_ble_eq_true rfl) (resTs1 trivial) fun C hC => ?_
 rw [Try.ntmps132]
 replace hC : C.nb = 0 := hC
 refine vc_seq fun K1 hK1 => ?_
 refine vc_region ?_
 refine vo_assign_pv rfl rfl ?_
 refine vo_nil ?_
 refine hK1 _ ?_
 refine vc_seq fun K2 hK2 => ?_
 refine vc_seq fun K3 hK3 => ?_
 refine vc_region ?_
 refine vo_move_pv rfl rfl ?_
 refine vo_binI rfl rfl rfl rfl trivial ?_
 refine vo_nil ?_
 refine hK3 _ ?_
 refine vc_cond rfl (fun hc1 => ?_) (fun hc1 => ?_)
 ·try simp only [zq0, zq1, zq2, zq3, zq4, zq5, zq6, zq7, zq8, zq9, zqa, zqb, zqc, zqd, zqe, zqf] at hc1
  omega
 ·try simp only [zq0, zq1, zq2, zq3, zq4, zq5, zq6, zq7, zq8, zq9, zqa, zqb, zqc, zqd, zqe, zqf] at hc1
  refine vc_skip ?_
  refine hK2 _ ?_
  refine vc_seq fun K4 hK4 => ?_
  refine vc_seq fun K5 hK5 => ?_
  refine vc_region ?_
  refine vo_move_pv rfl rfl ?_
  refine vo_move_pv rfl rfl ?_
  refine vo_cap_nil rfl rfl Try.underlying28 ?_
  refine vo_move_pv rfl rfl ?_
  refine vo_len_pv rfl rfl Try.underlying28 ?_
  refine vo_stM ?_
  refine vo_binI rfl rfl rfl rfl sd ?_
  refine vo_binI rfl rfl rfl rfl sd ?_
  refine vo_assign_pv rfl rfl ?_
  refine vo_nil ?_
  refine hK5 _ ?_
  refine vc_seq fun K6 hK6 => ?_
  refine vc_region ?_
  refine vo_move_pv rfl rfl ?_
  refine vo_binI rfl rfl rfl rfl trivial ?_
  refine vo_nil ?_
  refine hK6 _ ?_
  refine vc_cond rfl (fun hc2 => ?_) (fun hc2 => ?_)
  ·try simp only [zq0, zq1, zq2, zq3, zq4, zq5, zq6, zq7, zq8, zq9, zqa, zqb, zqc, zqd, zqe, zqf] at hc2
   refine vc_region ?_
   refine vo_move_pv rfl rfl ?_
   refine vo_move_pv rfl rfl ?_
   refine vo_cap_nil rfl rfl Try.underlying28 ?_
   refine vo_slice_pv rfl rfl rfl rfl E28.und inf3 sz3 sd sd sd ?_
   simp only [Int.toNat_natCast, Int.toNat_zero, List.drop_zero, Nat.sub_zero, ← List.map_drop, ← List.map_take]
   refine vo_stM ?_
   refine vo_move_pv rfl rfl ?_
   refine vo_appendMade E28 Try.underlying3 rfl rfl rfl (by omega) sd (by omega) ?_
   refine vo_stM ?_
   refine vo_move_pv rfl rfl ?_
   refine vo_len_pv rfl rfl Try.underlying28 ?_
   refine vo_slice_ref rfl rfl rfl rfl rfl E28.und inf3 sz3 sd sd sd ?_
   try simp only [Int.toNat_natCast, Int.toNat_zero]
   refine vo_cut 25 rfl rfl (by omega) sd ?_
   refine vo_stM ?_
   refine vo_stM ?_
   refine vo_assign_ref rfl rfl ?_
   refine vo_nil ?_
   refine hK4 _ ?_
   refine vc_seq fun K7 hK7 => ?_
   refine vc_region ?_
   refine vo_move_ref rfl rfl ?_
   refine vo_assign_ref rfl rfl ?_
   refine vo_nil ?_
   refine hK7 _ ?_
   refine vc_ret ?_
   change retQ _ _ _ _ _
   refine retQ_sel [0] (srows := [_]) (.inr rfl) hC rfl rfl rfl rfl rfl rfl rfl ?_
   refine ⟨rfl, ?_⟩
   exact ⟨_, rfl⟩
  ·try simp only [zq0, zq1, zq2, zq3, zq4, zq5, zq6, zq7, zq8, zq9, zqa, zqb, zqc, zqd, zqe, zqf] at hc2
   refine vc_skip ?_
   refine hK4 _ ?_
   refine vc_seq fun K8 hK8 => ?_
   refine vc_region ?_
   refine vo_move_pv rfl rfl ?_
   refine vo_assign_pv rfl rfl ?_
   refine vo_nil ?_
   refine hK8 _ ?_
   refine vc_own_nil 4 E28 rfl ?_
   refine vc_ret ?_
   change retQ _ _ _ _ _
   refine retQ_sel [0] (srows := [_]) (.inr rfl) hC rfl rfl rfl rfl rfl rfl rfl ?_
   refine ⟨rfl, ?_⟩
   exact ⟨_, rfl⟩


theorem Concat_sat {L : List (List Int)} {nl : Option Bool} (h1 : L.length ≤ 10) (h2 : ∀ l ∈ L, l.length ≤ 10000) {f : Bool} : SatAt Try.prog 99 [.pv f (.sl nl 1 (L.map ints))] [] (fun res rows => ∃ nl, res = [.ref 0] ∧ rows = [Row.own 3 1 nl true (L.flatten.map intP)]) := by
 refine sat_entry_G (rs := [(2, none)]) Try.func99 rfl rfl (Nat.le_of_ble_eq_true rfl) (Nat.le_of_ble_eq_true rfl) (resTs1 trivial) fun C hC => ?_
 rw [Try.ntmps99]
 replace hC : C.nb = 0 := hC
 refine vc_seq fun K1 hK1 => ?_
 refine vc_region ?_
 refine vo_assign_pv rfl rfl ?_
 refine vo_nil ?_
 refine hK1 _ ?_
 refine vc_seq fun K2 hK2 => ?_
 refine vc_region ?_
 refine vo_assign_pv rfl rfl ?_
 refine vo_nil ?_
 refine hK2 _ ?_
 refine vc_seq fun K3 hK3 => ?_
 refine vc_seq fun K4 hK4 => ?_
 refine vc_region ?_
 refine vo_move_pv rfl rfl ?_
 refine vo_len_pv rfl rfl Try.underlying23 ?_
 refine vo_move_pv rfl rfl ?_
 refine vo_nil ?_
 refine hK4 _ ?_
 refine vc_block ?_
 refine vc_stM ?_
 refine vc_loopE [0, 9, 10] [3, 11] [] _ _ (fun mz vs rs => ∃ (k : Nat) (z : Int), mz = L.length - k ∧ (k ≤ L.length) ∧ (z = ((L.take k).flatten.length : Nat)) ∧ (z ≤ 10000 * k) ∧ vs = [i64 z, i64 k] ∧ rs = []) (L.length) rfl rfl (le_len hC rfl) ⟨rfl, rfl, rfl⟩ rfl ⟨0, 0, rfl, (Nat.zero_le _), rfl, (by omega), rfl, rfl⟩ ?_
 rintro mz vs rs - - ⟨k, z, rfl, hk, hz, hz2, rfl, rfl⟩
 refine vc_stM ?_
 have hlk := getD_all (p := fun l : List Int => l.length ≤ 10000) h2 [] (by simp) k
 have hml : (List.map intP (L.getD k [])).length = (L.getD k []).length := List.length_map ..
 refine vc_seq fun K5 hK5 => ?_
 refine vc_region ?_
 refine vo_binI rfl rfl rfl rfl trivial ?_
 refine vo_nil ?_
 refine hK5 _ ?_
 refine vc_seq fun K6 hK6 => ?_
 refine vc_cond rfl (fun hc1 => ?_) (fun hc1 => ?_)
 ·try simp only [zq0, zq1, zq2, zq3, zq4, zq5, zq6, zq7, zq8, zq9, zqa, zqb, zqc, zqd, zqe, zqf] at hc1
  refine vc_skip ?_
  refine hK6 _ ?_
  refine vc_seq fun K7 hK7 => ?_
  refine vc_block ?_
  refine vc_seq fun K8 hK8 => ?_
  refine vc_region ?_
  refine vo_index_pv (.sl none 1 []) rfl rfl rfl E23.und inf28 sz28 sd sd ?_
  simp only [Int.toNat_natCast, Int.toNat_zero, getD_ints, getD_intss, getD_bools, getD_bytes, PV.cells, getD_ops, getD_pairs, getD_insts, getD_attrs, getD_attrss, getD_objs]
  refine vo_load_adr rfl rfl Try.underlying28 rfl ?_
  refine vo_assign_pv rfl rfl ?_
  refine vo_nil ?_
  refine hK8 _ ?_
  refine vc_seq fun K9 hK9 => ?_
  refine vc_region ?_
  refine vo_move_pv rfl rfl ?_
  refine vo_move_pv rfl rfl ?_
  refine vo_len_pv rfl rfl Try.underlying28 ?_
  refine vo_binI rfl rfl rfl rfl sd ?_
  refine vo_assign_pv rfl rfl ?_
  refine vo_nil ?_
  refine hK9 _ ?_
  refine vc_seq fun K10 hK10 => ?_
  refine vc_region ?_
  refine vo_move_pv rfl rfl ?_
  refine vo_binI rfl rfl rfl rfl trivial ?_
  refine vo_nil ?_
  refine hK10 _ ?_
  refine vc_cond rfl (fun hc2 => ?_) (fun hc2 => ?_)
  ·try simp only [zq0, zq1, zq2, zq3, zq4, zq5, zq6, zq7, zq8, zq9, zqa, zqb, zqc, zqd, zqe, zqf] at hc2
   omega
  ·try simp only [zq0, zq1, zq2, zq3, zq4, zq5, zq6, zq7, zq8, zq9, zqa, zqb, zqc, zqd, zqe, zqf] at hc2
   refine vc_skip ?_
   refine hK7 _ ?_
   refine vc_region ?_
   refine vo_binI rfl rfl rfl rfl sd ?_
   refine vo_move_pv rfl rfl ?_
   refine vo_nil ?_
   change againE _ _ _ _ _ _ _ _ _ _
   refine againE_mk rfl rfl rfl rfl rfl rfl ⟨_, ?_, k + 1, _, rfl, ?_, ?_, ?_, rfl, rfl⟩
   ·omega
   ·omega
   ·rw [flat_len (by omega), hz]; omega
   ·omega
 ·try simp only [zq0, zq1, zq2, zq3, zq4, zq5, zq6, zq7, zq8, zq9, zqa, zqb, zqc, zqd, zqe, zqf] at hc1
  refine vc_exit ?_
  refine hK3 _ ?_
  refine vc_seq fun K11 hK11 => ?_
  refine vc_region ?_
  refine vo_move_pv rfl rfl ?_
  refine vo_call [] Try.func132 rfl rfl rfl rfl rfl rfl rfl (SatAt.nil1 (Grow_nil_sat (by omega) (by omega))) ?_
  rintro _ _ ⟨rfl, nl9, rfl⟩
  refine ⟨Nat.le_of_ble_eq_true rfl, ⟨rfl, rfl, rfl, rfl⟩, .inl rfl, ?_⟩
  refine vo_stM ?_
  refine vo_assign_ref rfl rfl ?_
  refine vo_nil ?_
  refine hK11 _ ?_
  refine vc_seq fun K12 hK12 => ?_
  refine vc_seq fun K13 hK13 => ?_
  refine vc_region ?_
  refine vo_move_pv rfl rfl ?_
  refine vo_len_pv rfl rfl Try.underlying23 ?_
  refine vo_move_pv rfl rfl ?_
  refine vo_nil ?_
  refine hK13 _ ?_
  refine vc_block ?_
  refine vc_stM ?_
  refine vc_loopE [25, 26] [6, 27] [0] _ _ (fun mz vs rs => ∃ (k : Nat) (nl5 : Option Bool), mz = L.length - k ∧ (k ≤ L.length) ∧ ((L.take k).flatten.length ≤ 10000 * k) ∧ vs = [.ref 0, i64 k] ∧ rs = [Row.own 3 1 nl5 true ((L.take k).flatten.map intP)]) (L.length) rfl rfl (le_len hC rfl) ⟨rfl, rfl, rfl⟩ rfl ⟨0, nl9, rfl, (Nat.zero_le _), (by simp), rfl, rfl⟩ ?_
  rintro mz vs rs - - ⟨k, nl5, rfl, hk, hz, rfl, rfl⟩
  refine vc_stM ?_
  have hlk := getD_all (p := fun l : List Int => l.length ≤ 10000) h2 [] (by simp) k
  have hml : (List.map intP (L.getD k [])).length = (L.getD k []).length := List.length_map ..
  refine vc_seq fun K14 hK14 => ?_
  refine vc_region ?_
  refine vo_binI rfl rfl rfl rfl trivial ?_
  refine vo_nil ?_
  refine hK14 _ ?_
  refine vc_seq fun K15 hK15 => ?_
  refine vc_cond rfl (fun hc3 => ?_) (fun hc3 => ?_)
  ·try simp only [zq0, zq1, zq2, zq3, zq4, zq5, zq6, zq7, zq8, zq9, zqa, zqb, zqc, zqd, zqe, zqf] at hc3
   refine vc_skip ?_
   refine hK15 _ ?_
   refine vc_seq fun K16 hK16 => ?_
   refine vc_block ?_
   refine vc_seq fun K17 hK17 => ?_
   refine vc_region ?_
   refine vo_index_pv (.sl none 1 []) rfl rfl rfl E23.und inf28 sz28 sd sd ?_
   simp only [Int.toNat_natCast, Int.toNat_zero, getD_ints, getD_intss, getD_bools, getD_bytes, PV.cells, getD_ops, getD_pairs, getD_insts, getD_attrs, getD_attrss, getD_objs]
   refine vo_load_adr rfl rfl Try.underlying28 rfl ?_
   refine vo_assign_pv rfl rfl ?_
   refine vo_nil ?_
   refine hK17 _ ?_
   refine vc_region ?_
   refine vo_move_ref rfl rfl ?_
   refine vo_move_pv rfl rfl ?_
   refine vo_append E28 rfl (by omega) rfl rfl rfl sd sd ?_
   refine vo_stM ?_
   try simp only [app_ints, app_intss, app_bools, ← List.map_append]
   refine vo_clean 0 rfl (scal_ints _) ?_
   refine vo_stM ?_
   refine vo_assign_ref rfl rfl ?_
   refine vo_nil ?_
   refine hK16 _ ?_
   refine vc_region ?_
   refine vo_binI rfl rfl rfl rfl sd ?_
   refine vo_move_pv rfl rfl ?_
   refine vo_nil ?_
   change againE _ _ _ _ _ _ _ _ _ _
   refine againE_mk rfl rfl rfl rfl rfl rfl ⟨_, ?_, k + 1, _, rfl, ?_, ?_, rfl, (rowI_eq (by rw [flat_succ (by omega)]))⟩
   ·omega
   ·omega
   ·rw [flat_len (by omega)]; omega
  ·try simp only [zq0, zq1, zq2, zq3, zq4, zq5, zq6, zq7, zq8, zq9, zqa, zqb, zqc, zqd, zqe, zqf] at hc3
   refine vc_exit ?_
   refine hK12 _ ?_
   refine vc_seq fun K18 hK18 => ?_
   refine vc_region ?_
   refine vo_move_ref rfl rfl ?_
   refine vo_assign_ref rfl rfl ?_
   refine vo_nil ?_
   refine hK18 _ ?_
   refine vc_ret ?_
   change retQ _ _ _ _ _
   refine retQ_sel [0] (srows := [_]) (.inr rfl) hC rfl rfl rfl rfl rfl rfl rfl ?_
   rw [take_all (by omega)]; exact ⟨_, rfl, rfl⟩


theorem specValidWork_sat {x : WorksM}  (hx : SK x) : SatAt Try.prog 59 [.pv false (worksP x)] [] (fun res rows => res = [bo (decide (VWorks x))] ∧ rows = []) := by
  obtain ⟨⟨b1, b2⟩, ⟨a1, a2⟩, r1, r2⟩ := hx
  refine sat_entry_G (rs := [(2, none)]) Try.func59 rfl rfl (Nat.le_of_ble_eq_true rfl) (Nat.le_of_ble_eq_true rfl) (resTs1 trivial) fun C hC => ?_
  rw [Try.ntmps59]
  replace hC : C.nb = 0 := hC
  refine vc_seq fun K1 hK1 => ?_
  refine vc_region ?_
  refine vo_box rfl rfl ?_
  refine vo_stM ?_
  refine vo_assign_pv rfl rfl ?_
  refine vo_nil ?_
  refine hK1 _ ?_
  refine vc_seq fun K2 hK2 => ?_
  refine vc_seq fun K3 hK3 => ?_
  refine vc_region ?_
  refine vo_fieldAddr_ptr rfl rfl Try.underlying25 rfl inf23 (by rw [sz23]; decide) ?_
  try simp only [Nat.zero_add]
  refine vo_load_var rfl rfl rfl Try.underlying23 rfl rfl ?_
  refine vo_call0 Try.func101 rfl rfl rfl rfl (specValidBases0_sat (by omega) (fun l hl => by have := b2 l hl; omega)) ?_
  rintro _ _ ⟨rfl, rfl⟩
  refine ⟨rfl, rfl, .inl rfl, ?_⟩
  refine vo_stM ?_
  refine vo_not rfl rfl ?_
  refine vo_move_pv rfl rfl ?_
  refine vo_split 9 rfl (fun hg1 => ?_) (fun hg1 => ?_)
  · try simp only [zq0, zq1, zq2, zq3, zq4, zq5, zq6, zq7, zq8, zq9, zqa, zqb, zqc, zqd, zqe, zqf] at hg1
    refine vo_guard_off rfl rfl rfl rfl rfl ?_
    refine vo_guard_off rfl rfl rfl rfl rfl ?_
    refine vo_guard_off rfl rfl rfl rfl rfl ?_
    refine vo_guard_off rfl rfl rfl rfl rfl ?_
    refine vo_pick_t rfl rfl ?_
    refine vo_move_pv rfl rfl ?_
    refine vo_guard_off rfl rfl rfl rfl rfl ?_
    refine vo_guard_off rfl rfl rfl rfl rfl ?_
    refine vo_guard_off rfl rfl rfl rfl rfl ?_
    refine vo_guard_off rfl rfl rfl rfl rfl ?_
    refine vo_guard_off rfl rfl rfl rfl rfl ?_
    refine vo_guard_off rfl rfl rfl rfl rfl ?_
    refine vo_guard_off rfl rfl rfl rfl rfl ?_
    refine vo_pick_t rfl rfl ?_
    refine vo_move_pv rfl rfl ?_
    refine vo_guard_off rfl rfl rfl rfl rfl ?_
    refine vo_guard_off rfl rfl rfl rfl rfl ?_
    refine vo_guard_off rfl rfl rfl rfl rfl ?_
    refine vo_guard_off rfl rfl rfl rfl rfl ?_
    refine vo_guard_off rfl rfl rfl rfl rfl ?_
    refine vo_guard_off rfl rfl rfl rfl rfl ?_
    refine vo_guard_off rfl rfl rfl rfl rfl ?_
    refine vo_pick_t rfl rfl ?_
    refine vo_nil ?_
    refine hK3 _ ?_
    refine vc_cond_t rfl ?_
    refine vc_seq fun K4 hK4 => ?_
    refine vc_region ?_
    refine vo_assign_pv rfl rfl ?_
    refine vo_nil ?_
    refine hK4 _ ?_
    refine vc_ret ?_
    change retQ _ _ _ _ _
    refine retQ_sel [] (srows := []) (.inr rfl) hC rfl rfl rfl rfl rfl rfl rfl ?_
    refine ⟨?_, rfl⟩
    refine (congrArg (fun b => [bo b]) (?_ : _ = _) : [bo _] = [bo _])
    first
      | (refine bF fun h0 => ?_
         have h1 := h0.2.1; have h2 := h0.2.2.1
         first
           | omega
           | exact absurd h0.1 (by assumption)
           | exact absurd h0.1.1 (by assumption)
           | exact absurd h0.1.2 (by assumption)
           | exact absurd (h0.2.2.2 k (by omega)) (by assumption)
           | exact absurd (h0.2.2.2 k (by omega)).1 (by assumption)
           | exact absurd (h0.2.2.2 k (by omega)).2 (by assumption))
      | exact bT ⟨by first | assumption | exact ⟨hg1, hg2⟩, by omega, by omega, fun i hi => hf i (by omega)⟩
  · try simp only [zq0, zq1, zq2, zq3, zq4, zq5, zq6, zq7, zq8, zq9, zqa, zqb, zqc, zqd, zqe, zqf] at hg1
    refine vo_guard_on rfl rfl rfl ?_
    refine vo_fieldAddr_ptr rfl rfl Try.underlying25 rfl inf23 (by rw [sz23]; decide) ?_
    try simp only [Nat.zero_add]
    refine vo_guard_on rfl rfl rfl ?_
    refine vo_load_var rfl rfl rfl Try.underlying23 rfl rfl ?_
    refine vo_guard_on rfl rfl rfl ?_
    refine vo_call0 Try.func102 rfl rfl rfl rfl (allOrders_sat (by omega) (fun l hl => by have := b2 l hl; omega) hg1) ?_
    rintro _ _ ⟨rfl, rfl⟩
    refine ⟨rfl, rfl, .inl rfl, ?_⟩
    refine vo_stM ?_
    refine vo_guard_on rfl rfl rfl ?_
    refine vo_not rfl rfl ?_
    refine vo_pick_f rfl rfl ?_
    refine vo_move_pv rfl rfl ?_
    refine vo_split 15 rfl (fun hg2 => ?_) (fun hg2 => ?_)
    · try simp only [zq0, zq1, zq2, zq3, zq4, zq5, zq6, zq7, zq8, zq9, zqa, zqb, zqc, zqd, zqe, zqf] at hg2
      refine vo_guard_off rfl rfl rfl rfl rfl ?_
      refine vo_guard_off rfl rfl rfl rfl rfl ?_
      refine vo_guard_off rfl rfl rfl rfl rfl ?_
      refine vo_guard_off rfl rfl rfl rfl rfl ?_
      refine vo_guard_off rfl rfl rfl rfl rfl ?_
      refine vo_guard_off rfl rfl rfl rfl rfl ?_
      refine vo_guard_off rfl rfl rfl rfl rfl ?_
      refine vo_pick_t rfl rfl ?_
      refine vo_move_pv rfl rfl ?_
      refine vo_guard_off rfl rfl rfl rfl rfl ?_
      refine vo_guard_off rfl rfl rfl rfl rfl ?_
      refine vo_guard_off rfl rfl rfl rfl rfl ?_
      refine vo_guard_off rfl rfl rfl rfl rfl ?_
      refine vo_guard_off rfl rfl rfl rfl rfl ?_
      refine vo_guard_off rfl rfl rfl rfl rfl ?_
      refine vo_guard_off rfl rfl rfl rfl rfl ?_
      refine vo_pick_t rfl rfl ?_
      refine vo_nil ?_
      refine hK3 _ ?_
      refine vc_cond_t rfl ?_
      refine vc_seq fun K5 hK5 => ?_
      refine vc_region ?_
      refine vo_assign_pv rfl rfl ?_
      refine vo_nil ?_
      refine hK5 _ ?_
      refine vc_ret ?_
      change retQ _ _ _ _ _
      refine retQ_sel [] (srows := []) (.inr rfl) hC rfl rfl rfl rfl rfl rfl rfl ?_
      refine ⟨?_, rfl⟩
      refine (congrArg (fun b => [bo b]) (?_ : _ = _) : [bo _] = [bo _])
      first
        | (refine bF fun h0 => ?_
           have h1 := h0.2.1; have h2 := h0.2.2.1
           first
             | omega
             | exact absurd h0.1 (by assumption)
             | exact absurd h0.1.1 (by assumption)
             | exact absurd h0.1.2 (by assumption)
             | exact absurd (h0.2.2.2 k (by omega)) (by assumption)
             | exact absurd (h0.2.2.2 k (by omega)).1 (by assumption)
             | exact absurd (h0.2.2.2 k (by omega)).2 (by assumption))
        | exact bT ⟨by first | assumption | exact ⟨hg1, hg2⟩, by omega, by omega, fun i hi => hf i (by omega)⟩
    · try simp only [zq0, zq1, zq2, zq3, zq4, zq5, zq6, zq7, zq8, zq9, zqa, zqb, zqc, zqd, zqe, zqf] at hg2
      refine vo_guard_on rfl rfl rfl ?_
      refine vo_fieldAddr_ptr rfl rfl Try.underlying25 rfl inf23 (by rw [sz23]; decide) ?_
      try simp only [Nat.zero_add]
      refine vo_guard_on rfl rfl rfl ?_
      refine vo_load_var rfl rfl rfl Try.underlying23 rfl rfl ?_
      refine vo_guard_on rfl rfl rfl ?_
      refine vo_len_pv rfl rfl Try.underlying23 ?_
      refine vo_guard_on rfl rfl rfl ?_
      refine vo_fieldAddr_ptr rfl rfl Try.underlying25 rfl inf23 (by rw [sz23]; decide) ?_
      try simp only [Nat.zero_add]
      refine vo_guard_on rfl rfl rfl ?_
      refine vo_load_var rfl rfl rfl Try.underlying23 rfl rfl ?_
      refine vo_guard_on rfl rfl rfl ?_
      refine vo_len_pv rfl rfl Try.underlying23 ?_
      refine vo_guard_on rfl rfl rfl ?_
      refine vo_binI rfl rfl rfl rfl trivial ?_
      refine vo_pick_f rfl rfl ?_
      refine vo_move_pv rfl rfl ?_
      refine vo_split 24 rfl (fun hg3 => ?_) (fun hg3 => ?_)
      · try simp only [zq0, zq1, zq2, zq3, zq4, zq5, zq6, zq7, zq8, zq9, zqa, zqb, zqc, zqd, zqe, zqf] at hg3
        refine vo_guard_off rfl rfl rfl rfl rfl ?_
        refine vo_guard_off rfl rfl rfl rfl rfl ?_
        refine vo_guard_off rfl rfl rfl rfl rfl ?_
        refine vo_guard_off rfl rfl rfl rfl rfl ?_
        refine vo_guard_off rfl rfl rfl rfl rfl ?_
        refine vo_guard_off rfl rfl rfl rfl rfl ?_
        refine vo_guard_off rfl rfl rfl rfl rfl ?_
        refine vo_pick_t rfl rfl ?_
        refine vo_nil ?_
        refine hK3 _ ?_
        refine vc_cond_t rfl ?_
        refine vc_seq fun K6 hK6 => ?_
        refine vc_region ?_
        refine vo_assign_pv rfl rfl ?_
        refine vo_nil ?_
        refine hK6 _ ?_
        refine vc_ret ?_
        change retQ _ _ _ _ _
        refine retQ_sel [] (srows := []) (.inr rfl) hC rfl rfl rfl rfl rfl rfl rfl ?_
        refine ⟨?_, rfl⟩
        refine (congrArg (fun b => [bo b]) (?_ : _ = _) : [bo _] = [bo _])
        first
          | (refine bF fun h0 => ?_
             have h1 := h0.2.1; have h2 := h0.2.2.1
             first
               | omega
               | exact absurd h0.1 (by assumption)
               | exact absurd h0.1.1 (by assumption)
               | exact absurd h0.1.2 (by assumption)
               | exact absurd (h0.2.2.2 k (by omega)) (by assumption)
               | exact absurd (h0.2.2.2 k (by omega)).1 (by assumption)
               | exact absurd (h0.2.2.2 k (by omega)).2 (by assumption))
          | exact bT ⟨by first | assumption | exact ⟨hg1, hg2⟩, by omega, by omega, fun i hi => hf i (by omega)⟩
      · try simp only [zq0, zq1, zq2, zq3, zq4, zq5, zq6, zq7, zq8, zq9, zqa, zqb, zqc, zqd, zqe, zqf] at hg3
        refine vo_guard_on rfl rfl rfl ?_
        refine vo_fieldAddr_ptr rfl rfl Try.underlying25 rfl inf23 (by rw [sz23]; decide) ?_
        try simp only [Nat.zero_add]
        refine vo_guard_on rfl rfl rfl ?_
        refine vo_load_var rfl rfl rfl Try.underlying23 rfl rfl ?_
        refine vo_guard_on rfl rfl rfl ?_
        refine vo_len_pv rfl rfl Try.underlying23 ?_
        refine vo_guard_on rfl rfl rfl ?_
        refine vo_fieldAddr_ptr rfl rfl Try.underlying25 rfl inf23 (by rw [sz23]; decide) ?_
        try simp only [Nat.zero_add]
        refine vo_guard_on rfl rfl rfl ?_
        refine vo_load_var rfl rfl rfl Try.underlying23 rfl rfl ?_
        refine vo_guard_on rfl rfl rfl ?_
        refine vo_len_pv rfl rfl Try.underlying23 ?_
        refine vo_guard_on rfl rfl rfl ?_
        refine vo_binI rfl rfl rfl rfl trivial ?_
        refine vo_pick_f rfl rfl ?_
        refine vo_nil ?_
        refine hK3 _ ?_
        refine vc_cond rfl (fun hc4 => ?_) (fun hc4 => ?_)
        · try simp only [zq0, zq1, zq2, zq3, zq4, zq5, zq6, zq7, zq8, zq9, zqa, zqb, zqc, zqd, zqe, zqf] at hc4
          refine vc_seq fun K7 hK7 => ?_
          refine vc_region ?_
          refine vo_assign_pv rfl rfl ?_
          refine vo_nil ?_
          refine hK7 _ ?_
          refine vc_ret ?_
          change retQ _ _ _ _ _
          refine retQ_sel [] (srows := []) (.inr rfl) hC rfl rfl rfl rfl rfl rfl rfl ?_
          refine ⟨?_, rfl⟩
          refine (congrArg (fun b => [bo b]) (?_ : _ = _) : [bo _] = [bo _])
          first
            | (refine bF fun h0 => ?_
               have h1 := h0.2.1; have h2 := h0.2.2.1
               first
                 | omega
                 | exact absurd h0.1 (by assumption)
                 | exact absurd h0.1.1 (by assumption)
                 | exact absurd h0.1.2 (by assumption)
                 | exact absurd (h0.2.2.2 k (by omega)) (by assumption)
                 | exact absurd (h0.2.2.2 k (by omega)).1 (by assumption)
                 | exact absurd (h0.2.2.2 k (by omega)).2 (by assumption))
            | exact bT ⟨by first | assumption | exact ⟨hg1, hg2⟩, by omega, by omega, fun i hi => hf i (by omega)⟩
        · try simp only [zq0, zq1, zq2, zq3, zq4, zq5, zq6, zq7, zq8, zq9, zqa, zqb, zqc, zqd, zqe, zqf] at hc4
          refine vc_skip ?_
          refine hK2 _ ?_
          refine vc_seq fun K8 hK8 => ?_
          refine vc_seq fun K9 hK9 => ?_
          refine vc_region ?_
          refine vo_assign_pv rfl rfl ?_
          refine vo_nil ?_
          refine hK9 _ ?_
          refine vc_block ?_
          refine vc_stM ?_
          refine vc_loopE [1] [3] [] _ _ (fun mz vs rs => ∃ (k : Nat), mz = x.bases.length - k ∧ (k ≤ x.bases.length) ∧ (∀ i, i < k → okWk (x.abs.getD i []) (x.real.getD i [])) ∧ vs = [i64 k] ∧ rs = []) (x.bases.length) rfl rfl (le_len hC rfl) ⟨rfl, rfl, rfl⟩ rfl ⟨0, rfl, Nat.zero_le _, (fun i h => by omega), rfl, rfl⟩ ?_
          rintro mz vs rs - - ⟨k, rfl, hk, hf, rfl, rfl⟩
          refine vc_stM ?_
          have hal := getD_all (p := fun l : List Int => l.length ≤ 2000000) a2 [] (by simp) k
          have hrl := getD_all (p := fun l : List Int => l.length ≤ 2000000) r2 [] (by simp) k
          refine vc_seq fun K10 hK10 => ?_
          refine vc_seq fun K11 hK11 => ?_
          refine vc_region ?_
          refine vo_move_pv rfl rfl ?_
          refine vo_fieldAddr_ptr rfl rfl Try.underlying25 rfl inf23 (by rw [sz23]; decide) ?_
          try simp only [Nat.zero_add]
          refine vo_load_var rfl rfl rfl Try.underlying23 rfl rfl ?_
          refine vo_len_pv rfl rfl Try.underlying23 ?_
          refine vo_binI rfl rfl rfl rfl trivial ?_
          refine vo_nil ?_
          refine hK11 _ ?_
          refine vc_cond rfl (fun hc5 => ?_) (fun hc5 => ?_)
          · try simp only [zq0, zq1, zq2, zq3, zq4, zq5, zq6, zq7, zq8, zq9, zqa, zqb, zqc, zqd, zqe, zqf] at hc5
            refine vc_skip ?_
            refine hK10 _ ?_
            refine vc_seq fun K12 hK12 => ?_
            refine vc_block ?_
            refine vc_seq fun K13 hK13 => ?_
            refine vc_drawL [11, 12] (by kernel_rfl) ?_
            change VL [11, 12] _ _ _ 13 _ _ _
            refine vl_light 0 [2, 6, 7, 8, 9, 10] rfl rfl rfl (by kernel_rfl) (by kernel_rfl) (by kernel_rfl) (by kernel_rfl) (by kernel_rfl) (wnt_none rfl) (lt_fieldAddr_ptr rfl Try.underlying25 rfl inf23 (by rw [sz23]; decide)) ?_
            try simp only [Nat.zero_add]
            refine vl_light 1 [0, 2, 6, 7, 8, 9, 10] rfl rfl rfl (by kernel_rfl) (by kernel_rfl) (by kernel_rfl) (by kernel_rfl) (by kernel_rfl) (wnt_none rfl) (lt_load_var rfl rfl Try.underlying23 rfl rfl) ?_
            refine vl_light 2 [0, 1, 6, 7, 8, 9, 10] rfl rfl rfl (by kernel_rfl) (by kernel_rfl) (by kernel_rfl) (by kernel_rfl) (by kernel_rfl) (wnt_none rfl) (lt_move_pv rfl) ?_
            refine vl_light 3 [0, 1, 2, 6, 7, 8, 9, 10] rfl rfl rfl (by kernel_rfl) (by kernel_rfl) (by kernel_rfl) (by kernel_rfl) (by kernel_rfl) (wnt_none rfl) (lt_index_pv (.sl none 1 []) rfl rfl E23.und inf28 sz28 sd sd) ?_
            simp only [Int.toNat_natCast, Int.toNat_zero, getD_ints, getD_intss, getD_bools, getD_bytes, PV.cells, getD_ops, getD_pairs, getD_insts, getD_attrs, getD_attrss, getD_objs]
            refine vl_light 4 [0, 1, 2, 3, 6, 7, 8, 9, 10] rfl rfl rfl (by kernel_rfl) (by kernel_rfl) (by kernel_rfl) (by kernel_rfl) (by kernel_rfl) (wnt_none rfl) (lt_load_adr rfl Try.underlying28 rfl) ?_
            refine vl_light 6 [0, 1, 2, 3, 4, 5, 8] rfl rfl rfl (by kernel_rfl) (by kernel_rfl) (by kernel_rfl) (by kernel_rfl) (by kernel_rfl) (wnt_none rfl) (lt_fieldAddr_ptr rfl Try.underlying25 rfl inf23 (by rw [sz23]; decide)) ?_
            try simp only [Nat.zero_add]
            refine vl_light 7 [0, 1, 2, 3, 4, 5, 6, 8] rfl rfl rfl (by kernel_rfl) (by kernel_rfl) (by kernel_rfl) (by kernel_rfl) (by kernel_rfl) (wnt_none rfl) (lt_load_var rfl rfl Try.underlying23 rfl rfl) ?_
            refine vl_light 8 [0, 1, 2, 3, 4, 5, 6, 7] rfl rfl rfl (by kernel_rfl) (by kernel_rfl) (by kernel_rfl) (by kernel_rfl) (by kernel_rfl) (wnt_none rfl) (lt_move_pv rfl) ?_
            refine vl_light 9 [0, 1, 2, 3, 4, 5, 6, 7, 8] rfl rfl rfl (by kernel_rfl) (by kernel_rfl) (by kernel_rfl) (by kernel_rfl) (by kernel_rfl) (wnt_none rfl) (lt_index_pv (.sl none 1 []) rfl rfl E23.und inf28 sz28 sd sd) ?_
            simp only [Int.toNat_natCast, Int.toNat_zero, getD_ints, getD_intss, getD_bools, getD_bytes, PV.cells, getD_ops, getD_pairs, getD_insts, getD_attrs, getD_attrss, getD_objs]
            refine vl_light 10 [0, 1, 2, 3, 4, 5, 6, 7, 8, 9] rfl rfl rfl (by kernel_rfl) (by kernel_rfl) (by kernel_rfl) (by kernel_rfl) (by kernel_rfl) (wnt_none rfl) (lt_load_adr rfl Try.underlying28 rfl) ?_
            refine vl_callR 5 [] rfl rfl (by kernel_rfl) (wnt_none rfl) Try.func103 rfl rfl rfl rfl (copyInts_sat (list := x.abs.getD k []) (by omega)) rfl rfl rfl ?_
            rintro _ _ ⟨nl9, rfl, rfl⟩
            refine ⟨Nat.le_of_ble_eq_true rfl, ⟨rfl, rfl, rfl, rfl⟩, .inl rfl, ?_⟩
            refine vl_stM ?_
            refine vl_one 11 rfl (by kernel_rfl) rfl ?_
            refine vo_append E28 rfl (by omega) rfl rfl rfl sd sd ?_
            refine vo_stM ?_
            try simp only [app_ints, app_intss, app_bools, ← List.map_append]
            refine vo_done ⟨rfl, ?_⟩
            refine vl_one 12 rfl (by kernel_rfl) rfl ?_
            refine vo_assign_ref rfl rfl ?_
            refine vo_done ⟨rfl, ?_⟩
            refine vl_nil (by kernel_rfl) ?_
            refine hK13 _ ?_
            refine vc_seq fun K14 hK14 => ?_
            refine vc_region ?_
            refine vo_move_ref rfl rfl ?_
            refine vo_expose 1 (by omega) rfl ?_
            refine vo_stM ?_
            refine vo_weaken 52 rfl ?_
            refine vo_stM ?_
            refine vo_call0 Try.func104 rfl rfl rfl rfl (different_sat (list := (x.abs.getD k [] ++ x.real.getD k [])) (by rw [List.length_append]; omega)) ?_
            rintro _ _ ⟨rfl, rfl⟩
            refine ⟨rfl, rfl, .inl rfl, ?_⟩
            refine vo_stM ?_
            refine vo_not rfl rfl ?_
            refine vo_move_pv rfl rfl ?_
            refine vo_split 55 rfl (fun hg6 => ?_) (fun hg6 => ?_)
            · try simp only [zq0, zq1, zq2, zq3, zq4, zq5, zq6, zq7, zq8, zq9, zqa, zqb, zqc, zqd, zqe, zqf] at hg6
              refine vo_guard_off rfl rfl rfl rfl rfl ?_
              refine vo_guard_off rfl rfl rfl rfl rfl ?_
              refine vo_guard_off rfl rfl rfl rfl rfl ?_
              refine vo_pick_t rfl rfl ?_
              refine vo_nil ?_
              refine hK14 _ ?_
              refine vc_cond_t rfl ?_
              refine vc_seq fun K15 hK15 => ?_
              refine vc_region ?_
              refine vo_assign_pv rfl rfl ?_
              refine vo_nil ?_
              refine hK15 _ ?_
              refine vc_ret ?_
              change retQ _ _ _ _ _
              refine retQ_sel [] (srows := []) (.inr rfl) hC rfl rfl rfl rfl rfl rfl rfl ?_
              refine ⟨?_, rfl⟩
              refine (congrArg (fun b => [bo b]) (?_ : _ = _) : [bo _] = [bo _])
              first
                | (refine bF fun h0 => ?_
                   have h1 := h0.2.1; have h2 := h0.2.2.1
                   first
                     | omega
                     | exact absurd h0.1 (by assumption)
                     | exact absurd h0.1.1 (by assumption)
                     | exact absurd h0.1.2 (by assumption)
                     | exact absurd (h0.2.2.2 k (by omega)) (by assumption)
                     | exact absurd (h0.2.2.2 k (by omega)).1 (by assumption)
                     | exact absurd (h0.2.2.2 k (by omega)).2 (by assumption))
                | exact bT ⟨by first | assumption | exact ⟨hg1, hg2⟩, by omega, by omega, fun i hi => hf i (by omega)⟩
            · try simp only [zq0, zq1, zq2, zq3, zq4, zq5, zq6, zq7, zq8, zq9, zqa, zqb, zqc, zqd, zqe, zqf] at hg6
              refine vo_guard_on rfl rfl rfl ?_
              refine vo_move_pv rfl rfl ?_
              refine vo_guard_on rfl rfl rfl ?_
              refine vo_call0 Try.func105 rfl rfl rfl rfl (allIn_sat (list := (x.abs.getD k [] ++ x.real.getD k [])) (by rw [List.length_append]; omega)) ?_
              rintro _ _ ⟨rfl, rfl⟩
              refine ⟨rfl, rfl, .inl rfl, ?_⟩
              refine vo_stM ?_
              refine vo_guard_on rfl rfl rfl ?_
              refine vo_not rfl rfl ?_
              refine vo_pick_f rfl rfl ?_
              refine vo_nil ?_
              refine hK14 _ ?_
              refine vc_cond rfl (fun hc7 => ?_) (fun hc7 => ?_)
              · try simp only [zq0, zq1, zq2, zq3, zq4, zq5, zq6, zq7, zq8, zq9, zqa, zqb, zqc, zqd, zqe, zqf] at hc7
                refine vc_seq fun K16 hK16 => ?_
                refine vc_region ?_
                refine vo_assign_pv rfl rfl ?_
                refine vo_nil ?_
                refine hK16 _ ?_
                refine vc_ret ?_
                change retQ _ _ _ _ _
                refine retQ_sel [] (srows := []) (.inr rfl) hC rfl rfl rfl rfl rfl rfl rfl ?_
                refine ⟨?_, rfl⟩
                refine (congrArg (fun b => [bo b]) (?_ : _ = _) : [bo _] = [bo _])
                first
                  | (refine bF fun h0 => ?_
                     have h1 := h0.2.1; have h2 := h0.2.2.1
                     first
                       | omega
                       | exact absurd h0.1 (by assumption)
                       | exact absurd h0.1.1 (by assumption)
                       | exact absurd h0.1.2 (by assumption)
                       | exact absurd (h0.2.2.2 k (by omega)) (by assumption)
                       | exact absurd (h0.2.2.2 k (by omega)).1 (by assumption)
                       | exact absurd (h0.2.2.2 k (by omega)).2 (by assumption))
                  | exact bT ⟨by first | assumption | exact ⟨hg1, hg2⟩, by omega, by omega, fun i hi => hf i (by omega)⟩
              · try simp only [zq0, zq1, zq2, zq3, zq4, zq5, zq6, zq7, zq8, zq9, zqa, zqb, zqc, zqd, zqe, zqf] at hc7
                refine vc_skip ?_
                refine hK12 _ ?_
                refine vc_region ?_
                refine vo_move_pv rfl rfl ?_
                refine vo_binI rfl rfl rfl rfl sd ?_
                refine vo_assign_pv rfl rfl ?_
                refine vo_nil ?_
                change againE _ _ _ _ _ _ _ _ _ _
                refine againE_mk rfl rfl rfl rfl rfl rfl ⟨_, ?_, k + 1, rfl, ?_, ?_, rfl, rfl⟩
                · omega
                · omega
                · intro i hi; rcases Nat.lt_or_ge i k with h1 | h1; exact hf i h1; rw [show i = k by omega]; first | assumption | exact ⟨by assumption, by assumption⟩
          · try simp only [zq0, zq1, zq2, zq3, zq4, zq5, zq6, zq7, zq8, zq9, zqa, zqb, zqc, zqd, zqe, zqf] at hc5
            refine vc_exit ?_
            refine hK8 _ ?_
            refine vc_seq fun K17 hK17 => ?_
            refine vc_region ?_
            refine vo_assign_pv rfl rfl ?_
            refine vo_nil ?_
            refine hK17 _ ?_
            refine vc_ret ?_
            change retQ _ _ _ _ _
            refine retQ_sel [] (srows := []) (.inr rfl) hC rfl rfl rfl rfl rfl rfl rfl ?_
            refine ⟨?_, rfl⟩
            refine (congrArg (fun b => [bo b]) (?_ : _ = _) : [bo _] = [bo _])
            first
              | (refine bF fun h0 => ?_
                 have h1 := h0.2.1; have h2 := h0.2.2.1
                 first
                   | omega
                   | exact absurd h0.1 (by assumption)
                   | exact absurd h0.1.1 (by assumption)
                   | exact absurd h0.1.2 (by assumption)
                   | exact absurd (h0.2.2.2 k (by omega)) (by assumption)
                   | exact absurd (h0.2.2.2 k (by omega)).1 (by assumption)
                   | exact absurd (h0.2.2.2 k (by omega)).2 (by assumption))
              | exact bT ⟨by first | assumption | exact ⟨hg1, hg2⟩, by omega, by omega, fun i hi => hf i (by omega)⟩


theorem specValidWorks_sat {x : WorksM}  (hx : SK x) : SatAt Try.prog 17 [.pv false (worksP x)] [] (fun res rows => res = [bo (decide (VWorks x))] ∧ rows = []) := by
 refine sat_entry_G (rs := [(2, none)]) Try.func17 rfl rfl (Nat.le_of_ble_eq_true rfl) (Nat.le_of_ble_eq_true rfl) (resTs1 trivial) fun C hC => ?_
 rw [Try.ntmps17]
 replace hC : C.nb = 0 := hC
 refine vc_seq fun K1 hK1 => ?_
 refine vc_region ?_
 refine vo_box rfl rfl ?_
 refine vo_stM ?_
 refine vo_assign_pv rfl rfl ?_
 refine vo_nil ?_
 refine hK1 _ ?_
 refine vc_seq fun K2 hK2 => ?_
 refine vc_region ?_
 refine vo_load_varS rfl rfl rfl Try.underlying25 rfl inf25 sz25 rfl rfl ?_
 refine vo_call0 Try.func59 rfl rfl rfl rfl (specValidWork_sat hx) ?_
 rintro _ _ ⟨rfl, rfl⟩
 refine ⟨rfl, rfl, .inl rfl, ?_⟩
 refine vo_stM ?_
 refine vo_assign_pv rfl rfl ?_
 refine vo_nil ?_
 refine hK2 _ ?_
 refine vc_ret ?_
 change retQ _ _ _ _ _
 refine retQ_sel [] (srows := []) (.inr rfl) hC rfl rfl rfl rfl rfl rfl rfl ?_
 refine ⟨?_, rfl⟩
 refine (congrArg (fun b => [bo b]) (?_ : _ = _) : [bo _] = [bo _])
 rfl

end Go.Vl

namespace Go.Vl
set_option linter.unusedVariables false
set_option linter.unusedSimpArgs false
open Go.Proofs

end Go.Vl

namespace Go.Vl
set_option linter.unusedVariables false
set_option linter.unusedSimpArgs false
open Go.Proofs

/-- A reader that has given p numbers. -/
abbrev rdr (nl : Option Bool) (c : List (Fin 256)) (p : Nat) : Row := .var 118 [.pv false (.sl nl 1 (c.map byteP)), i64 p]
/-- Bases as the readers make them. -/
def SB (B : List (List Int)) : Prop := 1 ≤ B.length ∧ B.getD 0 [] = [] ∧ ∀ i, i < B.length → 0 < i → B.getD i [] ≠ [] ∧ (B.getD i []).length ≤ 3 ∧ (B.getD i []).Nodup ∧ ∀ x ∈ B.getD i [], 0 ≤ x ∧ x < i
theorem getD_app {α : Type} {l l' : List α} {i : Nat} (h : i < l.length) (d : α) : (l ++ l').getD i d = l.getD i d := by simp [List.getD, List.getElem?_append_left h]
theorem getD_end {α : Type} {l : List α} {x : α} (d : α) : (l ++ [x]).getD l.length d = x := by simp [List.getD]
theorem nodup_snoc {l : List Int} {x : Int} (h : l.Nodup) (hx : x ∉ l) : (l ++ [x]).Nodup := by
  rw [List.nodup_append]; exact ⟨h, by simp, fun a ha b hb e => hx (by rw [List.mem_singleton.1 hb] at e; exact e ▸ ha)⟩
theorem SB.snoc {B : List (List Int)} {l : List Int} (h : SB B) (h1 : l ≠ []) (h2 : l.length ≤ 3) (h3 : l.Nodup) (h4 : ∀ x ∈ l, 0 ≤ x ∧ x < B.length) : SB (B ++ [l]) := by
  obtain ⟨a1, a2, a3⟩ := h
  refine ⟨by simp, by rw [getD_app (by omega)]; exact a2, fun i hi h0 => ?_⟩
  rcases Nat.lt_or_ge i B.length with hb | hb
  · rw [getD_app hb]; exact a3 i hb h0
  · have : i = B.length := by simp at hi; omega
    subst this
    rw [getD_end]
    exact ⟨h1, h2, h3, h4⟩
theorem SB.lens {B : List (List Int)} (h : SB B) : ∀ l ∈ B, l.length ≤ 3 := by
  intro l hl
  obtain ⟨i, hi, rfl⟩ := List.getElem_of_mem hl
  have e : B[i] = B.getD i [] := by simp [List.getD, List.getElem?_eq_getElem hi]
  rw [e]
  rcases Nat.eq_zero_or_pos i with rfl | h0
  · rw [h.2.1]; simp
  · exact (h.2.2 i hi h0).2.1

theorem newReader_sat {nl : Option Bool} {c : List (Fin 256)} (hl : c.length < 1000000000) : SatAt Try.prog 56 [.pv false (.sl nl 1 (c.map byteP))] [] (fun res rows => ∃ nl2 c2, c2.length ≤ 2000 ∧ res = [.ptr 0 0 0 0] ∧ rows = [rdr nl2 c2 0]) := by
 refine sat_entry_g (ts := [2]) Try.func56 rfl rfl (by decide) (Nat.le_of_ble_eq_true rfl) fun C hC => ?_
 rw [Try.ntmps56]
 replace hC : C.nb = 0 := hC
 refine vc_seq fun K1 hK1 => ?_
 refine vc_region ?_
 refine vo_assign rfl ?_
 refine vo_nil ?_
 refine hK1 _ ?_
 refine vc_seq fun K2 hK2 => ?_
 refine vc_seq fun K3 hK3 => ?_
 refine vc_region ?_
 refine vo_move_pv rfl rfl ?_
 refine vo_len_pv rfl rfl Try.underlying22 ?_
 refine vo_binI rfl rfl rfl rfl trivial ?_
 refine vo_nil ?_
 refine hK3 _ ?_
 refine vc_cond rfl (fun hc1 => ?_) (fun hc1 => ?_)
 ·try simp only [zq0, zq1, zq2, zq3, zq4, zq5, zq6, zq7, zq8, zq9, zqa, zqb, zqc, zqd, zqe, zqf] at hc1
  refine vc_region ?_
  refine vo_move_pv rfl rfl ?_
  refine vo_slice_pv rfl rfl rfl rfl E22.und inf5 sz5 sd sd sd ?_
  simp only [Int.toNat_natCast, Int.toNat_zero, List.drop_zero, Nat.sub_zero, ← List.map_drop, ← List.map_take]
  refine vo_assign_pv rfl rfl ?_
  refine vo_nil ?_
  refine hK2 _ ?_
  refine vc_seq fun K4 hK4 => ?_
  refine vc_region ?_
  refine vo_move_pv rfl rfl ?_
  refine vo_build S118 rfl rfl rfl ?_
  refine vo_box rfl rfl ?_
  refine vo_assign_ptr rfl rfl ?_
  refine vo_nil ?_
  refine hK4 _ ?_
  refine vc_ret ?_
  change retG _ _ _ _ _
  refine retG_one 0 hC rfl rfl rfl rfl rfl ?_
  refine ⟨_, _, ?_, rfl, rfl⟩
  first | omega | (simp; omega)
 ·try simp only [zq0, zq1, zq2, zq3, zq4, zq5, zq6, zq7, zq8, zq9, zqa, zqb, zqc, zqd, zqe, zqf] at hc1
  refine vc_skip ?_
  refine hK2 _ ?_
  refine vc_seq fun K5 hK5 => ?_
  refine vc_region ?_
  refine vo_move_pv rfl rfl ?_
  refine vo_build S118 rfl rfl rfl ?_
  refine vo_box rfl rfl ?_
  refine vo_assign_ptr rfl rfl ?_
  refine vo_nil ?_
  refine hK5 _ ?_
  refine vc_ret ?_
  change retG _ _ _ _ _
  refine retG_one 0 hC rfl rfl rfl rfl rfl ?_
  refine ⟨_, _, ?_, rfl, rfl⟩
  first | omega | (simp; omega)


theorem pick_sat {nl : Option Bool} {c : List (Fin 256)} {p : Nat} {n : Int} (hc : c.length ≤ 2000) (hp : p < 1000000) : SatAt Try.prog 74 [.ptr 0 0 0 0, i64 n] [rdr nl c p] (fun res rows => ∃ x, (0 ≤ x ∧ (1 ≤ n → x < n)) ∧ res = [i64 x] ∧ rows = [rdr nl c (p + 1)]) := by
 have hL : ((c.map byteP).length : Int) = c.length := by simp
 refine sat_entry_g (ts := [4]) Try.func74 rfl rfl (by decide) (Nat.le_of_ble_eq_true rfl) fun C hC => ?_
 rw [Try.ntmps74]
 replace hC : C.nb = 1 := hC
 refine vc_seq fun K1 hK1 => ?_
 refine vc_region ?_
 refine vo_assign_pv rfl rfl ?_
 refine vo_nil ?_
 refine hK1 _ ?_
 refine vc_seq fun K2 hK2 => ?_
 refine vc_region ?_
 refine vo_move_ptr rfl rfl ?_
 refine vo_move_ptr rfl rfl ?_
 refine vo_nilCheck_ptr rfl rfl ?_
 refine vo_fieldAddr_ptr rfl rfl Try.underlying118 rfl inf3 (by rw [sz3]; decide) ?_
 refine vo_load_var rfl rfl rfl Try.underlying3 rfl rfl ?_
 refine vo_binI rfl rfl rfl rfl sd ?_
 refine vo_nilCheck_ptr rfl rfl ?_
 refine vo_fieldAddr_ptr rfl rfl Try.underlying118 rfl inf3 (by rw [sz3]; decide) ?_
 refine vo_store_var rfl rfl rfl rfl inf3 sz3 rfl ?_
 refine vo_nil ?_
 refine hK2 _ ?_
 refine vc_seq fun K3 hK3 => ?_
 refine vc_seq fun K4 hK4 => ?_
 refine vc_region ?_
 refine vo_move_pv rfl rfl ?_
 refine vo_binI rfl rfl rfl rfl trivial ?_
 refine vo_move_pv rfl rfl ?_
 refine vo_split 17 rfl (fun hg1 => ?_) (fun hg1 => ?_)
 ·try simp only [zq0, zq1, zq2, zq3, zq4, zq5, zq6, zq7, zq8, zq9, zqa, zqb, zqc, zqd, zqe, zqf] at hg1
  refine vo_guard_off rfl rfl rfl rfl rfl ?_
  refine vo_guard_off rfl rfl rfl rfl rfl ?_
  refine vo_guard_off rfl rfl rfl rfl rfl ?_
  refine vo_guard_off rfl rfl rfl rfl rfl ?_
  refine vo_guard_off rfl rfl rfl rfl rfl ?_
  refine vo_guard_off rfl rfl rfl rfl rfl ?_
  refine vo_pick_t rfl rfl ?_
  refine vo_nil ?_
  refine hK4 _ ?_
  refine vc_cond_t rfl ?_
  refine vc_seq fun K5 hK5 => ?_
  refine vc_region ?_
  refine vo_assign_pv rfl rfl ?_
  refine vo_nil ?_
  refine hK5 _ ?_
  refine vc_ret ?_
  change retG _ _ _ _ _
  refine retG_sel [] [] hC rfl rfl rfl rfl rfl rfl ?_
  exact ⟨_, ⟨by omega, by omega⟩, rfl, rfl⟩
 ·try simp only [zq0, zq1, zq2, zq3, zq4, zq5, zq6, zq7, zq8, zq9, zqa, zqb, zqc, zqd, zqe, zqf] at hg1
  refine vo_guard_on rfl rfl rfl ?_
  refine vo_move_ptr rfl rfl ?_
  refine vo_guard_on rfl rfl rfl ?_
  refine vo_nilCheck_ptr rfl rfl ?_
  refine vo_guard_on rfl rfl rfl ?_
  refine vo_fieldAddr_ptr rfl rfl Try.underlying118 rfl inf22 (by rw [sz22]; decide) ?_
  refine vo_guard_on rfl rfl rfl ?_
  refine vo_load_var rfl rfl rfl Try.underlying22 rfl rfl ?_
  refine vo_guard_on rfl rfl rfl ?_
  refine vo_len_pv rfl rfl Try.underlying22 ?_
  refine vo_guard_on rfl rfl rfl ?_
  refine vo_binI rfl rfl rfl rfl trivial ?_
  refine vo_pick_f rfl rfl ?_
  refine vo_nil ?_
  refine hK4 _ ?_
  refine vc_cond rfl (fun hc2 => ?_) (fun hc2 => ?_)
  ·try simp only [zq0, zq1, zq2, zq3, zq4, zq5, zq6, zq7, zq8, zq9, zqa, zqb, zqc, zqd, zqe, zqf] at hc2
   refine vc_seq fun K6 hK6 => ?_
   refine vc_region ?_
   refine vo_assign_pv rfl rfl ?_
   refine vo_nil ?_
   refine hK6 _ ?_
   refine vc_ret ?_
   change retG _ _ _ _ _
   refine retG_sel [] [] hC rfl rfl rfl rfl rfl rfl ?_
   exact ⟨_, ⟨by omega, by omega⟩, rfl, rfl⟩
  ·try simp only [zq0, zq1, zq2, zq3, zq4, zq5, zq6, zq7, zq8, zq9, zqa, zqb, zqc, zqd, zqe, zqf] at hc2
   refine vc_skip ?_
   refine hK3 _ ?_
   refine vc_seq fun K7 hK7 => ?_
   refine vc_region ?_
   refine vo_move_ptr rfl rfl ?_
   refine vo_nilCheck_ptr rfl rfl ?_
   refine vo_fieldAddr_ptr rfl rfl Try.underlying118 rfl inf3 (by rw [sz3]; decide) ?_
   refine vo_load_var rfl rfl rfl Try.underlying3 rfl rfl ?_
   refine vo_binI rfl rfl rfl rfl sd ?_
   refine vo_assign_pv rfl rfl ?_
   refine vo_nil ?_
   refine hK7 _ ?_
   refine vc_seq fun K8 hK8 => ?_
   refine vc_seq fun K9 hK9 => ?_
   refine vc_region ?_
   refine vo_move_pv rfl rfl ?_
   refine vo_move_ptr rfl rfl ?_
   refine vo_nilCheck_ptr rfl rfl ?_
   refine vo_fieldAddr_ptr rfl rfl Try.underlying118 rfl inf22 (by rw [sz22]; decide) ?_
   refine vo_load_var rfl rfl rfl Try.underlying22 rfl rfl ?_
   refine vo_len_pv rfl rfl Try.underlying22 ?_
   refine vo_binI rfl rfl rfl rfl trivial ?_
   refine vo_nil ?_
   refine hK9 _ ?_
   refine vc_cond rfl (fun hc3 => ?_) (fun hc3 => ?_)
   ·try simp only [zq0, zq1, zq2, zq3, zq4, zq5, zq6, zq7, zq8, zq9, zqa, zqb, zqc, zqd, zqe, zqf] at hc3
    refine vc_seq fun K10 hK10 => ?_
    refine vc_region ?_
    refine vo_move_ptr rfl rfl ?_
    refine vo_nilCheck_ptr rfl rfl ?_
    refine vo_fieldAddr_ptr rfl rfl Try.underlying118 rfl inf22 (by rw [sz22]; decide) ?_
    refine vo_load_var rfl rfl rfl Try.underlying22 rfl rfl ?_
    refine vo_move_pv rfl rfl ?_
    refine vo_index_pv (.int .u8 0) rfl rfl rfl E22.und inf5 sz5 sd sd ?_
    simp only [Int.toNat_natCast, Int.toNat_zero, getD_ints, getD_intss, getD_bools, getD_bytes, PV.cells]
    refine vo_load_adr rfl rfl Try.underlying5 rfl ?_
    refine vo_convI rfl rfl Try.underlying5 Try.underlying3 sd ?_
    refine vo_move_pv rfl rfl ?_
    refine vo_binI rfl rfl rfl rfl sd ?_
    refine vo_assign_pv rfl rfl ?_
    refine vo_nil ?_
    refine hK10 _ ?_
    refine vc_ret ?_
    change retG _ _ _ _ _
    refine retG_sel [] [] hC rfl rfl rfl rfl rfl rfl ?_
    exact ⟨_, ⟨Int.emod_nonneg _ (by omega), fun h => Int.emod_lt_of_pos _ (by omega)⟩, rfl, rfl⟩
   ·try simp only [zq0, zq1, zq2, zq3, zq4, zq5, zq6, zq7, zq8, zq9, zqa, zqb, zqc, zqd, zqe, zqf] at hc3
    have e1 : 0 ≤ ((p : Int) + 1 - 1) % ((c.map byteP).length : Int) := Int.emod_nonneg _ (by omega)
    have e2 : ((p : Int) + 1 - 1) % ((c.map byteP).length : Int) < ((c.map byteP).length : Int) := Int.emod_lt_of_pos _ (by omega)
    have e3 : 0 ≤ (((p : Int) + 1 - 1) * 7 + 3) % ((c.map byteP).length : Int) := Int.emod_nonneg _ (by omega)
    have e4 : (((p : Int) + 1 - 1) * 7 + 3) % ((c.map byteP).length : Int) < ((c.map byteP).length : Int) := Int.emod_lt_of_pos _ (by omega)
    have e5 : 0 ≤ ((p : Int) + 1 - 1) / ((c.map byteP).length : Int) := Int.ediv_nonneg (by omega) (by omega)
    have e6 : ((p : Int) + 1 - 1) / ((c.map byteP).length : Int) ≤ (p : Int) + 1 - 1 := Int.ediv_le_self _ (by omega)
    refine vc_skip ?_
    refine hK8 _ ?_
    refine vc_seq fun K11 hK11 => ?_
    refine vc_draw (by kernel_rfl) ?_
    change VD _ _ _ 46 _ _ _
    refine vd_light 0 rfl rfl rfl (by kernel_rfl) (by kernel_rfl) (by kernel_rfl) (wnt_none rfl) (lt_move_ptr rfl) ?_
    refine vd_light 1 rfl rfl rfl (by kernel_rfl) (by kernel_rfl) (by kernel_rfl) (wnt_none rfl) (lt_nilCheck_ptr rfl) ?_
    refine vd_light 2 rfl rfl rfl (by kernel_rfl) (by kernel_rfl) (by kernel_rfl) (wnt_none rfl) (lt_fieldAddr_ptr rfl Try.underlying118 rfl inf22 (by rw [sz22]; decide)) ?_
    refine vd_light 3 rfl rfl rfl (by kernel_rfl) (by kernel_rfl) (by kernel_rfl) (wnt_none rfl) (lt_load_var rfl rfl Try.underlying22 rfl rfl) ?_
    refine vd_light 4 rfl rfl rfl (by kernel_rfl) (by kernel_rfl) (by kernel_rfl) (wnt_none rfl) (lt_move_pv rfl) ?_
    refine vd_light 5 rfl rfl rfl (by kernel_rfl) (by kernel_rfl) (by kernel_rfl) (wnt_none rfl) (lt_move_ptr rfl) ?_
    refine vd_light 6 rfl rfl rfl (by kernel_rfl) (by kernel_rfl) (by kernel_rfl) (wnt_none rfl) (lt_nilCheck_ptr rfl) ?_
    refine vd_light 7 rfl rfl rfl (by kernel_rfl) (by kernel_rfl) (by kernel_rfl) (wnt_none rfl) (lt_fieldAddr_ptr rfl Try.underlying118 rfl inf22 (by rw [sz22]; decide)) ?_
    refine vd_light 8 rfl rfl rfl (by kernel_rfl) (by kernel_rfl) (by kernel_rfl) (wnt_none rfl) (lt_load_var rfl rfl Try.underlying22 rfl rfl) ?_
    refine vd_light 9 rfl rfl rfl (by kernel_rfl) (by kernel_rfl) (by kernel_rfl) (wnt_none rfl) (lt_len_pv rfl Try.underlying22) ?_
    refine vd_light 10 rfl rfl rfl (by kernel_rfl) (by kernel_rfl) (by kernel_rfl) (wnt_none rfl) (lt_binI rfl rfl rfl sd) ?_
    refine vd_light 11 rfl rfl rfl (by kernel_rfl) (by kernel_rfl) (by kernel_rfl) (wnt_none rfl) (lt_index_pv (.int .u8 0) rfl rfl E22.und inf5 sz5 sd sd) ?_
    simp only [Int.toNat_natCast, Int.toNat_zero, getD_ints, getD_intss, getD_bools, getD_bytes, PV.cells]
    refine vd_light 12 rfl rfl rfl (by kernel_rfl) (by kernel_rfl) (by kernel_rfl) (wnt_none rfl) (lt_load_adr rfl Try.underlying5 rfl) ?_
    refine vd_light 13 rfl rfl rfl (by kernel_rfl) (by kernel_rfl) (by kernel_rfl) (wnt_none rfl) (lt_convI rfl Try.underlying5 Try.underlying3 sd) ?_
    refine vd_light 14 rfl rfl rfl (by kernel_rfl) (by kernel_rfl) (by kernel_rfl) (wnt_none rfl) (lt_binI rfl rfl rfl sd) ?_
    refine vd_light 15 rfl rfl rfl (by kernel_rfl) (by kernel_rfl) (by kernel_rfl) (wnt_none rfl) (lt_move_ptr rfl) ?_
    refine vd_light 16 rfl rfl rfl (by kernel_rfl) (by kernel_rfl) (by kernel_rfl) (wnt_none rfl) (lt_nilCheck_ptr rfl) ?_
    refine vd_light 17 rfl rfl rfl (by kernel_rfl) (by kernel_rfl) (by kernel_rfl) (wnt_none rfl) (lt_fieldAddr_ptr rfl Try.underlying118 rfl inf22 (by rw [sz22]; decide)) ?_
    refine vd_light 18 rfl rfl rfl (by kernel_rfl) (by kernel_rfl) (by kernel_rfl) (wnt_none rfl) (lt_load_var rfl rfl Try.underlying22 rfl rfl) ?_
    refine vd_light 19 rfl rfl rfl (by kernel_rfl) (by kernel_rfl) (by kernel_rfl) (wnt_none rfl) (lt_move_pv rfl) ?_
    refine vd_light 20 rfl rfl rfl (by kernel_rfl) (by kernel_rfl) (by kernel_rfl) (wnt_none rfl) (lt_binI rfl rfl rfl sd) ?_
    refine vd_light 21 rfl rfl rfl (by kernel_rfl) (by kernel_rfl) (by kernel_rfl) (wnt_none rfl) (lt_binI rfl rfl rfl sd) ?_
    refine vd_light 22 rfl rfl rfl (by kernel_rfl) (by kernel_rfl) (by kernel_rfl) (wnt_none rfl) (lt_move_ptr rfl) ?_
    refine vd_light 23 rfl rfl rfl (by kernel_rfl) (by kernel_rfl) (by kernel_rfl) (wnt_none rfl) (lt_nilCheck_ptr rfl) ?_
    refine vd_light 24 rfl rfl rfl (by kernel_rfl) (by kernel_rfl) (by kernel_rfl) (wnt_none rfl) (lt_fieldAddr_ptr rfl Try.underlying118 rfl inf22 (by rw [sz22]; decide)) ?_
    refine vd_light 25 rfl rfl rfl (by kernel_rfl) (by kernel_rfl) (by kernel_rfl) (wnt_none rfl) (lt_load_var rfl rfl Try.underlying22 rfl rfl) ?_
    refine vd_light 26 rfl rfl rfl (by kernel_rfl) (by kernel_rfl) (by kernel_rfl) (wnt_none rfl) (lt_len_pv rfl Try.underlying22) ?_
    refine vd_light 27 rfl rfl rfl (by kernel_rfl) (by kernel_rfl) (by kernel_rfl) (wnt_none rfl) (lt_binI rfl rfl rfl sd) ?_
    refine vd_light 28 rfl rfl rfl (by kernel_rfl) (by kernel_rfl) (by kernel_rfl) (wnt_none rfl) (lt_index_pv (.int .u8 0) rfl rfl E22.und inf5 sz5 sd sd) ?_
    simp only [Int.toNat_natCast, Int.toNat_zero, getD_ints, getD_intss, getD_bools, getD_bytes, PV.cells]
    refine vd_light 29 rfl rfl rfl (by kernel_rfl) (by kernel_rfl) (by kernel_rfl) (wnt_none rfl) (lt_load_adr rfl Try.underlying5 rfl) ?_
    refine vd_light 30 rfl rfl rfl (by kernel_rfl) (by kernel_rfl) (by kernel_rfl) (wnt_none rfl) (lt_convI rfl Try.underlying5 Try.underlying3 sd) ?_
    refine vd_light 31 rfl rfl rfl (by kernel_rfl) (by kernel_rfl) (by kernel_rfl) (wnt_none rfl) (lt_binI rfl rfl rfl sd) ?_
    refine vd_light 32 rfl rfl rfl (by kernel_rfl) (by kernel_rfl) (by kernel_rfl) (wnt_none rfl) (lt_binI rfl rfl rfl sd) ?_
    refine vd_light 33 rfl rfl rfl (by kernel_rfl) (by kernel_rfl) (by kernel_rfl) (wnt_none rfl) (lt_move_pv rfl) ?_
    refine vd_light 34 rfl rfl rfl (by kernel_rfl) (by kernel_rfl) (by kernel_rfl) (wnt_none rfl) (lt_binI rfl rfl rfl sd) ?_
    refine vd_light 35 rfl rfl rfl (by kernel_rfl) (by kernel_rfl) (by kernel_rfl) (wnt_none rfl) (lt_binI rfl rfl rfl sd) ?_
    refine vd_light 36 rfl rfl rfl (by kernel_rfl) (by kernel_rfl) (by kernel_rfl) (wnt_none rfl) (lt_move_pv rfl) ?_
    refine vd_light 37 rfl rfl rfl (by kernel_rfl) (by kernel_rfl) (by kernel_rfl) (wnt_none rfl) (lt_move_ptr rfl) ?_
    refine vd_light 38 rfl rfl rfl (by kernel_rfl) (by kernel_rfl) (by kernel_rfl) (wnt_none rfl) (lt_nilCheck_ptr rfl) ?_
    refine vd_light 39 rfl rfl rfl (by kernel_rfl) (by kernel_rfl) (by kernel_rfl) (wnt_none rfl) (lt_fieldAddr_ptr rfl Try.underlying118 rfl inf22 (by rw [sz22]; decide)) ?_
    refine vd_light 40 rfl rfl rfl (by kernel_rfl) (by kernel_rfl) (by kernel_rfl) (wnt_none rfl) (lt_load_var rfl rfl Try.underlying22 rfl rfl) ?_
    refine vd_light 41 rfl rfl rfl (by kernel_rfl) (by kernel_rfl) (by kernel_rfl) (wnt_none rfl) (lt_len_pv rfl Try.underlying22) ?_
    refine vd_light 42 rfl rfl rfl (by kernel_rfl) (by kernel_rfl) (by kernel_rfl) (wnt_none rfl) (lt_binI rfl rfl rfl sd) ?_
    refine vd_light 43 rfl rfl rfl (by kernel_rfl) (by kernel_rfl) (by kernel_rfl) (wnt_none rfl) (lt_binI rfl rfl rfl sd) ?_
    refine vd_light 44 rfl rfl rfl (by kernel_rfl) (by kernel_rfl) (by kernel_rfl) (wnt_none rfl) (lt_binI rfl rfl rfl sd) ?_
    refine vd_light 45 rfl rfl rfl (by kernel_rfl) (by kernel_rfl) (by kernel_rfl) (wnt_none rfl) (lt_assign_pv rfl) ?_
    refine vd_nil (by kernel_rfl) ?_
    refine hK11 _ ?_
    refine vc_seq fun K12 hK12 => ?_
    refine vc_region ?_
    refine vo_move_pv rfl rfl ?_
    refine vo_move_pv rfl rfl ?_
    refine vo_binI rfl rfl rfl rfl sd ?_
    refine vo_xor rfl rfl rfl sd sd sd sd ?_
    refine vo_assign_pv rfl rfl ?_
    refine vo_nil ?_
    refine hK12 _ ?_
    refine vc_seq fun K13 hK13 => ?_
    refine vc_region ?_
    refine vo_move_pv rfl rfl ?_
    refine vo_move_pv rfl rfl ?_
    refine vo_binI rfl rfl rfl rfl sd ?_
    refine vo_assign_pv rfl rfl ?_
    refine vo_nil ?_
    refine hK13 _ ?_
    refine vc_ret ?_
    change retG _ _ _ _ _
    refine retG_sel [] [] hC rfl rfl rfl rfl rfl rfl ?_
    exact ⟨_, ⟨Int.emod_nonneg _ (by omega), fun h => Int.emod_lt_of_pos _ (by omega)⟩, rfl, rfl⟩


theorem one_sat {nl : Option Bool} {c : List (Fin 256)} {p : Nat} {nl2 : Option Bool} {list : List Int} (hc : c.length ≤ 2000) (hp : p < 1000000) (hn : list ≠ []) (hl : list.length < 1000000000) : SatAt Try.prog 98 [.ptr 0 0 0 0, .pv false (.sl nl2 1 (list.map intP))] [rdr nl c p] (fun res rows => ∃ x, x ∈ list ∧ res = [i64 x] ∧ rows = [rdr nl c (p + 1)]) := by
 have hL : ((list.map intP).length : Int) = list.length := by simp
 have hN := List.length_pos_iff.2 hn
 refine sat_entry_g (ts := [4]) Try.func98 rfl rfl (by decide) (Nat.le_of_ble_eq_true rfl) fun C hC => ?_
 rw [Try.ntmps98]
 replace hC : C.nb = 1 := hC
 refine vc_seq fun K1 hK1 => ?_
 refine vc_region ?_
 refine vo_assign_pv rfl rfl ?_
 refine vo_nil ?_
 refine hK1 _ ?_
 refine vc_seq fun K2 hK2 => ?_
 refine vc_region ?_
 refine vo_move_pv rfl rfl ?_
 refine vo_move_ptr rfl rfl ?_
 refine vo_move_pv rfl rfl ?_
 refine vo_len_pv rfl rfl Try.underlying28 ?_
 refine vo_call [0] Try.func74 rfl rfl rfl rfl rfl rfl rfl (pick_sat hc (by omega)) ?_
 rintro _ _ ⟨x, ⟨hx0, hx1⟩, rfl, rfl⟩
 refine ⟨Nat.le_of_ble_eq_true rfl, ⟨rfl, rfl, rfl, rfl⟩, .inl rfl, ?_⟩
 refine vo_stN ?_
 refine vo_index_pv (.int .i64 0) rfl rfl rfl E28.und inf3 sz3 sd sd ?_
 simp only [Int.toNat_natCast, Int.toNat_zero, getD_ints, getD_intss, getD_bools, getD_bytes, PV.cells]
 refine vo_load_adr rfl rfl Try.underlying3 rfl ?_
 refine vo_assign_pv rfl rfl ?_
 refine vo_nil ?_
 refine hK2 _ ?_
 refine vc_ret ?_
 change retG _ _ _ _ _
 refine retG_sel [] [] hC rfl rfl rfl rfl rfl rfl ?_
 exact ⟨_, getD_mem (by omega) 0, rfl, rfl⟩


theorem someBases_sat {nl : Option Bool} {c : List (Fin 256)} {p : Nat} {most : Int} (hc : c.length ≤ 2000) (hp : p < 999900) : SatAt Try.prog 114 [.ptr 0 0 0 0, i64 most] [rdr nl c p] (fun res rows => ∃ B q, (SB B ∧ B.length ≤ 9 ∧ ((B.length : Int) ≤ most ∨ B.length = 1) ∧ q ≤ p + 90) ∧ res = [.ref 1] ∧ rows = [rdr nl c q, Row.own 28 1 (some false) true (B.map ints)]) := by
 refine sat_entry_g (ts := [4]) Try.func114 rfl rfl (by decide) (Nat.le_of_ble_eq_true rfl) fun C hC => ?_
 rw [Try.ntmps114]
 replace hC : C.nb = 1 := hC
 refine vc_seq fun K1 hK1 => ?_
 refine vc_region ?_
 refine vo_assign_pv rfl rfl ?_
 refine vo_nil ?_
 refine hK1 _ ?_
 refine vc_seq fun K2 hK2 => ?_
 refine vc_region ?_
 refine vo_buildSlice E28 rfl rfl rfl rfl rfl ?_
 refine vo_expose 1 (by omega) rfl ?_
 refine vo_weaken 10 rfl ?_
 refine vo_stN ?_
 refine vo_buildSlice E23 rfl rfl rfl rfl rfl ?_
 refine vo_assign_ref rfl rfl ?_
 refine vo_nil ?_
 refine hK2 _ ?_
 refine vc_seq fun K3 hK3 => ?_
 refine vc_seq fun K4 hK4 => ?_
 refine vc_region ?_
 refine vo_move_ptr rfl rfl ?_
 refine vo_buildSlice E28 rfl rfl rfl rfl rfl ?_
 refine vo_expose 3 (by omega) rfl ?_
 refine vo_weaken 13 rfl ?_
 refine vo_stN ?_
 refine vo_call [0] Try.func98 rfl rfl rfl rfl rfl rfl rfl (one_sat (list := [4,5,3,6,7,2,0,8]) hc (by omega) (by simp) (by simp)) ?_
 rintro _ _ ⟨x, hx, rfl, rfl⟩
 refine ⟨Nat.le_of_ble_eq_true rfl, ⟨rfl, rfl, rfl, rfl⟩, .inl rfl, ?_⟩
 refine vo_stN ?_
 refine vo_assign_pv rfl rfl ?_
 refine vo_nil ?_
 refine hK4 _ ?_
 refine vc_block ?_
 refine vc_stN ?_
 refine vc_loop [0, 1, 5, 6] (fun mz vs rows => ∃ (B : List (List Int)) (q : Nat) (n : Int), mz = n.toNat ∧ ((0 ≤ n ∧ B.length + n ≤ 9)) ∧ ((q + 10 * n ≤ p + 90)) ∧ (SB B) ∧ (((B.length : Int) ≤ most ∨ B.length = 1)) ∧ vs = [.ptr 0 0 0 0, i64 most, .ref 2, i64 n] ∧ rows = [rdr nl c q, .dead, Row.own 28 1 (some false) true (B.map ints), .dead]) (x.toNat) (le_len hC rfl) ⟨rfl, rfl⟩ ⟨[[]], p+1, x, rfl, (by simp at hx; simp; omega), (by simp at hx; omega), ⟨by simp, rfl, fun i h1 h2 => by simp at h1; omega⟩, .inr rfl, rfl, rfl⟩ ?_
 rintro mz vs rows - - ⟨B, q, n, rfl, hn, hq, hB, hm, rfl, rfl⟩
 have hBl : ((B.map ints).length : Int) = B.length := by simp
 have hB1 := hB.1
 refine vc_seq fun K5 hK5 => ?_
 refine vc_seq fun K6 hK6 => ?_
 refine vc_region ?_
 refine vo_move_pv rfl rfl ?_
 refine vo_binI rfl rfl rfl rfl trivial ?_
 refine vo_move_pv rfl rfl ?_
 refine vo_split 17 rfl (fun hg1 => ?_) (fun hg1 => ?_)
 ·try simp only [zq0, zq1, zq2, zq3, zq4, zq5, zq6, zq7, zq8, zq9, zqa, zqb, zqc, zqd, zqe, zqf] at hg1
  refine vo_guard_on rfl rfl rfl ?_
  refine vo_move_ref rfl rfl ?_
  refine vo_guard_on rfl rfl rfl ?_
  refine vo_len_ref rfl rfl rfl Try.underlying23 ?_
  refine vo_guard_on rfl rfl rfl ?_
  refine vo_move_pv rfl rfl ?_
  refine vo_guard_on rfl rfl rfl ?_
  refine vo_binI rfl rfl rfl rfl trivial ?_
  refine vo_pick_t rfl rfl ?_
  refine vo_nil ?_
  refine hK6 _ ?_
  refine vc_cond rfl (fun hc2 => ?_) (fun hc2 => ?_)
  ·try simp only [zq0, zq1, zq2, zq3, zq4, zq5, zq6, zq7, zq8, zq9, zqa, zqb, zqc, zqd, zqe, zqf] at hc2
   refine vc_skip ?_
   refine hK5 _ ?_
   refine vc_seq fun K7 hK7 => ?_
   refine vc_block ?_
   refine vc_seq fun K8 hK8 => ?_
   refine vc_region ?_
   refine vo_buildSlice E28 rfl rfl rfl rfl rfl ?_
   refine vo_assign_ref rfl rfl ?_
   refine vo_nil ?_
   refine hK8 _ ?_
   refine vc_seq fun K9 hK9 => ?_
   refine vc_seq fun K10 hK10 => ?_
   refine vc_region ?_
   refine vo_move_ptr rfl rfl ?_
   refine vo_buildSlice E28 rfl rfl rfl rfl rfl ?_
   refine vo_expose 5 (by omega) rfl ?_
   refine vo_weaken 27 rfl ?_
   refine vo_stN ?_
   refine vo_call [0] Try.func98 rfl rfl rfl rfl rfl rfl rfl (one_sat (list := [1,2,2,3]) hc (by omega) (by simp) (by simp)) ?_
   rintro _ _ ⟨y, hy, rfl, rfl⟩
   refine ⟨Nat.le_of_ble_eq_true rfl, ⟨rfl, rfl, rfl, rfl⟩, .inl rfl, ?_⟩
   refine vo_stN ?_
   refine vo_assign_pv rfl rfl ?_
   refine vo_nil ?_
   refine hK10 _ ?_
   refine vc_block ?_
   refine vc_stN ?_
   refine vc_loop [0, 1, 5, 6, 7, 8] (fun mz vs rows => ∃ (q : Nat) (k : Int) (l : List Int), mz = k.toNat ∧ ((0 ≤ k ∧ l.length + k ≤ 3)) ∧ ((q + 3 * k + 10 * (n-1) ≤ p + 90)) ∧ (l.Nodup) ∧ ((∀ x ∈ l, 0 ≤ x ∧ x < B.length)) ∧ ((l ≠ [] ∨ 1 ≤ k)) ∧ vs = [.ptr 0 0 0 0, i64 most, .ref 2, i64 n, .ref 4, i64 k] ∧ rows = [rdr nl c q, .dead, Row.own 28 1 (some false) true (B.map ints), .dead, Row.own 3 1 (some false) true (l.map intP), .dead]) (y.toNat) (le_len hC rfl) ⟨rfl, rfl⟩ ⟨q+1, y, [], rfl, (by simp at hy; simp; omega), (by simp at hy; omega), List.nodup_nil, (by simp), (.inr (by simp at hy; omega)), rfl, rfl⟩ ?_
   rintro mz vs rows - - ⟨q, k, l, rfl, hk, hq2, hl, hl2, hl3, rfl, rfl⟩
   refine vc_seq fun K11 hK11 => ?_
   refine vc_seq fun K12 hK12 => ?_
   refine vc_region ?_
   refine vo_move_pv rfl rfl ?_
   refine vo_binI rfl rfl rfl rfl trivial ?_
   refine vo_nil ?_
   refine hK12 _ ?_
   refine vc_cond rfl (fun hc3 => ?_) (fun hc3 => ?_)
   ·try simp only [zq0, zq1, zq2, zq3, zq4, zq5, zq6, zq7, zq8, zq9, zqa, zqb, zqc, zqd, zqe, zqf] at hc3
    refine vc_skip ?_
    refine hK11 _ ?_
    refine vc_seq fun K13 hK13 => ?_
    refine vc_block ?_
    refine vc_seq fun K14 hK14 => ?_
    refine vc_region ?_
    refine vo_move_ptr rfl rfl ?_
    refine vo_move_ref rfl rfl ?_
    refine vo_len_ref rfl rfl rfl Try.underlying23 ?_
    refine vo_binI rfl rfl rfl rfl sd ?_
    refine vo_move_ptr rfl rfl ?_
    refine vo_move_ref rfl rfl ?_
    refine vo_len_ref rfl rfl rfl Try.underlying23 ?_
    refine vo_call [0] Try.func74 rfl rfl rfl rfl rfl rfl rfl (pick_sat hc (by omega)) ?_
    rintro _ _ ⟨x1, ⟨hx1, hx2⟩, rfl, rfl⟩
    refine ⟨Nat.le_of_ble_eq_true rfl, ⟨rfl, rfl, rfl, rfl⟩, .inl rfl, ?_⟩
    refine vo_stN ?_
    refine vo_move_ptr rfl rfl ?_
    refine vo_move_ref rfl rfl ?_
    refine vo_len_ref rfl rfl rfl Try.underlying23 ?_
    refine vo_call [0] Try.func74 rfl rfl rfl rfl rfl rfl rfl (pick_sat hc (by omega)) ?_
    rintro _ _ ⟨x2, ⟨hx3, hx4⟩, rfl, rfl⟩
    refine ⟨Nat.le_of_ble_eq_true rfl, ⟨rfl, rfl, rfl, rfl⟩, .inl rfl, ?_⟩
    refine vo_stN ?_
    refine vo_buildSlice E28 rfl rfl rfl rfl rfl ?_
    refine vo_expose 6 (by omega) rfl ?_
    refine vo_weaken 45 rfl ?_
    refine vo_stN ?_
    refine vo_call [0] Try.func98 rfl rfl rfl rfl rfl rfl rfl (one_sat (list := [_,_,_]) hc (by omega) (by simp) (by simp)) ?_
    rintro _ _ ⟨x, hx, rfl, rfl⟩
    refine ⟨Nat.le_of_ble_eq_true rfl, ⟨rfl, rfl, rfl, rfl⟩, .inl rfl, ?_⟩
    refine vo_stN ?_
    refine vo_assign_pv rfl rfl ?_
    refine vo_nil ?_
    refine hK14 _ ?_
    refine vc_seq fun K15 hK15 => ?_
    refine vc_region ?_
    refine vo_move_ref rfl rfl ?_
    refine vo_move_pv rfl rfl ?_
    refine vo_call0 Try.func111 rfl rfl rfl rfl (placeIn_sat (by omega)) ?_
    rintro _ _ ⟨rfl, rfl⟩
    refine ⟨rfl, rfl, .inr rfl, ?_⟩
    refine vo_binI rfl rfl rfl rfl trivial ?_
    refine vo_nil ?_
    refine hK15 _ ?_
    refine vc_cond rfl (fun hc4 => ?_) (fun hc4 => ?_)
    ·try simp only [zq0, zq1, zq2, zq3, zq4, zq5, zq6, zq7, zq8, zq9, zqa, zqb, zqc, zqd, zqe, zqf] at hc4
     refine vc_region ?_
     refine vo_move_ref rfl rfl ?_
     refine vo_move_pv rfl rfl ?_
     refine vo_buildSlice E28 rfl rfl rfl rfl rfl ?_
     refine vo_append E28 rfl (by omega) rfl rfl rfl sd sd ?_
     refine vo_stN ?_
     try simp only [app_ints, app_intss, app_bools]
     refine vo_assign_ref rfl rfl ?_
     refine vo_nil ?_
     refine hK13 _ ?_
     refine vc_region ?_
     refine vo_move_pv rfl rfl ?_
     refine vo_binI rfl rfl rfl rfl sd ?_
     refine vo_assign_pv rfl rfl ?_
     refine vo_nil ?_
     change again _ _ _ _ _ _
     refine again_mk rfl rfl rfl rfl ⟨_, ?_, q + 1 + 1 + 1, k - 1, l ++ [x], rfl, ?_, ?_, ?_, ?_, ?_, rfl, rfl⟩
     ·omega
     ·refine ⟨by omega, ?_⟩; rw [List.length_append, List.length_singleton]; omega
     ·omega
     ·exact nodup_snoc hl ((findM_not _ _ 0 (by omega)).1 (by assumption))
     ·intro z hz; rcases List.mem_append.1 hz with hz | hz
      ·exact hl2 z hz
      ·rw [List.mem_singleton.1 hz]; simp only [List.mem_cons, List.not_mem_nil, or_false] at hx; rcases hx with rfl | rfl | rfl <;> omega
     ·exact .inl (by simp)
    ·try simp only [zq0, zq1, zq2, zq3, zq4, zq5, zq6, zq7, zq8, zq9, zqa, zqb, zqc, zqd, zqe, zqf] at hc4
     refine vc_skip ?_
     refine hK13 _ ?_
     refine vc_region ?_
     refine vo_move_pv rfl rfl ?_
     refine vo_binI rfl rfl rfl rfl sd ?_
     refine vo_assign_pv rfl rfl ?_
     refine vo_nil ?_
     change again _ _ _ _ _ _
     refine again_mk rfl rfl rfl rfl ⟨_, ?_, q + 1 + 1 + 1, k - 1, l, rfl, ?_, ?_, ?_, ?_, ?_, rfl, rfl⟩
     ·omega
     ·omega
     ·omega
     ·exact hl
     ·exact hl2
     ·exact .inl (fun e => by subst e; simp [findM] at *)
   ·try simp only [zq0, zq1, zq2, zq3, zq4, zq5, zq6, zq7, zq8, zq9, zqa, zqb, zqc, zqd, zqe, zqf] at hc3
    refine vc_exit ?_
    refine hK9 _ ?_
    refine vc_region ?_
    refine vo_move_ref rfl rfl ?_
    refine vo_move_ref rfl rfl ?_
    refine vo_expose 4 (by omega) rfl ?_
    refine vo_weaken 56 rfl ?_
    refine vo_stN ?_
    refine vo_buildSlice E23 rfl rfl rfl rfl rfl ?_
    refine vo_append E23 rfl (by omega) rfl rfl rfl sd sd ?_
    refine vo_stN ?_
    try simp only [app_ints, app_intss, app_bools]
    refine vo_assign_ref rfl rfl ?_
    refine vo_nil ?_
    refine hK7 _ ?_
    refine vc_region ?_
    refine vo_move_pv rfl rfl ?_
    refine vo_binI rfl rfl rfl rfl sd ?_
    refine vo_assign_pv rfl rfl ?_
    refine vo_nil ?_
    change again _ _ _ _ _ _
    refine again_mk rfl rfl rfl rfl ⟨_, ?_, B ++ [l], q, n - 1, rfl, ?_, ?_, ?_, ?_, rfl, rfl⟩
    ·omega
    ·refine ⟨by omega, ?_⟩; rw [List.length_append, List.length_singleton]; omega
    ·omega
    ·exact hB.snoc (by rcases hl3 with h | h; exact h; omega) (by omega) hl hl2
    ·left; rw [List.length_append, List.length_singleton]; omega
  ·try simp only [zq0, zq1, zq2, zq3, zq4, zq5, zq6, zq7, zq8, zq9, zqa, zqb, zqc, zqd, zqe, zqf] at hc2
   refine vc_exit ?_
   refine hK3 _ ?_
   refine vc_seq fun K16 hK16 => ?_
   refine vc_region ?_
   refine vo_move_ref rfl rfl ?_
   refine vo_assign_ref rfl rfl ?_
   refine vo_nil ?_
   refine hK16 _ ?_
   refine vc_ret ?_
   change retG _ _ _ _ _
   refine retG_one 2 hC rfl rfl rfl rfl rfl ?_
   exact ⟨_, _, ⟨hB, by omega, hm, by omega⟩, rfl, rfl⟩
 ·try simp only [zq0, zq1, zq2, zq3, zq4, zq5, zq6, zq7, zq8, zq9, zqa, zqb, zqc, zqd, zqe, zqf] at hg1
  refine vo_guard_off rfl rfl rfl rfl rfl ?_
  refine vo_guard_off rfl rfl rfl rfl rfl ?_
  refine vo_guard_off rfl rfl rfl rfl rfl ?_
  refine vo_guard_off rfl rfl rfl rfl rfl ?_
  refine vo_pick_f rfl rfl ?_
  refine vo_nil ?_
  refine hK6 _ ?_
  refine vc_cond_f rfl ?_
  refine vc_exit ?_
  refine hK3 _ ?_
  refine vc_seq fun K17 hK17 => ?_
  refine vc_region ?_
  refine vo_move_ref rfl rfl ?_
  refine vo_assign_ref rfl rfl ?_
  refine vo_nil ?_
  refine hK17 _ ?_
  refine vc_ret ?_
  change retG _ _ _ _ _
  refine retG_one 2 hC rfl rfl rfl rfl rfl ?_
  exact ⟨_, _, ⟨hB, by omega, hm, by omega⟩, rfl, rfl⟩

end Go.Vl

namespace Go.Vl
set_option linter.unusedVariables false
set_option linter.unusedSimpArgs false
open Go.Proofs

end Go.Vl

namespace Go.Vl
set_option linter.unusedVariables false
set_option linter.unusedSimpArgs false
open Go.Proofs

theorem lt3 {B : List (List Int)} (h : ∀ l ∈ B, l.length ≤ 3) : ∀ l ∈ B, l.length < 1000000000 := fun l hl => by have := h l hl; omega

end Go.Vl

namespace Go.Vl
set_option linter.unusedVariables false
set_option linter.unusedSimpArgs false
open Go.Proofs
end Go.Vl

namespace Go.Vl
set_option linter.unusedVariables false
set_option linter.unusedSimpArgs false
open Go.Proofs
end Go.Vl

namespace Go.Vl
set_option linter.unusedVariables false
set_option linter.unusedSimpArgs false
open Go.Proofs

def srtL (l : List Int) (n : Nat) : List Int := ((List.range n).filter (fun (i : Nat) => decide ((i : Int) ∈ l))).map (fun (i : Nat) => (i : Int))
end Go.Vl

namespace Go.Vl
set_option linter.unusedVariables false
set_option linter.unusedSimpArgs false
open Go.Proofs
/-- Is a name abstract, as the first class of an order that has it tells? -/
def isAbs (A R : List (List Int)) (n : Int) : List Int → Bool
  | [] => false
  | x :: r => if n ∈ A.getD x.toNat [] then true else if n ∈ R.getD x.toNat [] then false else isAbs A R n r
theorem isAbs_drop {A R : List (List Int)} {n : Int} {o : List Int} {k : Nat} (h : k < o.length) : isAbs A R n (o.drop k) = if n ∈ A.getD (o.getD k 0).toNat [] then true else if n ∈ R.getD (o.getD k 0).toNat [] then false else isAbs A R n (o.drop (k+1)) := by
  have e : o.getD k 0 = o[k] := by simp [List.getD, List.getElem?_eq_getElem h]
  rw [List.drop_eq_getElem_cons h, e]; rfl
theorem isAbs_iff {A R : List (List Int)} {n : Int} : ∀ {o : List Int}, isAbs A R n o = true ↔ ∃ p d q, o = p ++ d :: q ∧ n ∈ A.getD d.toNat [] ∧ ∀ x ∈ p, n ∉ A.getD x.toNat [] ∧ n ∉ R.getD x.toNat []
  | [] => by
    constructor
    · intro h; cases h
    · rintro ⟨p, d, q, h, _⟩; simp at h
  | x :: r => by
    unfold isAbs
    by_cases h1 : n ∈ A.getD x.toNat []
    · rw [if_pos h1]
      exact ⟨fun _ => ⟨[], x, r, rfl, h1, fun y hy => by cases hy⟩, fun _ => rfl⟩
    · rw [if_neg h1]
      by_cases h2 : n ∈ R.getD x.toNat []
      · rw [if_pos h2]
        constructor
        · intro h; cases h
        · rintro ⟨p, d, q, h, h3, h4⟩
          cases p with
          | nil => simp at h; rw [h.1] at h1; exact absurd h3 h1
          | cons y p => simp at h; rw [h.1] at h2; exact absurd h2 (h4 y (by simp)).2
      · rw [if_neg h2, isAbs_iff]
        constructor
        · rintro ⟨p, d, q, h, h3, h4⟩
          refine ⟨x :: p, d, q, by rw [h]; rfl, h3, fun y hy => ?_⟩
          rcases List.mem_cons.1 hy with rfl | hy
          · exact ⟨h1, h2⟩
          · exact h4 y hy
        · rintro ⟨p, d, q, h, h3, h4⟩
          cases p with
          | nil => simp at h; rw [h.1] at h1; exact absurd h3 h1
          | cons y p => simp at h; exact ⟨p, d, q, h.2, h3, fun z hz => h4 z (by simp [hz])⟩
def absP (x : WorksM) (c : Nat) (n : Int) : Bool := isAbs x.abs x.real n (ordM x.bases c)
def selI (p : Int → Bool) (k : Nat) : List Int := ((List.range k).map fun i : Nat => (i : Int)).filter p
theorem selI_yes {p : Int → Bool} {k : Nat} (h : p k = true) : selI p (k + 1) = selI p k ++ [(k : Int)] := by
  unfold selI; rw [List.range_succ, List.map_append, List.filter_append]; simp [h]
theorem selI_no {p : Int → Bool} {k : Nat} (h : ¬ p k = true) : selI p (k + 1) = selI p k := by
  unfold selI; rw [List.range_succ, List.map_append, List.filter_append]; simp [h]
theorem selI_len (p : Int → Bool) (k : Nat) : (selI p k).length ≤ k := by
  unfold selI; refine Nat.le_trans (List.length_filter_le _ _) (by simp)
def absM (x : WorksM) (c : Int) : List Int := if VWorks x ∧ 0 ≤ c ∧ c ≤ (x.bases.length : Int) - 1 then selI (absP x c.toNat) 10 else []
theorem absM_yes {x : WorksM} {c : Int} (h : VWorks x ∧ 0 ≤ c ∧ c ≤ (x.bases.length : Int) - 1) : absM x c = selI (absP x c.toNat) 10 := by unfold absM; rw [if_pos h]
theorem absM_no {x : WorksM} {c : Int} (h : ¬ (VWorks x ∧ 0 ≤ c ∧ c ≤ (x.bases.length : Int) - 1)) : absM x c = [] := by unfold absM; rw [if_neg h]
/-- Classes of an order are classes. -/
def OrdIx (n : Nat) (o : List Int) : Prop := o.length < 1000000000 ∧ ∀ x ∈ o, 0 ≤ x ∧ x < n
theorem ordIx_of {b : List (List Int)} (hv : allOK b) {c : Nat} (hc : c < b.length) : OrdIx b.length (ordM b c) := by
  have hl := ordM_len hv.1 hc
  refine ⟨by omega, fun x hx => ?_⟩
  have := (ordM_ok hv.1 _ hc).2 x hx
  omega

theorem areWorks_sat {nl0 : Option Bool} {a : List Int} {nl1 : Option Bool} {r : List Int} (ha : a.length < 1000000000) (hr : r.length < 1000000000)  : SatAt Try.prog 58 [.pv false (.sl nl0 1 (a.map intP)), .pv false (.sl nl1 1 (r.map intP))] [] (fun res rows => res = [bo (decide (okWk a r))] ∧ rows = []) := by
  refine sat_entry_G (rs := [(4, none)]) Try.func58 rfl rfl (Nat.le_of_ble_eq_true rfl) (Nat.le_of_ble_eq_true rfl) (resTs1 trivial) fun C hC => ?_
  rw [Try.ntmps58]
  replace hC : C.nb = 0 := hC
  refine vc_seq fun K1 hK1 => ?_
  refine vc_region ?_
  refine vo_assign_pv rfl rfl ?_
  refine vo_nil ?_
  refine hK1 _ ?_
  refine vc_seq fun K2 hK2 => ?_
  refine vc_seq fun K3 hK3 => ?_
  refine vc_region ?_
  refine vo_move_pv rfl rfl ?_
  refine vo_len_pv rfl rfl Try.underlying28 ?_
  refine vo_binI rfl rfl rfl rfl trivial ?_
  refine vo_move_pv rfl rfl ?_
  refine vo_split 9 rfl (fun hg1 => ?_) (fun hg1 => ?_)
  · try simp only [zq0, zq1, zq2, zq3, zq4, zq5, zq6, zq7, zq8, zq9, zqa, zqb, zqc, zqd, zqe, zqf] at hg1
    refine vo_guard_off rfl rfl rfl rfl rfl ?_
    refine vo_guard_off rfl rfl rfl rfl rfl ?_
    refine vo_guard_off rfl rfl rfl rfl rfl ?_
    refine vo_pick_t rfl rfl ?_
    refine vo_nil ?_
    refine hK3 _ ?_
    refine vc_cond_t rfl ?_
    refine vc_seq fun K4 hK4 => ?_
    refine vc_region ?_
    refine vo_assign_pv rfl rfl ?_
    refine vo_nil ?_
    refine hK4 _ ?_
    refine vc_ret ?_
    change retQ _ _ _ _ _
    refine retQ_sel [] (srows := []) (.inr rfl) hC rfl rfl rfl rfl rfl rfl rfl ?_
    refine ⟨?_, rfl⟩
    refine (congrArg (fun b => [bo b]) (?_ : _ = _) : [bo _] = [bo _])
    have hk : okWk a r ↔ [a, r].flatten.Nodup ∧ ∀ n ∈ [a, r].flatten, 0 ≤ n ∧ n ≤ 9 := by rw [show [a, r].flatten = a ++ r by simp]; exact Iff.rfl
    first
      | exact bF fun h => by have := okWk_len h; omega
      | (refine bF fun h => ?_
         have h9 := nodup_le10 (hk.1 h).1 (hk.1 h).2
         first | exact absurd ⟨by omega, (hk.1 h).1⟩ ‹¬ OKL [a, r].flatten 10› | exact absurd (hk.1 h).2 (by assumption))
      | exact decide_eq_decide.2 ⟨fun h => hk.2 ⟨(‹OKL [a, r].flatten 10›).2, h⟩, fun h => (hk.1 h).2⟩
  · try simp only [zq0, zq1, zq2, zq3, zq4, zq5, zq6, zq7, zq8, zq9, zqa, zqb, zqc, zqd, zqe, zqf] at hg1
    refine vo_guard_on rfl rfl rfl ?_
    refine vo_move_pv rfl rfl ?_
    refine vo_guard_on rfl rfl rfl ?_
    refine vo_len_pv rfl rfl Try.underlying28 ?_
    refine vo_guard_on rfl rfl rfl ?_
    refine vo_binI rfl rfl rfl rfl trivial ?_
    refine vo_pick_f rfl rfl ?_
    refine vo_nil ?_
    refine hK3 _ ?_
    refine vc_cond rfl (fun hc2 => ?_) (fun hc2 => ?_)
    · try simp only [zq0, zq1, zq2, zq3, zq4, zq5, zq6, zq7, zq8, zq9, zqa, zqb, zqc, zqd, zqe, zqf] at hc2
      refine vc_seq fun K5 hK5 => ?_
      refine vc_region ?_
      refine vo_assign_pv rfl rfl ?_
      refine vo_nil ?_
      refine hK5 _ ?_
      refine vc_ret ?_
      change retQ _ _ _ _ _
      refine retQ_sel [] (srows := []) (.inr rfl) hC rfl rfl rfl rfl rfl rfl rfl ?_
      refine ⟨?_, rfl⟩
      refine (congrArg (fun b => [bo b]) (?_ : _ = _) : [bo _] = [bo _])
      have hk : okWk a r ↔ [a, r].flatten.Nodup ∧ ∀ n ∈ [a, r].flatten, 0 ≤ n ∧ n ≤ 9 := by rw [show [a, r].flatten = a ++ r by simp]; exact Iff.rfl
      first
        | exact bF fun h => by have := okWk_len h; omega
        | (refine bF fun h => ?_
           have h9 := nodup_le10 (hk.1 h).1 (hk.1 h).2
           first | exact absurd ⟨by omega, (hk.1 h).1⟩ ‹¬ OKL [a, r].flatten 10› | exact absurd (hk.1 h).2 (by assumption))
        | exact decide_eq_decide.2 ⟨fun h => hk.2 ⟨(‹OKL [a, r].flatten 10›).2, h⟩, fun h => (hk.1 h).2⟩
    · try simp only [zq0, zq1, zq2, zq3, zq4, zq5, zq6, zq7, zq8, zq9, zqa, zqb, zqc, zqd, zqe, zqf] at hc2
      refine vc_skip ?_
      refine hK2 _ ?_
      refine vc_seq fun K6 hK6 => ?_
      refine vc_region ?_
      refine vo_move_pv rfl rfl ?_
      refine vo_move_pv rfl rfl ?_
      refine vo_weaken 14 rfl ?_
      refine vo_stM ?_
      refine vo_weaken 15 rfl ?_
      refine vo_stM ?_
      refine vo_buildSlice E23 rfl rfl rfl rfl rfl ?_
      refine vo_stM ?_
      refine vo_call [] Try.func99 rfl rfl rfl rfl rfl rfl rfl (Concat_sat (L := [a, r]) (by simp) (by intro l hl; simp at hl; rcases hl with rfl | rfl <;> omega)) ?_
      rintro _ _ ⟨nl9, rfl, rfl⟩
      refine ⟨Nat.le_of_ble_eq_true rfl, ⟨rfl, rfl, rfl, rfl⟩, .inr ⟨rfl, rfl⟩, ?_⟩
      refine vo_stM ?_
      refine vo_expose 1 (by omega) rfl ?_
      refine vo_stM ?_
      refine vo_weaken 17 rfl ?_
      refine vo_stM ?_
      refine vo_assign_pv rfl rfl ?_
      refine vo_nil ?_
      refine hK6 _ ?_
      refine vc_seq fun K7 hK7 => ?_
      refine vc_region ?_
      refine vo_move_pv rfl rfl ?_
      refine vo_call0 Try.func100 rfl rfl rfl rfl (isList_sat (list := [a, r].flatten) (by simp; omega)) ?_
      rintro _ _ ⟨rfl, rfl⟩
      refine ⟨rfl, rfl, .inl rfl, ?_⟩
      refine vo_stM ?_
      refine vo_move_pv rfl rfl ?_
      refine vo_split 20 rfl (fun hg3 => ?_) (fun hg3 => ?_)
      · try simp only [zq0, zq1, zq2, zq3, zq4, zq5, zq6, zq7, zq8, zq9, zqa, zqb, zqc, zqd, zqe, zqf] at hg3
        refine vo_guard_on rfl rfl rfl ?_
        refine vo_move_pv rfl rfl ?_
        refine vo_guard_on rfl rfl rfl ?_
        refine vo_call0 Try.func78 rfl rfl rfl rfl (areUpTo_sat (list := [a, r].flatten) (by simp; omega)) ?_
        rintro _ _ ⟨rfl, rfl⟩
        refine ⟨rfl, rfl, .inl rfl, ?_⟩
        refine vo_stM ?_
        refine vo_pick_t rfl rfl ?_
        refine vo_assign_pv rfl rfl ?_
        refine vo_nil ?_
        refine hK7 _ ?_
        refine vc_ret ?_
        change retQ _ _ _ _ _
        refine retQ_sel [] (srows := []) (.inr rfl) hC rfl rfl rfl rfl rfl rfl rfl ?_
        refine ⟨?_, rfl⟩
        refine (congrArg (fun b => [bo b]) (?_ : _ = _) : [bo _] = [bo _])
        have hk : okWk a r ↔ [a, r].flatten.Nodup ∧ ∀ n ∈ [a, r].flatten, 0 ≤ n ∧ n ≤ 9 := by rw [show [a, r].flatten = a ++ r by simp]; exact Iff.rfl
        first
          | exact bF fun h => by have := okWk_len h; omega
          | (refine bF fun h => ?_
             have h9 := nodup_le10 (hk.1 h).1 (hk.1 h).2
             first | exact absurd ⟨by omega, (hk.1 h).1⟩ ‹¬ OKL [a, r].flatten 10› | exact absurd (hk.1 h).2 (by assumption))
          | exact decide_eq_decide.2 ⟨fun h => hk.2 ⟨(‹OKL [a, r].flatten 10›).2, h⟩, fun h => (hk.1 h).2⟩
      · try simp only [zq0, zq1, zq2, zq3, zq4, zq5, zq6, zq7, zq8, zq9, zqa, zqb, zqc, zqd, zqe, zqf] at hg3
        refine vo_guard_off rfl rfl rfl rfl rfl ?_
        refine vo_guard_off rfl rfl rfl rfl rfl ?_
        refine vo_pick_f rfl rfl ?_
        refine vo_assign_pv rfl rfl ?_
        refine vo_nil ?_
        refine hK7 _ ?_
        refine vc_ret ?_
        change retQ _ _ _ _ _
        refine retQ_sel [] (srows := []) (.inr rfl) hC rfl rfl rfl rfl rfl rfl rfl ?_
        refine ⟨?_, rfl⟩
        refine (congrArg (fun b => [bo b]) (?_ : _ = _) : [bo _] = [bo _])
        have hk : okWk a r ↔ [a, r].flatten.Nodup ∧ ∀ n ∈ [a, r].flatten, 0 ≤ n ∧ n ≤ 9 := by rw [show [a, r].flatten = a ++ r by simp]; exact Iff.rfl
        first
          | exact bF fun h => by have := okWk_len h; omega
          | (refine bF fun h => ?_
             have h9 := nodup_le10 (hk.1 h).1 (hk.1 h).2
             first | exact absurd ⟨by omega, (hk.1 h).1⟩ ‹¬ OKL [a, r].flatten 10› | exact absurd (hk.1 h).2 (by assumption))
          | exact decide_eq_decide.2 ⟨fun h => hk.2 ⟨(‹OKL [a, r].flatten 10›).2, h⟩, fun h => (hk.1 h).2⟩

theorem implValidWorks_sat {x : WorksM}  (hx : SK x) : SatAt Try.prog 16 [.pv false (worksP x)] [] (fun res rows => res = [bo (decide (VWorks x))] ∧ rows = []) := by
  obtain ⟨⟨b1, b2⟩, ⟨a1, a2⟩, r1, r2⟩ := hx
  refine sat_entry_G (rs := [(2, none)]) Try.func16 rfl rfl (Nat.le_of_ble_eq_true rfl) (Nat.le_of_ble_eq_true rfl) (resTs1 trivial) fun C hC => ?_
  rw [Try.ntmps16]
  replace hC : C.nb = 0 := hC
  refine vc_seq fun K1 hK1 => ?_
  refine vc_region ?_
  refine vo_box rfl rfl ?_
  refine vo_stM ?_
  refine vo_assign_pv rfl rfl ?_
  refine vo_nil ?_
  refine hK1 _ ?_
  refine vc_seq fun K2 hK2 => ?_
  refine vc_seq fun K3 hK3 => ?_
  refine vc_region ?_
  refine vo_fieldAddr_ptr rfl rfl Try.underlying25 rfl inf23 (by rw [sz23]; decide) ?_
  try simp only [Nat.zero_add]
  refine vo_load_var rfl rfl rfl Try.underlying23 rfl rfl ?_
  refine vo_call0 Try.func57 rfl rfl rfl rfl (implAllOrders_sat (by omega) (fun l hl => by have := b2 l hl; omega)) ?_
  rintro _ _ ⟨rfl, rfl⟩
  refine ⟨rfl, rfl, .inl rfl, ?_⟩
  refine vo_stM ?_
  refine vo_not rfl rfl ?_
  refine vo_move_pv rfl rfl ?_
  refine vo_split 9 rfl (fun hg1 => ?_) (fun hg1 => ?_)
  · try simp only [zq0, zq1, zq2, zq3, zq4, zq5, zq6, zq7, zq8, zq9, zqa, zqb, zqc, zqd, zqe, zqf] at hg1
    refine vo_guard_off rfl rfl rfl rfl rfl ?_
    refine vo_guard_off rfl rfl rfl rfl rfl ?_
    refine vo_guard_off rfl rfl rfl rfl rfl ?_
    refine vo_guard_off rfl rfl rfl rfl rfl ?_
    refine vo_guard_off rfl rfl rfl rfl rfl ?_
    refine vo_guard_off rfl rfl rfl rfl rfl ?_
    refine vo_guard_off rfl rfl rfl rfl rfl ?_
    refine vo_pick_t rfl rfl ?_
    refine vo_move_pv rfl rfl ?_
    refine vo_guard_off rfl rfl rfl rfl rfl ?_
    refine vo_guard_off rfl rfl rfl rfl rfl ?_
    refine vo_guard_off rfl rfl rfl rfl rfl ?_
    refine vo_guard_off rfl rfl rfl rfl rfl ?_
    refine vo_guard_off rfl rfl rfl rfl rfl ?_
    refine vo_guard_off rfl rfl rfl rfl rfl ?_
    refine vo_guard_off rfl rfl rfl rfl rfl ?_
    refine vo_pick_t rfl rfl ?_
    refine vo_nil ?_
    refine hK3 _ ?_
    refine vc_cond_t rfl ?_
    refine vc_seq fun K4 hK4 => ?_
    refine vc_region ?_
    refine vo_assign_pv rfl rfl ?_
    refine vo_nil ?_
    refine hK4 _ ?_
    refine vc_ret ?_
    change retQ _ _ _ _ _
    refine retQ_sel [] (srows := []) (.inr rfl) hC rfl rfl rfl rfl rfl rfl rfl ?_
    refine ⟨?_, rfl⟩
    refine (congrArg (fun b => [bo b]) (?_ : _ = _) : [bo _] = [bo _])
    first
      | (refine bF fun h0 => ?_
         have h1 := h0.2.1; have h2 := h0.2.2.1
         first
           | omega
           | exact absurd h0.1 (by assumption)
           | exact absurd h0.1.1 (by assumption)
           | exact absurd h0.1.2 (by assumption)
           | exact absurd (h0.2.2.2 k (by omega)) (by assumption)
           | exact absurd (h0.2.2.2 k (by omega)).1 (by assumption)
           | exact absurd (h0.2.2.2 k (by omega)).2 (by assumption))
      | exact bT ⟨by first | assumption | exact ⟨hg1, hg2⟩, by omega, by omega, fun i hi => hf i (by omega)⟩
  · try simp only [zq0, zq1, zq2, zq3, zq4, zq5, zq6, zq7, zq8, zq9, zqa, zqb, zqc, zqd, zqe, zqf] at hg1
    refine vo_guard_on rfl rfl rfl ?_
    refine vo_fieldAddr_ptr rfl rfl Try.underlying25 rfl inf23 (by rw [sz23]; decide) ?_
    try simp only [Nat.zero_add]
    refine vo_guard_on rfl rfl rfl ?_
    refine vo_load_var rfl rfl rfl Try.underlying23 rfl rfl ?_
    refine vo_guard_on rfl rfl rfl ?_
    refine vo_len_pv rfl rfl Try.underlying23 ?_
    refine vo_guard_on rfl rfl rfl ?_
    refine vo_fieldAddr_ptr rfl rfl Try.underlying25 rfl inf23 (by rw [sz23]; decide) ?_
    try simp only [Nat.zero_add]
    refine vo_guard_on rfl rfl rfl ?_
    refine vo_load_var rfl rfl rfl Try.underlying23 rfl rfl ?_
    refine vo_guard_on rfl rfl rfl ?_
    refine vo_len_pv rfl rfl Try.underlying23 ?_
    refine vo_guard_on rfl rfl rfl ?_
    refine vo_binI rfl rfl rfl rfl trivial ?_
    refine vo_pick_f rfl rfl ?_
    refine vo_move_pv rfl rfl ?_
    refine vo_split 18 rfl (fun hg2 => ?_) (fun hg2 => ?_)
    · try simp only [zq0, zq1, zq2, zq3, zq4, zq5, zq6, zq7, zq8, zq9, zqa, zqb, zqc, zqd, zqe, zqf] at hg2
      refine vo_guard_off rfl rfl rfl rfl rfl ?_
      refine vo_guard_off rfl rfl rfl rfl rfl ?_
      refine vo_guard_off rfl rfl rfl rfl rfl ?_
      refine vo_guard_off rfl rfl rfl rfl rfl ?_
      refine vo_guard_off rfl rfl rfl rfl rfl ?_
      refine vo_guard_off rfl rfl rfl rfl rfl ?_
      refine vo_guard_off rfl rfl rfl rfl rfl ?_
      refine vo_pick_t rfl rfl ?_
      refine vo_nil ?_
      refine hK3 _ ?_
      refine vc_cond_t rfl ?_
      refine vc_seq fun K5 hK5 => ?_
      refine vc_region ?_
      refine vo_assign_pv rfl rfl ?_
      refine vo_nil ?_
      refine hK5 _ ?_
      refine vc_ret ?_
      change retQ _ _ _ _ _
      refine retQ_sel [] (srows := []) (.inr rfl) hC rfl rfl rfl rfl rfl rfl rfl ?_
      refine ⟨?_, rfl⟩
      refine (congrArg (fun b => [bo b]) (?_ : _ = _) : [bo _] = [bo _])
      first
        | (refine bF fun h0 => ?_
           have h1 := h0.2.1; have h2 := h0.2.2.1
           first
             | omega
             | exact absurd h0.1 (by assumption)
             | exact absurd h0.1.1 (by assumption)
             | exact absurd h0.1.2 (by assumption)
             | exact absurd (h0.2.2.2 k (by omega)) (by assumption)
             | exact absurd (h0.2.2.2 k (by omega)).1 (by assumption)
             | exact absurd (h0.2.2.2 k (by omega)).2 (by assumption))
        | exact bT ⟨by first | assumption | exact ⟨hg1, hg2⟩, by omega, by omega, fun i hi => hf i (by omega)⟩
    · try simp only [zq0, zq1, zq2, zq3, zq4, zq5, zq6, zq7, zq8, zq9, zqa, zqb, zqc, zqd, zqe, zqf] at hg2
      refine vo_guard_on rfl rfl rfl ?_
      refine vo_fieldAddr_ptr rfl rfl Try.underlying25 rfl inf23 (by rw [sz23]; decide) ?_
      try simp only [Nat.zero_add]
      refine vo_guard_on rfl rfl rfl ?_
      refine vo_load_var rfl rfl rfl Try.underlying23 rfl rfl ?_
      refine vo_guard_on rfl rfl rfl ?_
      refine vo_len_pv rfl rfl Try.underlying23 ?_
      refine vo_guard_on rfl rfl rfl ?_
      refine vo_fieldAddr_ptr rfl rfl Try.underlying25 rfl inf23 (by rw [sz23]; decide) ?_
      try simp only [Nat.zero_add]
      refine vo_guard_on rfl rfl rfl ?_
      refine vo_load_var rfl rfl rfl Try.underlying23 rfl rfl ?_
      refine vo_guard_on rfl rfl rfl ?_
      refine vo_len_pv rfl rfl Try.underlying23 ?_
      refine vo_guard_on rfl rfl rfl ?_
      refine vo_binI rfl rfl rfl rfl trivial ?_
      refine vo_pick_f rfl rfl ?_
      refine vo_nil ?_
      refine hK3 _ ?_
      refine vc_cond rfl (fun hc3 => ?_) (fun hc3 => ?_)
      · try simp only [zq0, zq1, zq2, zq3, zq4, zq5, zq6, zq7, zq8, zq9, zqa, zqb, zqc, zqd, zqe, zqf] at hc3
        refine vc_seq fun K6 hK6 => ?_
        refine vc_region ?_
        refine vo_assign_pv rfl rfl ?_
        refine vo_nil ?_
        refine hK6 _ ?_
        refine vc_ret ?_
        change retQ _ _ _ _ _
        refine retQ_sel [] (srows := []) (.inr rfl) hC rfl rfl rfl rfl rfl rfl rfl ?_
        refine ⟨?_, rfl⟩
        refine (congrArg (fun b => [bo b]) (?_ : _ = _) : [bo _] = [bo _])
        first
          | (refine bF fun h0 => ?_
             have h1 := h0.2.1; have h2 := h0.2.2.1
             first
               | omega
               | exact absurd h0.1 (by assumption)
               | exact absurd h0.1.1 (by assumption)
               | exact absurd h0.1.2 (by assumption)
               | exact absurd (h0.2.2.2 k (by omega)) (by assumption)
               | exact absurd (h0.2.2.2 k (by omega)).1 (by assumption)
               | exact absurd (h0.2.2.2 k (by omega)).2 (by assumption))
          | exact bT ⟨by first | assumption | exact ⟨hg1, hg2⟩, by omega, by omega, fun i hi => hf i (by omega)⟩
      · try simp only [zq0, zq1, zq2, zq3, zq4, zq5, zq6, zq7, zq8, zq9, zqa, zqb, zqc, zqd, zqe, zqf] at hc3
        refine vc_skip ?_
        refine hK2 _ ?_
        refine vc_seq fun K7 hK7 => ?_
        refine vc_seq fun K8 hK8 => ?_
        refine vc_region ?_
        refine vo_fieldAddr_ptr rfl rfl Try.underlying25 rfl inf23 (by rw [sz23]; decide) ?_
        try simp only [Nat.zero_add]
        refine vo_load_var rfl rfl rfl Try.underlying23 rfl rfl ?_
        refine vo_len_pv rfl rfl Try.underlying23 ?_
        refine vo_move_pv rfl rfl ?_
        refine vo_nil ?_
        refine hK8 _ ?_
        refine vc_block ?_
        refine vc_stM ?_
        refine vc_loopE [1, 28, 29] [30] [] _ _ (fun mz vs rs => ∃ (k : Nat), mz = x.abs.length - k ∧ (k ≤ x.abs.length) ∧ (∀ i, i < k → okWk (x.abs.getD i []) (x.real.getD i [])) ∧ vs = [i64 k] ∧ rs = []) (x.abs.length) rfl rfl (le_len hC rfl) ⟨rfl, rfl, rfl⟩ rfl ⟨0, rfl, Nat.zero_le _, (fun i h => by omega), rfl, rfl⟩ ?_
        rintro mz vs rs - - ⟨k, rfl, hk, hf, rfl, rfl⟩
        refine vc_stM ?_
        have hal := getD_all (p := fun l : List Int => l.length ≤ 2000000) a2 [] (by simp) k
        have hrl := getD_all (p := fun l : List Int => l.length ≤ 2000000) r2 [] (by simp) k
        refine vc_seq fun K9 hK9 => ?_
        refine vc_region ?_
        refine vo_binI rfl rfl rfl rfl trivial ?_
        refine vo_nil ?_
        refine hK9 _ ?_
        refine vc_seq fun K10 hK10 => ?_
        refine vc_cond rfl (fun hc4 => ?_) (fun hc4 => ?_)
        · try simp only [zq0, zq1, zq2, zq3, zq4, zq5, zq6, zq7, zq8, zq9, zqa, zqb, zqc, zqd, zqe, zqf] at hc4
          refine vc_skip ?_
          refine hK10 _ ?_
          refine vc_seq fun K11 hK11 => ?_
          refine vc_block ?_
          refine vc_seq fun K12 hK12 => ?_
          refine vc_region ?_
          refine vo_move_pv rfl rfl ?_
          refine vo_index_pv (.sl none 1 []) rfl rfl rfl E23.und inf28 sz28 sd sd ?_
          simp only [Int.toNat_natCast, Int.toNat_zero, getD_ints, getD_intss, getD_bools, getD_bytes, PV.cells, getD_ops, getD_pairs, getD_insts, getD_attrs, getD_attrss, getD_objs, getD_ordP]
          refine vo_load_adr rfl rfl Try.underlying28 rfl ?_
          refine vo_assign_pv rfl rfl ?_
          refine vo_assign_pv rfl rfl ?_
          refine vo_nil ?_
          refine hK12 _ ?_
          refine vc_seq fun K13 hK13 => ?_
          refine vc_region ?_
          refine vo_move_pv rfl rfl ?_
          refine vo_fieldAddr_ptr rfl rfl Try.underlying25 rfl inf23 (by rw [sz23]; decide) ?_
          try simp only [Nat.zero_add]
          refine vo_load_var rfl rfl rfl Try.underlying23 rfl rfl ?_
          refine vo_move_pv rfl rfl ?_
          refine vo_index_pv (.sl none 1 []) rfl rfl rfl E23.und inf28 sz28 sd sd ?_
          simp only [Int.toNat_natCast, Int.toNat_zero, getD_ints, getD_intss, getD_bools, getD_bytes, PV.cells, getD_ops, getD_pairs, getD_insts, getD_attrs, getD_attrss, getD_objs, getD_ordP]
          refine vo_load_adr rfl rfl Try.underlying28 rfl ?_
          refine vo_call0 Try.func58 rfl rfl rfl rfl (areWorks_sat (by omega) (by omega)) ?_
          rintro _ _ ⟨rfl, rfl⟩
          refine ⟨rfl, rfl, .inl rfl, ?_⟩
          refine vo_stM ?_
          refine vo_not rfl rfl ?_
          refine vo_nil ?_
          refine hK13 _ ?_
          refine vc_cond rfl (fun hc5 => ?_) (fun hc5 => ?_)
          · try simp only [zq0, zq1, zq2, zq3, zq4, zq5, zq6, zq7, zq8, zq9, zqa, zqb, zqc, zqd, zqe, zqf] at hc5
            refine vc_seq fun K14 hK14 => ?_
            refine vc_region ?_
            refine vo_assign_pv rfl rfl ?_
            refine vo_nil ?_
            refine hK14 _ ?_
            refine vc_ret ?_
            change retQ _ _ _ _ _
            refine retQ_sel [] (srows := []) (.inr rfl) hC rfl rfl rfl rfl rfl rfl rfl ?_
            refine ⟨?_, rfl⟩
            refine (congrArg (fun b => [bo b]) (?_ : _ = _) : [bo _] = [bo _])
            first
              | (refine bF fun h0 => ?_
                 have h1 := h0.2.1; have h2 := h0.2.2.1
                 first
                   | omega
                   | exact absurd h0.1 (by assumption)
                   | exact absurd h0.1.1 (by assumption)
                   | exact absurd h0.1.2 (by assumption)
                   | exact absurd (h0.2.2.2 k (by omega)) (by assumption)
                   | exact absurd (h0.2.2.2 k (by omega)).1 (by assumption)
                   | exact absurd (h0.2.2.2 k (by omega)).2 (by assumption))
              | exact bT ⟨by first | assumption | exact ⟨hg1, hg2⟩, by omega, by omega, fun i hi => hf i (by omega)⟩
          · try simp only [zq0, zq1, zq2, zq3, zq4, zq5, zq6, zq7, zq8, zq9, zqa, zqb, zqc, zqd, zqe, zqf] at hc5
            refine vc_skip ?_
            refine hK11 _ ?_
            refine vc_region ?_
            refine vo_binI rfl rfl rfl rfl sd ?_
            refine vo_move_pv rfl rfl ?_
            refine vo_nil ?_
            change againE _ _ _ _ _ _ _ _ _ _
            refine againE_mk rfl rfl rfl rfl rfl rfl ⟨_, ?_, k + 1, rfl, ?_, ?_, rfl, rfl⟩
            · omega
            · omega
            · intro i hi; rcases Nat.lt_or_ge i k with h1 | h1; exact hf i h1; rw [show i = k by omega]; assumption
        · try simp only [zq0, zq1, zq2, zq3, zq4, zq5, zq6, zq7, zq8, zq9, zqa, zqb, zqc, zqd, zqe, zqf] at hc4
          refine vc_exit ?_
          refine hK7 _ ?_
          refine vc_seq fun K15 hK15 => ?_
          refine vc_region ?_
          refine vo_assign_pv rfl rfl ?_
          refine vo_nil ?_
          refine hK15 _ ?_
          refine vc_ret ?_
          change retQ _ _ _ _ _
          refine retQ_sel [] (srows := []) (.inr rfl) hC rfl rfl rfl rfl rfl rfl rfl ?_
          refine ⟨?_, rfl⟩
          refine (congrArg (fun b => [bo b]) (?_ : _ = _) : [bo _] = [bo _])
          first
            | (refine bF fun h0 => ?_
               have h1 := h0.2.1; have h2 := h0.2.2.1
               first
                 | omega
                 | exact absurd h0.1 (by assumption)
                 | exact absurd h0.1.1 (by assumption)
                 | exact absurd h0.1.2 (by assumption)
                 | exact absurd (h0.2.2.2 k (by omega)) (by assumption)
                 | exact absurd (h0.2.2.2 k (by omega)).1 (by assumption)
                 | exact absurd (h0.2.2.2 k (by omega)).2 (by assumption))
            | exact bT ⟨by first | assumption | exact ⟨hg1, hg2⟩, by omega, by omega, fun i hi => hf i (by omega)⟩


theorem hasWorks_sat {x : WorksM} {c : Int}  (hx : SK x) : SatAt Try.prog 60 [.pv false (worksP x), i64 c] [] (fun res rows => res = [bo (decide (VWorks x ∧ 0 ≤ c ∧ c ≤ (x.bases.length : Int) - 1))] ∧ rows = []) := by
 have hx0 := hx
 obtain ⟨⟨b1, b2⟩, ⟨a1, a2⟩, r1, r2⟩ := hx
 refine sat_entry_G (rs := [(4, none)]) Try.func60 rfl rfl (Nat.le_of_ble_eq_true rfl) (Nat.le_of_ble_eq_true rfl) (resTs1 trivial) fun C hC => ?_
 rw [Try.ntmps60]
 replace hC : C.nb = 0 := hC
 refine vc_seq fun K1 hK1 => ?_
 refine vc_region ?_
 refine vo_box rfl rfl ?_
 refine vo_stM ?_
 refine vo_assign_pv rfl rfl ?_
 refine vo_nil ?_
 refine hK1 _ ?_
 refine vc_seq fun K2 hK2 => ?_
 refine vc_region ?_
 refine vo_load_varS rfl rfl rfl Try.underlying25 rfl inf25 sz25 rfl rfl ?_
 refine vo_call0 Try.func16 rfl rfl rfl rfl (implValidWorks_sat hx0) ?_
 rintro _ _ ⟨rfl, rfl⟩
 refine ⟨rfl, rfl, .inl rfl, ?_⟩
 refine vo_stM ?_
 refine vo_move_pv rfl rfl ?_
 refine vo_split 7 rfl (fun hg1 => ?_) (fun hg1 => ?_)
 ·try simp only [zq0, zq1, zq2, zq3, zq4, zq5, zq6, zq7, zq8, zq9, zqa, zqb, zqc, zqd, zqe, zqf] at hg1
  refine vo_guard_on rfl rfl rfl ?_
  refine vo_move_pv rfl rfl ?_
  refine vo_guard_on rfl rfl rfl ?_
  refine vo_fieldAddr_ptr rfl rfl Try.underlying25 rfl inf23 (by rw [sz23]; decide) ?_
  try simp only [Nat.zero_add]
  refine vo_guard_on rfl rfl rfl ?_
  refine vo_load_var rfl rfl rfl Try.underlying23 rfl rfl ?_
  refine vo_guard_on rfl rfl rfl ?_
  refine vo_len_pv rfl rfl Try.underlying23 ?_
  refine vo_guard_on rfl rfl rfl ?_
  refine vo_binI rfl rfl rfl rfl sd ?_
  refine vo_guard_on rfl rfl rfl ?_
  refine vo_call0 Try.func106 rfl rfl rfl rfl isUpTo_sat ?_
  rintro _ _ ⟨rfl, rfl⟩
  refine ⟨rfl, rfl, .inl rfl, ?_⟩
  refine vo_stM ?_
  refine vo_pick_t rfl rfl ?_
  refine vo_assign_pv rfl rfl ?_
  refine vo_nil ?_
  refine hK2 _ ?_
  refine vc_ret ?_
  change retQ _ _ _ _ _
  refine retQ_sel [] (srows := []) (.inr rfl) hC rfl rfl rfl rfl rfl rfl rfl ?_
  refine ⟨?_, rfl⟩
  refine (congrArg (fun b => [bo b]) (?_ : _ = _) : [bo _] = [bo _])
  first
   | exact bF fun h0 => absurd h0.1 (by assumption)
   | exact decide_eq_decide.2 ⟨fun h0 => ⟨by assumption, by omega, by simp only [List.length_map] at h0; omega⟩, fun h0 => by simp only [List.length_map]; omega⟩
 ·try simp only [zq0, zq1, zq2, zq3, zq4, zq5, zq6, zq7, zq8, zq9, zqa, zqb, zqc, zqd, zqe, zqf] at hg1
  refine vo_guard_off rfl rfl rfl rfl rfl ?_
  refine vo_guard_off rfl rfl rfl rfl rfl ?_
  refine vo_guard_off rfl rfl rfl rfl rfl ?_
  refine vo_guard_off rfl rfl rfl rfl rfl ?_
  refine vo_guard_off rfl rfl rfl rfl rfl ?_
  refine vo_guard_off rfl rfl rfl rfl rfl ?_
  refine vo_pick_f rfl rfl ?_
  refine vo_assign_pv rfl rfl ?_
  refine vo_nil ?_
  refine hK2 _ ?_
  refine vc_ret ?_
  change retQ _ _ _ _ _
  refine retQ_sel [] (srows := []) (.inr rfl) hC rfl rfl rfl rfl rfl rfl rfl ?_
  refine ⟨?_, rfl⟩
  refine (congrArg (fun b => [bo b]) (?_ : _ = _) : [bo _] = [bo _])
  first
   | exact bF fun h0 => absurd h0.1 (by assumption)
   | exact decide_eq_decide.2 ⟨fun h0 => ⟨by assumption, by omega, by simp only [List.length_map] at h0; omega⟩, fun h0 => by simp only [List.length_map]; omega⟩


theorem isAbstract_sat {x : WorksM} {nl1 : Option Bool} {order : List Int} {name : Int}  (hx : SK x) (ho : OrdIx x.abs.length order) (hq : OrdIx x.real.length order) : SatAt Try.prog 63 [.pv false (worksP x), .pv false (.sl nl1 1 (order.map intP)), i64 name] [] (fun res rows => res = [bo (decide (isAbs x.abs x.real name order = true))] ∧ rows = []) := by
 obtain ⟨⟨b1, b2⟩, ⟨a1, a2⟩, r1, r2⟩ := hx
 obtain ⟨ho1, ho2⟩ := ho
 obtain ⟨ho3, ho4⟩ := hq
 refine sat_entry_G (rs := [(6, none)]) Try.func63 rfl rfl (Nat.le_of_ble_eq_true rfl) (Nat.le_of_ble_eq_true rfl) (resTs1 trivial) fun C hC => ?_
 rw [Try.ntmps63]
 replace hC : C.nb = 0 := hC
 refine vc_seq fun K1 hK1 => ?_
 refine vc_region ?_
 refine vo_box rfl rfl ?_
 refine vo_stM ?_
 refine vo_assign_pv rfl rfl ?_
 refine vo_nil ?_
 refine hK1 _ ?_
 refine vc_seq fun K2 hK2 => ?_
 refine vc_seq fun K3 hK3 => ?_
 refine vc_region ?_
 refine vo_move_pv rfl rfl ?_
 refine vo_len_pv rfl rfl Try.underlying28 ?_
 refine vo_move_pv rfl rfl ?_
 refine vo_nil ?_
 refine hK3 _ ?_
 refine vc_block ?_
 refine vc_stM ?_
 refine vc_loopE [2, 3, 9, 10] [11] [] _ _ (fun mz vs rs => ∃ (k : Nat), mz = order.length - k ∧ (k ≤ order.length) ∧ (isAbs x.abs x.real name order = isAbs x.abs x.real name (order.drop k)) ∧ vs = [i64 k] ∧ rs = []) (order.length) rfl rfl (le_len hC rfl) ⟨rfl, rfl, rfl⟩ rfl ⟨0, rfl, Nat.zero_le _, rfl, rfl, rfl⟩ ?_
 rintro mz vs rs - - ⟨k, rfl, hk, hf, rfl, rfl⟩
 refine vc_stM ?_
 refine vc_seq fun K4 hK4 => ?_
 refine vc_region ?_
 refine vo_binI rfl rfl rfl rfl trivial ?_
 refine vo_nil ?_
 refine hK4 _ ?_
 refine vc_seq fun K5 hK5 => ?_
 refine vc_cond rfl (fun hc1 => ?_) (fun hc1 => ?_)
 ·try simp only [zq0, zq1, zq2, zq3, zq4, zq5, zq6, zq7, zq8, zq9, zqa, zqb, zqc, zqd, zqe, zqf] at hc1
  have hak := (getD_all (p := fun l : List Int => l.length ≤ 2000000) a2 [] (by simp) (order.getD k 0).toNat)
  have hrk := (getD_all (p := fun l : List Int => l.length ≤ 2000000) r2 [] (by simp) (order.getD k 0).toNat)
  have hin := ho2 _ (getD_mem (show k < order.length by omega) 0)
  have hin2 := ho4 _ (getD_mem (show k < order.length by omega) 0)
  refine vc_skip ?_
  refine hK5 _ ?_
  refine vc_seq fun K6 hK6 => ?_
  refine vc_block ?_
  refine vc_seq fun K7 hK7 => ?_
  refine vc_region ?_
  refine vo_index_pv (.int .i64 0) rfl rfl rfl E28.und inf3 sz3 sd sd ?_
  simp only [Int.toNat_natCast, Int.toNat_zero, getD_ints, getD_intss, getD_bools, getD_bytes, PV.cells, getD_ops, getD_pairs, getD_insts, getD_attrs, getD_attrss, getD_objs, getD_ordP]
  refine vo_load_adr rfl rfl Try.underlying3 rfl ?_
  refine vo_assign_pv rfl rfl ?_
  refine vo_nil ?_
  refine hK7 _ ?_
  refine vc_seq fun K8 hK8 => ?_
  refine vc_seq fun K9 hK9 => ?_
  refine vc_region ?_
  refine vo_fieldAddr_ptr rfl rfl Try.underlying25 rfl inf23 (by rw [sz23]; decide) ?_
  try simp only [Nat.zero_add]
  refine vo_load_var rfl rfl rfl Try.underlying23 rfl rfl ?_
  refine vo_move_pv rfl rfl ?_
  refine vo_index_pv (.sl none 1 []) rfl rfl rfl E23.und inf28 sz28 sd sd ?_
  simp only [Int.toNat_natCast, Int.toNat_zero, getD_ints, getD_intss, getD_bools, getD_bytes, PV.cells, getD_ops, getD_pairs, getD_insts, getD_attrs, getD_attrss, getD_objs, getD_ordP]
  refine vo_load_adr rfl rfl Try.underlying28 rfl ?_
  refine vo_move_pv rfl rfl ?_
  refine vo_call0 Try.func108 rfl rfl rfl rfl (Contains_sat (by omega)) ?_
  rintro _ _ ⟨rfl, rfl⟩
  refine ⟨rfl, rfl, .inl rfl, ?_⟩
  refine vo_stM ?_
  refine vo_nil ?_
  refine hK9 _ ?_
  refine vc_cond rfl (fun hc2 => ?_) (fun hc2 => ?_)
  ·try simp only [zq0, zq1, zq2, zq3, zq4, zq5, zq6, zq7, zq8, zq9, zqa, zqb, zqc, zqd, zqe, zqf] at hc2
   refine vc_seq fun K10 hK10 => ?_
   refine vc_region ?_
   refine vo_assign_pv rfl rfl ?_
   refine vo_nil ?_
   refine hK10 _ ?_
   refine vc_ret ?_
   change retQ _ _ _ _ _
   refine retQ_sel [] (srows := []) (.inr rfl) hC rfl rfl rfl rfl rfl rfl rfl ?_
   refine ⟨?_, rfl⟩
   refine (congrArg (fun b => [bo b]) (?_ : _ = _) : [bo _] = [bo _])
   rw [hf, isAbs_drop (by omega), if_pos (by first | assumption | exact (findM_mem _ _ 0 (by omega)).1 (by omega))]; exact bT rfl
  ·try simp only [zq0, zq1, zq2, zq3, zq4, zq5, zq6, zq7, zq8, zq9, zqa, zqb, zqc, zqd, zqe, zqf] at hc2
   refine vc_skip ?_
   refine hK8 _ ?_
   refine vc_seq fun K11 hK11 => ?_
   refine vc_region ?_
   refine vo_fieldAddr_ptr rfl rfl Try.underlying25 rfl inf23 (by rw [sz23]; decide) ?_
   try simp only [Nat.zero_add]
   refine vo_load_var rfl rfl rfl Try.underlying23 rfl rfl ?_
   refine vo_move_pv rfl rfl ?_
   refine vo_index_pv (.sl none 1 []) rfl rfl rfl E23.und inf28 sz28 sd sd ?_
   simp only [Int.toNat_natCast, Int.toNat_zero, getD_ints, getD_intss, getD_bools, getD_bytes, PV.cells, getD_ops, getD_pairs, getD_insts, getD_attrs, getD_attrss, getD_objs, getD_ordP]
   refine vo_load_adr rfl rfl Try.underlying28 rfl ?_
   refine vo_move_pv rfl rfl ?_
   refine vo_call0 Try.func108 rfl rfl rfl rfl (Contains_sat (by omega)) ?_
   rintro _ _ ⟨rfl, rfl⟩
   refine ⟨rfl, rfl, .inl rfl, ?_⟩
   refine vo_stM ?_
   refine vo_nil ?_
   refine hK11 _ ?_
   refine vc_cond rfl (fun hc3 => ?_) (fun hc3 => ?_)
   ·try simp only [zq0, zq1, zq2, zq3, zq4, zq5, zq6, zq7, zq8, zq9, zqa, zqb, zqc, zqd, zqe, zqf] at hc3
    refine vc_seq fun K12 hK12 => ?_
    refine vc_region ?_
    refine vo_assign_pv rfl rfl ?_
    refine vo_nil ?_
    refine hK12 _ ?_
    refine vc_ret ?_
    change retQ _ _ _ _ _
    refine retQ_sel [] (srows := []) (.inr rfl) hC rfl rfl rfl rfl rfl rfl rfl ?_
    refine ⟨?_, rfl⟩
    refine (congrArg (fun b => [bo b]) (?_ : _ = _) : [bo _] = [bo _])
    rw [hf, isAbs_drop (by omega), if_neg (by first | assumption | (intro h; have := (findM_mem _ _ 0 (by omega)).2 h; omega)), if_pos (by first | assumption | exact (findM_mem _ _ 0 (by omega)).1 (by omega))]; exact bF (by simp)
   ·try simp only [zq0, zq1, zq2, zq3, zq4, zq5, zq6, zq7, zq8, zq9, zqa, zqb, zqc, zqd, zqe, zqf] at hc3
    refine vc_skip ?_
    refine hK6 _ ?_
    refine vc_region ?_
    refine vo_binI rfl rfl rfl rfl sd ?_
    refine vo_move_pv rfl rfl ?_
    refine vo_nil ?_
    change againE _ _ _ _ _ _ _ _ _ _
    refine againE_mk rfl rfl rfl rfl rfl rfl ⟨_, ?_, k + 1, rfl, ?_, ?_, rfl, rfl⟩
    ·omega
    ·omega
    ·rw [hf, isAbs_drop (by omega), if_neg (by first | assumption | (intro h; have := (findM_mem _ _ 0 (by omega)).2 h; omega)), if_neg (by first | assumption | (intro h; have := (findM_mem _ _ 0 (by omega)).2 h; omega))]
 ·try simp only [zq0, zq1, zq2, zq3, zq4, zq5, zq6, zq7, zq8, zq9, zqa, zqb, zqc, zqd, zqe, zqf] at hc1
  refine vc_exit ?_
  refine hK2 _ ?_
  refine vc_seq fun K13 hK13 => ?_
  refine vc_region ?_
  refine vo_assign_pv rfl rfl ?_
  refine vo_nil ?_
  refine hK13 _ ?_
  refine vc_ret ?_
  change retQ _ _ _ _ _
  refine retQ_sel [] (srows := []) (.inr rfl) hC rfl rfl rfl rfl rfl rfl rfl ?_
  refine ⟨?_, rfl⟩
  refine (congrArg (fun b => [bo b]) (?_ : _ = _) : [bo _] = [bo _])
  rw [hf, show k = order.length by omega, List.drop_length]; exact bF (by simp [isAbs])


theorem implAbstractOf_sat {x : WorksM} {c : Int}  (hx : SK x) : SatAt Try.prog 24 [.pv false (worksP x), i64 c] [] (fun res rows => ∃ nl, res = [.ref 0] ∧ rows = [Row.own 3 1 nl true ((absM x c).map intP)]) := by
 have hx0 := hx
 obtain ⟨⟨b1, b2⟩, ⟨a1, a2⟩, r1, r2⟩ := hx
 refine sat_entry_G (rs := [(4, none)]) Try.func24 rfl rfl (Nat.le_of_ble_eq_true rfl) (Nat.le_of_ble_eq_true rfl) (resTs1 trivial) fun C hC => ?_
 rw [Try.ntmps24]
 replace hC : C.nb = 0 := hC
 refine vc_seq fun K1 hK1 => ?_
 refine vc_region ?_
 refine vo_box rfl rfl ?_
 refine vo_stM ?_
 refine vo_assign_pv rfl rfl ?_
 refine vo_own_nil 4 E28 rfl ?_
 refine vo_nil ?_
 refine hK1 _ ?_
 refine vc_seq fun K2 hK2 => ?_
 refine vc_seq fun K3 hK3 => ?_
 refine vc_region ?_
 refine vo_load_varS rfl rfl rfl Try.underlying25 rfl inf25 sz25 rfl rfl ?_
 refine vo_move_pv rfl rfl ?_
 refine vo_call0 Try.func60 rfl rfl rfl rfl (hasWorks_sat hx0) ?_
 rintro _ _ ⟨rfl, rfl⟩
 refine ⟨rfl, rfl, .inl rfl, ?_⟩
 refine vo_stM ?_
 refine vo_not rfl rfl ?_
 refine vo_nil ?_
 refine hK3 _ ?_
 refine vc_cond rfl (fun hc1 => ?_) (fun hc1 => ?_)
 ·try simp only [zq0, zq1, zq2, zq3, zq4, zq5, zq6, zq7, zq8, zq9, zqa, zqb, zqc, zqd, zqe, zqf] at hc1
  refine vc_seq fun K4 hK4 => ?_
  refine vc_region ?_
  refine vo_assign_pv rfl rfl ?_
  refine vo_own_nil 4 E28 rfl ?_
  refine vo_nil ?_
  refine hK4 _ ?_
  refine vc_ret ?_
  change retQ _ _ _ _ _
  refine retQ_sel [2] (srows := [_]) (.inr rfl) hC rfl rfl rfl rfl rfl rfl rfl ?_
  rw [absM_no (by assumption)]; exact ⟨_, rfl, rfl⟩
 ·try simp only [zq0, zq1, zq2, zq3, zq4, zq5, zq6, zq7, zq8, zq9, zqa, zqb, zqc, zqd, zqe, zqf] at hc1
  have hv := hc1.1
  have hoi := ordIx_of hv.1 (show c.toNat < x.bases.length by omega)
  have hoa : OrdIx x.abs.length (ordM x.bases c.toNat) := by rw [hv.2.1]; exact hoi
  have hor : OrdIx x.real.length (ordM x.bases c.toNat) := by rw [hv.2.2.1]; exact hoi
  have htl := ordT_len x.bases (c.toNat + 1)
  refine vc_skip ?_
  refine hK2 _ ?_
  refine vc_seq fun K5 hK5 => ?_
  refine vc_region ?_
  refine vo_fieldAddr_ptr rfl rfl Try.underlying25 rfl inf23 (by rw [sz23]; decide) ?_
  try simp only [Nat.zero_add]
  refine vo_load_var rfl rfl rfl Try.underlying23 rfl rfl ?_
  refine vo_move_pv rfl rfl ?_
  refine vo_call [] Try.func62 rfl rfl rfl rfl rfl rfl rfl (ordersUpTo_satI (by omega) (fun l hl => by have := b2 l hl; omega) hc1.1.1.1 hc1.2.1 (by have := hc1.2.2; omega)) ?_
  rintro _ _ ⟨rfl, rfl⟩
  refine ⟨Nat.le_of_ble_eq_true rfl, ⟨rfl, rfl, rfl, rfl⟩, .inl rfl, ?_⟩
  refine vo_stM ?_
  refine vo_treeown 2 (by omega) rfl ?_
  refine vo_stM ?_
  refine vo_expose 2 (by omega) rfl ?_
  refine vo_stM ?_
  refine vo_weaken 15 rfl ?_
  refine vo_stM ?_
  refine vo_move_pv rfl rfl ?_
  refine vo_index_pv (.sl (some true) 1 []) rfl rfl rfl E23.und inf28 sz28 sd sd ?_
  simp only [Int.toNat_natCast, Int.toNat_zero, getD_ints, getD_intss, getD_bools, getD_bytes, PV.cells, getD_ops, getD_pairs, getD_insts, getD_attrs, getD_attrss, getD_objs, getD_ordP]
  refine vo_load_adr rfl rfl Try.underlying28 rfl ?_
  rw [ordT_get x.bases (c.toNat + 1) c.toNat (by omega)]
  refine vo_stM ?_
  refine vo_assign_pv rfl rfl ?_
  refine vo_nil ?_
  refine hK5 _ ?_
  refine vc_seq fun K6 hK6 => ?_
  refine vc_region ?_
  refine vo_assign_pv rfl rfl ?_
  refine vo_nil ?_
  refine hK6 _ ?_
  refine vc_seq fun K7 hK7 => ?_
  refine vc_seq fun K8 hK8 => ?_
  refine vc_region ?_
  refine vo_move_pv rfl rfl ?_
  refine vo_nil ?_
  refine hK8 _ ?_
  refine vc_block ?_
  refine vc_own_nil 6 E28 rfl ?_
  refine vc_stM ?_
  refine vc_loopE [2, 5] [6, 19] [3] _ _ (fun mz vs rs => ∃ (k : Nat), mz = 10 - k ∧ (k ≤ 10) ∧ vs = [.ref 3, i64 k] ∧ rs = [Row.own 3 1 none true ((selI (absP x c.toNat) (k)).map intP)]) (10) rfl rfl (le_len hC rfl) ⟨rfl, rfl, rfl⟩ rfl ⟨0, rfl, Nat.zero_le _, rfl, rfl⟩ ?_
  rintro mz vs rs - - ⟨k, rfl, hk, rfl, rfl⟩
  refine vc_stM ?_
  have hsl := selI_len (absP x c.toNat) k
  refine vc_seq fun K9 hK9 => ?_
  refine vc_region ?_
  refine vo_binI rfl rfl rfl rfl trivial ?_
  refine vo_nil ?_
  refine hK9 _ ?_
  refine vc_seq fun K10 hK10 => ?_
  refine vc_cond rfl (fun hc2 => ?_) (fun hc2 => ?_)
  ·try simp only [zq0, zq1, zq2, zq3, zq4, zq5, zq6, zq7, zq8, zq9, zqa, zqb, zqc, zqd, zqe, zqf] at hc2
   refine vc_skip ?_
   refine hK10 _ ?_
   refine vc_seq fun K11 hK11 => ?_
   refine vc_block ?_
   refine vc_seq fun K12 hK12 => ?_
   refine vc_region ?_
   refine vo_move_pv rfl rfl ?_
   refine vo_assign_pv rfl rfl ?_
   refine vo_nil ?_
   refine hK12 _ ?_
   refine vc_seq fun K13 hK13 => ?_
   refine vc_region ?_
   refine vo_load_varS rfl rfl rfl Try.underlying25 rfl inf25 sz25 rfl rfl ?_
   refine vo_move_pv rfl rfl ?_
   refine vo_move_pv rfl rfl ?_
   refine vo_call0 Try.func63 rfl rfl rfl rfl (isAbstract_sat (order := ordM x.bases c.toNat) hx0 hoa hor) ?_
   rintro _ _ ⟨rfl, rfl⟩
   refine ⟨rfl, rfl, .inl rfl, ?_⟩
   refine vo_stM ?_
   refine vo_nil ?_
   refine hK13 _ ?_
   refine vc_cond rfl (fun hc3 => ?_) (fun hc3 => ?_)
   ·try simp only [zq0, zq1, zq2, zq3, zq4, zq5, zq6, zq7, zq8, zq9, zqa, zqb, zqc, zqd, zqe, zqf] at hc3
    refine vc_region ?_
    refine vo_move_ref rfl rfl ?_
    refine vo_move_pv rfl rfl ?_
    refine vo_buildSlice E28 rfl rfl rfl rfl rfl ?_
    refine vo_stM ?_
    refine vo_append E28 rfl (by omega) rfl rfl rfl sd sd ?_
    refine vo_stM ?_
    try simp only [app_ints, app_intss, app_bools]
    refine vo_assign_ref rfl rfl ?_
    refine vo_nil ?_
    refine hK11 _ ?_
    refine vc_region ?_
    refine vo_binI rfl rfl rfl rfl sd ?_
    refine vo_move_pv rfl rfl ?_
    refine vo_nil ?_
    change againE _ _ _ _ _ _ _ _ _ _
    refine againE_mk rfl rfl rfl rfl rfl rfl ⟨_, ?_, k + 1, rfl, ?_, rfl, (congrArg (fun l => [Row.own 3 1 none true (List.map intP l)]) (show selI (absP x c.toNat) k ++ [(k : Int)] = selI (absP x c.toNat) (k + 1) by rw [selI_yes (by unfold absP; assumption)]))⟩
    ·omega
    ·omega
   ·try simp only [zq0, zq1, zq2, zq3, zq4, zq5, zq6, zq7, zq8, zq9, zqa, zqb, zqc, zqd, zqe, zqf] at hc3
    refine vc_skip ?_
    refine hK11 _ ?_
    refine vc_region ?_
    refine vo_binI rfl rfl rfl rfl sd ?_
    refine vo_move_pv rfl rfl ?_
    refine vo_nil ?_
    change againE _ _ _ _ _ _ _ _ _ _
    refine againE_mk rfl rfl rfl rfl rfl rfl ⟨_, ?_, k + 1, rfl, ?_, rfl, (congrArg (fun l => [Row.own 3 1 none true (List.map intP l)]) (show selI (absP x c.toNat) k = selI (absP x c.toNat) (k + 1) by rw [selI_no (by unfold absP; first | assumption | (rw [Bool.not_eq_true]; assumption))]))⟩
    ·omega
    ·omega
  ·try simp only [zq0, zq1, zq2, zq3, zq4, zq5, zq6, zq7, zq8, zq9, zqa, zqb, zqc, zqd, zqe, zqf] at hc2
   refine vc_exit ?_
   refine hK7 _ ?_
   refine vc_seq fun K14 hK14 => ?_
   refine vc_region ?_
   refine vo_move_ref rfl rfl ?_
   refine vo_assign_ref rfl rfl ?_
   refine vo_nil ?_
   refine hK14 _ ?_
   refine vc_ret ?_
   change retQ _ _ _ _ _
   refine retQ_sel [3] (srows := [_]) (.inr rfl) hC rfl rfl rfl rfl rfl rfl rfl ?_
   rw [absM_yes (by assumption), show k = 10 by omega]; exact ⟨_, rfl, rfl⟩


theorem implCanMake_sat {x : WorksM} {c : Int}  (hx : SK x) : SatAt Try.prog 19 [.pv false (worksP x), i64 c] [] (fun res rows => res = [bo (decide ((VWorks x ∧ 0 ≤ c ∧ c ≤ (x.bases.length : Int) - 1) ∧ (absM x c).length = 0))] ∧ rows = []) := by
 refine sat_entry_G (rs := [(4, none)]) Try.func19 rfl rfl (Nat.le_of_ble_eq_true rfl) (Nat.le_of_ble_eq_true rfl) (resTs1 trivial) fun C hC => ?_
 rw [Try.ntmps19]
 replace hC : C.nb = 0 := hC
 refine vc_seq fun K1 hK1 => ?_
 refine vc_region ?_
 refine vo_box rfl rfl ?_
 refine vo_stM ?_
 refine vo_assign_pv rfl rfl ?_
 refine vo_nil ?_
 refine hK1 _ ?_
 refine vc_seq fun K2 hK2 => ?_
 refine vc_region ?_
 refine vo_load_varS rfl rfl rfl Try.underlying25 rfl inf25 sz25 rfl rfl ?_
 refine vo_move_pv rfl rfl ?_
 refine vo_call0 Try.func60 rfl rfl rfl rfl (hasWorks_sat hx) ?_
 rintro _ _ ⟨rfl, rfl⟩
 refine ⟨rfl, rfl, .inl rfl, ?_⟩
 refine vo_stM ?_
 refine vo_move_pv rfl rfl ?_
 refine vo_split 8 rfl (fun hg1 => ?_) (fun hg1 => ?_)
 ·try simp only [zq0, zq1, zq2, zq3, zq4, zq5, zq6, zq7, zq8, zq9, zqa, zqb, zqc, zqd, zqe, zqf] at hg1
  refine vo_guard_on rfl rfl rfl ?_
  refine vo_load_varS rfl rfl rfl Try.underlying25 rfl inf25 sz25 rfl rfl ?_
  refine vo_guard_on rfl rfl rfl ?_
  refine vo_move_pv rfl rfl ?_
  refine vo_guard_on rfl rfl rfl ?_
  refine vo_call [] Try.func24 rfl rfl rfl rfl rfl rfl rfl (implAbstractOf_sat hx) ?_
  rintro _ _ ⟨nl9, rfl, rfl⟩
  refine ⟨Nat.le_of_ble_eq_true rfl, ⟨rfl, rfl, rfl, rfl⟩, .inl rfl, ?_⟩
  refine vo_stM ?_
  refine vo_guard_on rfl rfl rfl ?_
  refine vo_len_ref rfl rfl rfl Try.underlying28 ?_
  refine vo_guard_on rfl rfl rfl ?_
  refine vo_binI rfl rfl rfl rfl trivial ?_
  refine vo_pick_t rfl rfl ?_
  refine vo_assign_pv rfl rfl ?_
  refine vo_nil ?_
  refine hK2 _ ?_
  refine vc_ret ?_
  change retQ _ _ _ _ _
  refine retQ_sel [] (srows := []) (.inr rfl) hC rfl rfl rfl rfl rfl rfl rfl ?_
  refine ⟨?_, rfl⟩
  refine (congrArg (fun b => [bo b]) (?_ : _ = _) : [bo _] = [bo _])
  first
   | exact bF fun h0 => absurd h0.1.1 (by assumption)
   | exact bF fun h0 => absurd h0.1 (by assumption)
   | exact bF fun h0 => absurd h0.1.2 (by first | assumption | omega)
   | exact decide_eq_decide.2 ⟨fun h0 => ⟨by first | assumption | exact ⟨by assumption, by omega, by omega⟩, by simp only [List.length_map] at h0; omega⟩, fun h0 => by have := h0.2; simp only [List.length_map]; omega⟩
 ·try simp only [zq0, zq1, zq2, zq3, zq4, zq5, zq6, zq7, zq8, zq9, zqa, zqb, zqc, zqd, zqe, zqf] at hg1
  refine vo_guard_off rfl rfl rfl rfl rfl ?_
  refine vo_guard_off rfl rfl rfl rfl rfl ?_
  refine vo_guard_off rfl rfl rfl rfl rfl ?_
  refine vo_guard_off rfl rfl rfl rfl rfl ?_
  refine vo_guard_off rfl rfl rfl rfl rfl ?_
  refine vo_pick_f rfl rfl ?_
  refine vo_assign_pv rfl rfl ?_
  refine vo_nil ?_
  refine hK2 _ ?_
  refine vc_ret ?_
  change retQ _ _ _ _ _
  refine retQ_sel [] (srows := []) (.inr rfl) hC rfl rfl rfl rfl rfl rfl rfl ?_
  refine ⟨?_, rfl⟩
  refine (congrArg (fun b => [bo b]) (?_ : _ = _) : [bo _] = [bo _])
  first
   | exact bF fun h0 => absurd h0.1.1 (by assumption)
   | exact bF fun h0 => absurd h0.1 (by assumption)
   | exact bF fun h0 => absurd h0.1.2 (by first | assumption | omega)
   | exact decide_eq_decide.2 ⟨fun h0 => ⟨by first | assumption | exact ⟨by assumption, by omega, by omega⟩, by simp only [List.length_map] at h0; omega⟩, fun h0 => by have := h0.2; simp only [List.length_map]; omega⟩


end Go.Vl

namespace Go.Vl
set_option linter.unusedVariables false
set_option linter.unusedSimpArgs false
open Go.Proofs
def fndK (x : WorksM) (k : Nat) : List (List Int) := (List.range k).map fun j => selI (absP x j) 10
end Go.Vl

namespace Go.Vl
set_option linter.unusedVariables false
set_option linter.unusedSimpArgs false
open Go.Proofs

end Go.Vl

namespace Go.Vl
set_option linter.unusedVariables false
set_option linter.unusedSimpArgs false
open Go.Proofs

def mkK (x : WorksM) (c : Nat) : List Bool := (List.range 10).map fun i : Nat => absP x c i
end Go.Vl

namespace Go.Vl
set_option linter.unusedVariables false
set_option linter.unusedSimpArgs false
open Go.Proofs

def acOK (b : List (List Int)) (l : List Int) : Prop := VB b ∧ VB (b ++ [l]) ∧ ordM (b ++ [l]) b.length ≠ []
instance {b : List (List Int)} {l : List Int} : Decidable (acOK b l) := by unfold acOK; infer_instance
def acR (b : List (List Int)) (l : List Int) : List (List Int) := if acOK b l then b ++ [l] else []
theorem acR_no {b : List (List Int)} {l : List Int} (h : ¬ acOK b l) : acR b l = [] := if_neg h
theorem acR_yes {b : List (List Int)} {l : List Int} (h : acOK b l) : acR b l = b ++ [l] := if_pos h
theorem lens_app1 {b : List (List Int)} {l : List Int} {n : Nat} (h : ∀ x ∈ b, x.length < n) (h2 : l.length < n) : ∀ x ∈ b ++ [l], x.length < n := by
  intro x hx
  rcases List.mem_append.1 hx with h3 | h3
  · exact h x h3
  · rw [List.mem_singleton.1 h3]; exact h2
theorem rac_no {b : List (List Int)} {l : List Int} (h : ¬ acOK b l) {el : TypeId} {e : Nat} {nl : Option Bool} {hh : Option (Nat × Option Value)} {B : Bool} (hB : B = false) :
    [SV.ref 0, bo B] = [SV.ref 0, bo (decide (acOK b l))] ∧ [Row.tree el e nl hh []] = [Row.tree el e nl hh ((acR b l).map ints)] := by
  rw [acR_no h, hB, decide_eq_false h]; exact ⟨rfl, rfl⟩
theorem rac_yes {b : List (List Int)} {l : List Int} (h : acOK b l) {el : TypeId} {e : Nat} {nl : Option Bool} {hh : Option (Nat × Option Value)} {B : Bool} (hB : B = true) :
    [SV.ref 0, bo B] = [SV.ref 0, bo (decide (acOK b l))] ∧ [Row.tree el e nl hh ((b ++ [l]).map ints)] = [Row.tree el e nl hh ((acR b l).map ints)] := by
  rw [acR_yes h, hB, decide_eq_true h]; exact ⟨rfl, rfl⟩

theorem specAddClass_sat {nl0 : Option Bool} {bases : List (List Int)} {nl1 : Option Bool} {list : List Int} (hbs : bases.length < 999999999) (hlbases : ∀ l ∈ bases, l.length < 1000000000) (hlist : list.length < 1000000000) : SatAt Try.prog 157 [.pv false (.sl nl0 1 (bases.map ints)), .pv false (.sl nl1 1 (list.map intP))] [] (fun res rows => ∃ nl, res = [.ref 0, bo (decide (acOK bases list))] ∧ rows = [Row.tree 28 1 nl none ((acR bases list).map ints)]) := by
 have hbases : bases.length < 1000000000 := by omega
 refine sat_entry_g (ts := [4, 5]) Try.func157 rfl rfl (by decide) (Nat.le_of_ble_eq_true rfl) fun C hC => ?_
 rw [Try.ntmps157]
 replace hC : C.nb = 0 := hC
 refine vc_seq fun K1 hK1 => ?_
 refine vc_region ?_
 refine vo_assign_pv rfl rfl ?_
 refine vo_assign_pv rfl rfl ?_
 refine vo_nil ?_
 refine hK1 _ ?_
 refine vc_seq fun K2 hK2 => ?_
 refine vc_region ?_
 refine vo_move_pv rfl rfl ?_
 refine vo_call [] Try.func171 rfl rfl rfl rfl rfl rfl rfl (specCopyLists_sat hbases hlbases) ?_
 rintro _ _ ⟨nl8, rfl, rfl⟩
 refine ⟨Nat.le_of_ble_eq_true rfl, ⟨rfl, rfl, rfl, rfl⟩, .inl rfl, ?_⟩
 refine vo_stN ?_
 refine vo_move_pv rfl rfl ?_
 refine vo_call [] Try.func103 rfl rfl rfl rfl rfl rfl rfl (copyInts_sat hlist) ?_
 rintro _ _ ⟨nl7, rfl, rfl⟩
 refine ⟨Nat.le_of_ble_eq_true rfl, ⟨rfl, rfl, rfl, rfl⟩, .inl rfl, ?_⟩
 refine vo_stN ?_
 refine vo_build_tree E23 rfl rfl rfl rfl (fits_of rfl) (fun _ _ _ _ _ h => (own_tp h (plain_ints _)).1.weak) (by omega) ?_
 refine vo_stN ?_
 refine vo_append_tree E23 rfl (by omega) (by omega) rfl rfl rfl rfl rfl sd sd (by simp) ?_
 refine vo_stN ?_
 try simp only [app_ints, app_intss, app_bools]
 refine vo_assign_ref rfl rfl ?_
 refine vo_nil ?_
 refine hK2 _ ?_
 refine vc_seq fun K3 hK3 => ?_
 refine vc_seq fun K4 hK4 => ?_
 refine vc_region ?_
 refine vo_move_pv rfl rfl ?_
 refine vo_call0 Try.func101 rfl rfl rfl rfl (specValidBases0_sat hbases hlbases) ?_
 rintro _ _ ⟨rfl, rfl⟩
 refine ⟨rfl, rfl, .inl rfl, ?_⟩
 refine vo_not rfl rfl ?_
 refine vo_move_pv rfl rfl ?_
 refine vo_split 16 rfl (fun hg1 => ?_) (fun hg1 => ?_)
 ·try simp only [zq0, zq1, zq2, zq3, zq4, zq5, zq6, zq7, zq8, zq9, zqa, zqb, zqc, zqd, zqe, zqf] at hg1
  refine vo_guard_off rfl rfl rfl rfl rfl ?_
  refine vo_guard_off rfl rfl rfl rfl rfl ?_
  refine vo_guard_off rfl rfl rfl rfl rfl ?_
  refine vo_pick_t rfl rfl ?_
  refine vo_move_pv rfl rfl ?_
  refine vo_guard_off rfl rfl rfl rfl rfl ?_
  refine vo_guard_off rfl rfl rfl rfl rfl ?_
  refine vo_guard_off rfl rfl rfl rfl rfl ?_
  refine vo_guard_off rfl rfl rfl rfl rfl ?_
  refine vo_guard_off rfl rfl rfl rfl rfl ?_
  refine vo_guard_off rfl rfl rfl rfl rfl ?_
  refine vo_pick_t rfl rfl ?_
  refine vo_nil ?_
  refine hK4 _ ?_
  refine vc_cond_t rfl ?_
  refine vc_seq fun K5 hK5 => ?_
  refine vc_region ?_
  refine vo_assign_pv rfl rfl ?_
  refine vo_assign_pv rfl rfl ?_
  refine vo_nil ?_
  refine hK5 _ ?_
  refine vc_own_nil 4 E23 rfl ?_
  refine vc_totree 3 rfl (by intro x hx; cases hx) ?_
  refine vc_ret ?_
  change retG _ _ _ _ _
  refine retG_one 3 hC rfl rfl rfl rfl rfl ?_
  exact ⟨_, rac_no (fun h => hg1 h.1) rfl⟩
 ·try simp only [zq0, zq1, zq2, zq3, zq4, zq5, zq6, zq7, zq8, zq9, zqa, zqb, zqc, zqd, zqe, zqf] at hg1
  refine vo_guard_on rfl rfl rfl ?_
  refine vo_move_ref rfl rfl ?_
  refine vo_guard_on rfl rfl rfl ?_
  refine vo_call0 Try.func101 rfl rfl rfl rfl (specValidBases0_sat (bases := bases ++ [list]) (by rw [List.length_append, List.length_singleton]; omega) (lens_app1 hlbases hlist)) ?_
  rintro _ _ ⟨rfl, rfl⟩
  refine ⟨rfl, rfl, .inr rfl, ?_⟩
  refine vo_guard_on rfl rfl rfl ?_
  refine vo_not rfl rfl ?_
  refine vo_pick_f rfl rfl ?_
  refine vo_move_pv rfl rfl ?_
  refine vo_split 21 rfl (fun hg2 => ?_) (fun hg2 => ?_)
  ·try simp only [zq0, zq1, zq2, zq3, zq4, zq5, zq6, zq7, zq8, zq9, zqa, zqb, zqc, zqd, zqe, zqf] at hg2
   refine vo_guard_off rfl rfl rfl rfl rfl ?_
   refine vo_guard_off rfl rfl rfl rfl rfl ?_
   refine vo_guard_off rfl rfl rfl rfl rfl ?_
   refine vo_guard_off rfl rfl rfl rfl rfl ?_
   refine vo_guard_off rfl rfl rfl rfl rfl ?_
   refine vo_guard_off rfl rfl rfl rfl rfl ?_
   refine vo_pick_t rfl rfl ?_
   refine vo_nil ?_
   refine hK4 _ ?_
   refine vc_cond_t rfl ?_
   refine vc_seq fun K6 hK6 => ?_
   refine vc_region ?_
   refine vo_assign_pv rfl rfl ?_
   refine vo_assign_pv rfl rfl ?_
   refine vo_nil ?_
   refine hK6 _ ?_
   refine vc_own_nil 4 E23 rfl ?_
   refine vc_totree 3 rfl (by intro x hx; cases hx) ?_
   refine vc_ret ?_
   change retG _ _ _ _ _
   refine retG_one 3 hC rfl rfl rfl rfl rfl ?_
   exact ⟨_, rac_no (fun h => hg2 h.2.1) rfl⟩
  ·try simp only [zq0, zq1, zq2, zq3, zq4, zq5, zq6, zq7, zq8, zq9, zqa, zqb, zqc, zqd, zqe, zqf] at hg2
   have hv2 := hg2
   refine vo_guard_on rfl rfl rfl ?_
   refine vo_move_ref rfl rfl ?_
   refine vo_guard_on rfl rfl rfl ?_
   refine vo_move_pv rfl rfl ?_
   refine vo_guard_on rfl rfl rfl ?_
   refine vo_len_pv rfl rfl Try.underlying23 ?_
   refine vo_guard_on rfl rfl rfl ?_
   refine vo_call [] Try.func65 rfl rfl rfl rfl rfl rfl rfl (orderOf_sat (bases := bases ++ [list]) (by rw [List.length_append, List.length_singleton]; omega) (lens_app1 hlbases hlist) hv2 (bases.map ints).length (by rw [List.length_append, List.length_singleton, List.length_map]; omega)) ?_
   rintro _ _ ⟨nl6, rfl, rfl⟩
   refine ⟨Nat.le_of_ble_eq_true rfl, ⟨rfl, rfl, rfl, rfl⟩, .inr ⟨rfl, rfl⟩, ?_⟩
   refine vo_stN ?_
   refine vo_guard_on rfl rfl rfl ?_
   refine vo_len_ref rfl rfl rfl Try.underlying28 ?_
   refine vo_guard_on rfl rfl rfl ?_
   refine vo_binI rfl rfl rfl rfl trivial ?_
   refine vo_pick_f rfl rfl ?_
   refine vo_nil ?_
   refine hK4 _ ?_
   refine vc_cond rfl (fun hc3 => ?_) (fun hc3 => ?_)
   ·try simp only [zq0, zq1, zq2, zq3, zq4, zq5, zq6, zq7, zq8, zq9, zqa, zqb, zqc, zqd, zqe, zqf] at hc3
    refine vc_seq fun K7 hK7 => ?_
    refine vc_region ?_
    refine vo_assign_pv rfl rfl ?_
    refine vo_assign_pv rfl rfl ?_
    refine vo_nil ?_
    refine hK7 _ ?_
    refine vc_own_nil 4 E23 rfl ?_
    refine vc_totree 4 rfl (by intro x hx; cases hx) ?_
    refine vc_ret ?_
    change retG _ _ _ _ _
    refine retG_one 4 hC rfl rfl rfl rfl rfl ?_
    exact ⟨_, rac_no (fun h => h.2.2 (List.eq_nil_of_length_eq_zero (by omega))) rfl⟩
   ·try simp only [zq0, zq1, zq2, zq3, zq4, zq5, zq6, zq7, zq8, zq9, zqa, zqb, zqc, zqd, zqe, zqf] at hc3
    refine vc_skip ?_
    refine hK3 _ ?_
    refine vc_seq fun K8 hK8 => ?_
    refine vc_region ?_
    refine vo_move_ref rfl rfl ?_
    refine vo_assign_ref rfl rfl ?_
    refine vo_assign_pv rfl rfl ?_
    refine vo_nil ?_
    refine hK8 _ ?_
    refine vc_ret ?_
    change retG _ _ _ _ _
    refine retG_one 0 hC rfl rfl rfl rfl rfl ?_
    have hA : acOK bases list := ⟨hg1, hv2, fun e => hc3 (by simp only [List.length_map, e]; rfl)⟩
    exact ⟨_, rac_yes hA rfl⟩

end Go.Vl

namespace Go.Vl
set_option linter.unusedVariables false
set_option linter.unusedSimpArgs false
open Go.Proofs

def mkLL : Int → List (List Int) → List (List Int)
  | _, [] => []
  | k, l :: r => markL k l.length :: mkLL (k + l.length) r
def mkE : Int → List (List Int) → Int
  | k, [] => k
  | k, l :: r => mkE (k + l.length) r
theorem acR_lens {b : List (List Int)} {l : List Int} {n : Nat} (h : ∀ x ∈ b, x.length < n) (h2 : l.length < n) : ∀ x ∈ acR b l, x.length < n := by
  by_cases h3 : acOK b l
  · rw [acR_yes h3]; exact lens_app1 h h2
  · rw [acR_no h3]; intro x hx; cases hx

end Go.Vl

namespace Go.Vl
set_option linter.unusedVariables false
set_option linter.unusedSimpArgs false
open Go.Proofs

theorem ordT_app {b d : List (List Int)} : ∀ n, n ≤ b.length → ordT (b ++ d) n = ordT b n
  | 0, _ => rfl
  | n + 1, h => by rw [ordT, ordT, ordT_app n (by omega), getD_app (by omega)]
theorem ordM_app {b d : List (List Int)} {c : Nat} (h : c < b.length) : ordM (b ++ d) c = ordM b c := by
  unfold ordM; rw [ordT_app c (by omega), getD_app h]
theorem ordM_zero {b : List (List Int)} (hv : VB b) : ordM b 0 ≠ [] := by
  have h0 := hv.2.2.1
  have : ordM b 0 = ordS [] [] 0 := by unfold ordM; rw [h0]; rfl
  rw [this]
  simp [ordS, ordL, mergeM, mergeF, hds, hd1, tot]
theorem lens3 {B : List (List Int)} (h : ∀ l ∈ B, l.length ≤ 3) (n : Nat) : (B.getD n []).length ≤ 3 := by
  by_cases hn : n < B.length
  · exact h _ (getD_mem hn [])
  · simp [List.getD, List.getElem?_eq_none (by omega : B.length ≤ n)]
theorem acR_lens3 {b : List (List Int)} {l : List Int} (h : ∀ x ∈ b, x.length ≤ 3) (h2 : l.length ≤ 3) : ∀ x ∈ acR b l, x.length ≤ 3 := fun x hx => Nat.lt_succ_iff.1 (acR_lens (n := 4) (fun l hl => Nat.lt_succ_iff.2 (h l hl)) (by omega) x hx)

end Go.Vl

namespace Go.Vl
set_option linter.unusedVariables false
set_option linter.unusedSimpArgs false
open Go.Proofs

/-- A class with one base has an order, if that base has one. -/
theorem bhd_headG (x : Int) (t : List Int) : ¬ bhd x (x :: t) := by unfold bhd fM; rw [if_pos rfl]; omega
theorem bhd_nilG (x : Int) : ¬ bhd x [] := by unfold bhd fM; omega
theorem fh_twoG {x : Int} {t p : List Int} (h : ¬ bhd x p) : fhM [x :: t, p] = some x := by
  unfold fhM fhF
  rw [freeH_t (by simp) (by
    rintro ⟨l, hl, hb⟩
    rcases List.mem_cons.1 hl with rfl | hl
    · exact bhd_headG x t hb
    · rw [List.mem_singleton.1 hl] at hb; exact h hb)]
  rfl
theorem merge_oneG : ∀ (t : List Int) (n : Nat), t.length ≤ n → mergeF n [t, []] = (t, [[], []])
  | [], n, _ => by
    refine mergeF_none ?_
    unfold fhM fhF freeH
    simp [fhF, freeH]
  | x :: t, n, hn => by
    simp only [List.length_cons] at hn
    rw [mergeF_some (fh_twoG (bhd_nilG x)) (by simp [tot]; omega)]
    have e : [x :: t, ([] : List Int)].map (tk x) = [t, []] := by simp [tk]
    rw [e, merge_oneG t (n-1) (by omega)]
theorem merge_twoG (d : Int) (t : List Int) : mergeM [d :: t, [d]] = (d :: t, [[], []]) := by
  unfold mergeM
  have hb : ¬ bhd d [d] := bhd_headG d []
  rw [mergeF_some (fh_twoG hb) (Nat.le_refl _)]
  have e : [d :: t, [d]].map (tk d) = [t, []] := by simp [tk]
  rw [e, merge_oneG t _ (by simp [tot])]
theorem ordM_head {b : List (List Int)} {c : Nat} (h : ordM b c ≠ []) : ∃ t, ordM b c = (c : Int) :: t := by
  unfold ordM ordS at h ⊢
  split at h
  · exact absurd rfl h
  · rename_i h1
    rw [if_neg h1]
    first
      | exact ⟨_, rfl⟩
      | (split at h
         · exact absurd rfl h
         · rename_i h2
           rw [if_neg h2]
           exact ⟨_, rfl⟩)
      | (split at h
         · rename_i h2
           rw [if_pos h2]
           exact ⟨_, rfl⟩
         · exact absurd rfl h)
theorem ordM_oneB {b : List (List Int)} {c : Nat} {d : Int} (hb : b.getD c [] = [d]) (h0 : 0 ≤ d) (hd : d < c) (h : ordM b d.toNat ≠ []) : ordM b c ≠ [] := by
  obtain ⟨t, ht⟩ := ordM_head h
  rw [Int.toNat_of_nonneg h0] at ht
  have e4 : (ordT b c).getD d.toNat [] = d :: t := by rw [ordT_get b c _ (by omega), ht]
  unfold ordM ordS
  rw [hb, if_neg (by
    rintro ⟨x, hx, h2⟩
    rw [List.mem_singleton.1 hx, e4] at h2
    cases h2)]
  have e5 : ordL (ordT b c) [d] ++ [[d]] = [d :: t, [d]] := by unfold ordL; rw [List.map_cons, e4]; rfl
  rw [e5, merge_twoG]
  have e6 : hds [([] : List Int), []] = [] := by first | rfl | simp [hds, hd1]
  rw [if_pos e6]
  simp
theorem VB_snoc {T : List (List Int)} {l : List Int} (hT : VB T) (hk : T.length < 12) (h : RB0 l T.length) : VB (T ++ [l]) := by
  rw [vb_iff] at hT ⊢
  refine ⟨⟨by rw [List.length_append]; omega, by rw [List.length_append, List.length_singleton]; omega⟩, fun i hi => ?_⟩
  rw [List.length_append, List.length_singleton] at hi
  rcases Nat.lt_or_ge i T.length with h1 | h1
  · rw [getD_app h1]; exact hT.2 i h1
  · have : i = T.length := by omega
    subst this
    rw [getD_end]; exact h
theorem allOK_snoc {T : List (List Int)} {l : List Int} (hT : allOK T) (h : acOK T l) : allOK (T ++ [l]) := by
  refine ⟨h.2.1, fun i hi => ?_⟩
  rw [List.length_append, List.length_singleton] at hi
  rcases Nat.lt_or_ge i T.length with h1 | h1
  · rw [ordM_app h1]; exact hT.2 i h1
  · have : i = T.length := by omega
    subst this; exact h.2.2
theorem acOK_one {T : List (List Int)} {d : Int} (hT : allOK T) (hk : T.length < 12) (h0 : 0 ≤ d) (hd : d < T.length) : acOK T [d] := by
  refine ⟨hT.1, VB_snoc hT.1 hk ?_, ordM_oneB (getD_end _) h0 hd ?_⟩
  · have h1 := hT.1.1
    unfold RB0
    exact ⟨by simp only [List.length_singleton]; omega, by simp, by simp, fun x hx => by rw [List.mem_singleton.1 hx]; omega⟩
  · rw [ordM_app (by omega)]; exact hT.2 _ (by omega)
theorem allOK_root : allOK [[]] := by
  have hv : VB [[]] := by rw [vb_iff]; exact ⟨by simp, fun i hi => by simp at hi; subst hi; unfold RB0; simp⟩
  exact ⟨hv, fun i hi => by simp at hi; subst hi; exact ordM_zero hv⟩
theorem take1 {l : List Int} (h : l ≠ []) : l.take 1 = [l.getD 0 0] := by
  cases l with
  | nil => exact absurd rfl h
  | cons a l => rfl

theorem goodBasesX_sat {nl : Option Bool} {c : List (Fin 256)} {p : Nat} {most : Int} (hc : c.length ≤ 2000) (hp : p < 999900) : SatAt Try.prog 131 [.ptr 0 0 0 0, i64 most] [rdr nl c p] (fun res rows => ∃ (B : List (List Int)) (q : Nat) (f : Bool) (nl5 : Option Bool), (1 ≤ B.length ∧ B.length ≤ 9 ∧ (∀ l ∈ B, l.length ≤ 3) ∧ q ≤ p + 90) ∧ res = [.pv f (.sl nl5 1 (B.map ints))] ∧ rows = [rdr nl c q]) := by
 refine sat_entry_g (ts := [4]) Try.func131 rfl rfl (by decide) (Nat.le_of_ble_eq_true rfl) fun C hC => ?_
 rw [Try.ntmps131]
 replace hC : C.nb = 1 := hC
 refine vc_seq fun K1 hK1 => ?_
 refine vc_region ?_
 refine vo_assign_pv rfl rfl ?_
 refine vo_nil ?_
 refine hK1 _ ?_
 refine vc_seq fun K2 hK2 => ?_
 refine vc_region ?_
 refine vo_buildSlice E28 rfl rfl rfl rfl rfl ?_
 refine vo_expose 1 (by omega) rfl ?_
 refine vo_weaken 10 rfl ?_
 refine vo_stN ?_
 refine vo_buildSlice E23 rfl rfl rfl rfl rfl ?_
 refine vo_assign_ref rfl rfl ?_
 refine vo_nil ?_
 refine hK2 _ ?_
 refine vc_seq fun K3 hK3 => ?_
 refine vc_region ?_
 refine vo_move_ptr rfl rfl ?_
 refine vo_move_pv rfl rfl ?_
 refine vo_call [0] Try.func114 rfl rfl rfl rfl rfl rfl rfl (someBases_sat hc (by omega)) ?_
 rintro _ _ ⟨B, q, ⟨hB, hB2, hB3, hB4⟩, rfl, rfl⟩
 refine ⟨Nat.le_of_ble_eq_true rfl, ⟨rfl, rfl, rfl, rfl⟩, .inl rfl, ?_⟩
 refine vo_stN ?_
 refine vo_assign_ref rfl rfl ?_
 refine vo_nil ?_
 refine hK3 _ ?_
 refine vc_seq fun K4 hK4 => ?_
 refine vc_seq fun K5 hK5 => ?_
 refine vc_region ?_
 refine vo_assign_pv rfl rfl ?_
 refine vo_nil ?_
 refine hK5 _ ?_
 refine vc_block ?_
 refine vc_expose 2 (by omega) rfl ?_
 refine vc_stN ?_
 refine vc_stN ?_
 refine vc_loop [5, 6, 7] (fun mz vs rows => ∃ (k : Nat) (T : List (List Int)) (f : Bool) (nl5 : Option Bool), mz = B.length + 1 - k ∧ (1 ≤ k ∧ T.length = k ∧ k ≤ B.length) ∧ (∀ l ∈ T, l.length ≤ 3) ∧ (allOK T) ∧ vs = [.pv f (.sl nl5 1 (T.map ints)), .ref 3, i64 k] ∧ rows = [rdr nl c q, .dead, .dead, Row.own 28 1 (some false) true (B.map ints)]) (B.length) (le_len hC rfl) ⟨rfl, rfl⟩ ⟨1, [[]], _, _, rfl, (by have := hB.1; simp; omega), (by simp), allOK_root, rfl, rfl⟩ ?_
 rintro mz vs rows - - ⟨k, T, f, nl5, rfl, hk, hT, hTa, rfl, rfl⟩
 have hB1 := hB.lens
 refine vc_seq fun K6 hK6 => ?_
 refine vc_seq fun K7 hK7 => ?_
 refine vc_region ?_
 refine vo_move_pv rfl rfl ?_
 refine vo_move_ref rfl rfl ?_
 refine vo_len_ref rfl rfl rfl Try.underlying23 ?_
 refine vo_binI rfl rfl rfl rfl trivial ?_
 refine vo_nil ?_
 refine hK7 _ ?_
 refine vc_cond rfl (fun hc1 => ?_) (fun hc1 => ?_)
 ·try simp only [zq0, zq1, zq2, zq3, zq4, zq5, zq6, zq7, zq8, zq9, zqa, zqb, zqc, zqd, zqe, zqf] at hc1
  have hB1 := hB.lens
  have hBp := List.length_pos_iff.2 (hB.2.2 k (by omega) (by omega)).1
  have hBm : (List.map intP (B.getD k [])).length = (B.getD k []).length := List.length_map ..
  have hBk := lens3 hB1 k
  have hBk1 : ((B.getD k []).take 1).length ≤ 3 := by rw [List.length_take]; omega
  have hBx := (hB.2.2 k (by omega) (by omega)).2.2.2 _ (getD_mem (show 0 < (B.getD k []).length by omega) 0)
  have hOne : acOK T ((B.getD k []).take 1) := by rw [take1 (hB.2.2 k (by omega) (by omega)).1]; exact acOK_one hTa (by omega) (by omega) (by omega)
  refine vc_skip ?_
  refine hK6 _ ?_
  refine vc_seq fun K8 hK8 => ?_
  refine vc_block ?_
  refine vc_seq fun K9 hK9 => ?_
  refine vc_region ?_
  refine vo_move_pv rfl rfl ?_
  refine vo_move_ref rfl rfl ?_
  refine vo_move_pv rfl rfl ?_
  refine vo_index_ref rfl rfl rfl rfl E23.und inf28 sz28 sd sd ?_
  try simp only [Int.toNat_natCast]
  refine vo_load_own rfl rfl rfl Try.underlying28 rfl sd (getD_intss _ _) rfl ?_
  try simp only [Int.toNat_natCast]
  refine vo_call [] Try.func157 rfl rfl rfl rfl rfl rfl rfl (specAddClass_sat (bases := T) (list := B.getD k []) (by omega) (lt3 hT) (by omega)) ?_
  rintro _ _ ⟨nlg1, rfl, rfl⟩
  refine ⟨Nat.le_of_ble_eq_true rfl, ⟨rfl, rfl, rfl, rfl⟩, .inl rfl, ?_⟩
  refine vo_stN ?_
  refine vo_move rfl ?_
  refine vo_extract rfl rfl rfl ?_
  refine vo_extract rfl rfl rfl ?_
  refine vo_assign_ref rfl rfl ?_
  refine vo_treeown 4 (by omega) rfl ?_
  refine vo_stN ?_
  refine vo_expose 4 (by omega) rfl ?_
  refine vo_stN ?_
  refine vo_assign_pv rfl rfl ?_
  refine vo_nil ?_
  refine hK9 _ ?_
  refine vc_seq fun K10 hK10 => ?_
  refine vc_seq fun K11 hK11 => ?_
  refine vc_region ?_
  refine vo_move_pv rfl rfl ?_
  refine vo_not rfl rfl ?_
  refine vo_nil ?_
  refine hK11 _ ?_
  refine vc_cond rfl (fun hc2 => ?_) (fun hc2 => ?_)
  ·try simp only [zq0, zq1, zq2, zq3, zq4, zq5, zq6, zq7, zq8, zq9, zqa, zqb, zqc, zqd, zqe, zqf] at hc2
   refine vc_region ?_
   refine vo_move_pv rfl rfl ?_
   refine vo_move_ref rfl rfl ?_
   refine vo_move_pv rfl rfl ?_
   refine vo_index_ref rfl rfl rfl rfl E23.und inf28 sz28 sd sd ?_
   try simp only [Int.toNat_natCast]
   refine vo_load_own rfl rfl rfl Try.underlying28 rfl sd (getD_intss _ _) rfl ?_
   try simp only [Int.toNat_natCast]
   refine vo_slice_pv rfl rfl rfl rfl E28.und inf3 sz3 sd sd sd ?_
   simp only [Int.toNat_natCast, Int.toNat_zero, List.drop_zero, Nat.sub_zero, ← List.map_drop, ← List.map_take]
   refine vo_call [] Try.func157 rfl rfl rfl rfl rfl rfl rfl (specAddClass_sat (bases := T) (list := (B.getD k []).take 1) (by omega) (lt3 hT) (by omega)) ?_
   rintro _ _ ⟨nlg2, rfl, rfl⟩
   refine ⟨Nat.le_of_ble_eq_true rfl, ⟨rfl, rfl, rfl, rfl⟩, .inl rfl, ?_⟩
   refine vo_stN ?_
   refine vo_move rfl ?_
   refine vo_extract rfl rfl rfl ?_
   refine vo_extract rfl rfl rfl ?_
   refine vo_assign_ref rfl rfl ?_
   refine vo_treeown 5 (by omega) rfl ?_
   refine vo_stN ?_
   refine vo_expose 5 (by omega) rfl ?_
   refine vo_stN ?_
   refine vo_nil ?_
   refine hK10 _ ?_
   refine vc_region ?_
   refine vo_move_pv rfl rfl ?_
   refine vo_assign_pv rfl rfl ?_
   refine vo_nil ?_
   refine hK8 _ ?_
   refine vc_region ?_
   refine vo_move_pv rfl rfl ?_
   refine vo_binI rfl rfl rfl rfl sd ?_
   refine vo_assign_pv rfl rfl ?_
   refine vo_nil ?_
   change again _ _ _ _ _ _
   refine again_mk rfl rfl rfl rfl ⟨_, ?_, k + 1, _, _, _, rfl, ?_, ?_, ?_, rfl, rfl⟩
   ·omega
   ·rw [acR_yes hOne, List.length_append, List.length_singleton]; omega
   ·exact acR_lens3 hT hBk1
   ·rw [acR_yes hOne]; exact allOK_snoc hTa hOne
  ·try simp only [zq0, zq1, zq2, zq3, zq4, zq5, zq6, zq7, zq8, zq9, zqa, zqb, zqc, zqd, zqe, zqf] at hc2
   refine vc_skip ?_
   refine hK10 _ ?_
   refine vc_region ?_
   refine vo_move_pv rfl rfl ?_
   refine vo_assign_pv rfl rfl ?_
   refine vo_nil ?_
   refine hK8 _ ?_
   refine vc_region ?_
   refine vo_move_pv rfl rfl ?_
   refine vo_binI rfl rfl rfl rfl sd ?_
   refine vo_assign_pv rfl rfl ?_
   refine vo_nil ?_
   change again _ _ _ _ _ _
   refine again_mk rfl rfl rfl rfl ⟨_, ?_, k + 1, _, _, _, rfl, ?_, ?_, ?_, rfl, rfl⟩
   ·omega
   ·have ha : acOK T (B.getD k []) := by first | assumption | (simp_all; done)
    rw [acR_yes ha, List.length_append, List.length_singleton]; omega
   ·exact acR_lens3 hT hBk
   ·have ha : acOK T (B.getD k []) := by first | assumption | (simp_all; done)
    rw [acR_yes ha]; exact allOK_snoc hTa ha
 ·try simp only [zq0, zq1, zq2, zq3, zq4, zq5, zq6, zq7, zq8, zq9, zqa, zqb, zqc, zqd, zqe, zqf] at hc1
  refine vc_exit ?_
  refine hK4 _ ?_
  refine vc_seq fun K12 hK12 => ?_
  refine vc_region ?_
  refine vo_move_pv rfl rfl ?_
  refine vo_assign_pv rfl rfl ?_
  refine vo_nil ?_
  refine hK12 _ ?_
  refine vc_ret ?_
  change retG _ _ _ _ _
  refine retG_sel [] [] hC rfl rfl rfl rfl rfl rfl ?_
  exact ⟨T, q, _, _, ⟨by omega, by omega, hT, by omega⟩, rfl, rfl⟩

end Go.Vl

/- Operations that read no memory come at any time, behind those that write too. -/
namespace Go.Vl
set_option linter.unusedVariables false
set_option linter.unusedSimpArgs false
open Go.RowKit
section
variable {P : Program} {C : Ctx} {s : St} {t : Nat} {ty : TypeId} {pos : String} {af : Array Edge}

theorem l0_len_pv {x : Operand} {f : Bool} {nl : Option Bool} {e : Nat} {xs : List PV} {T el : TypeId} (hx : getO s.env x = .pv f (.sl nl e xs)) (hT : P.underlying T = some (.slice el)) : Lt0 P C s ⟨some t, .call ⟨.builtin .len, #[x], #[T]⟩, ty, pos, af, none⟩ ((.pv true (.int .i64 xs.length))) := by
  intro m a w hs
  have hv := hs.get x
  rw [hx] at hv
  have hv := hv.pv_inv
  refine ⟨.int .i64 xs.length, fun _ => ?_, .pv _ _ _ (.int _ _)⟩
  generalize hav : a.eval x = v at hv
  cases hv with
  | nilsl => simp [execOp, resolve, invoke, builtin, Builtin.len_, hav, run_underlying hT, goInt]
  | sl nl e xs ad len cap f h hs' hl => subst hl; simp [execOp, resolve, invoke, builtin, Builtin.len_, hav, run_underlying hT, goInt]

theorem l0_index_pv {x i : Operand} {f f2 : Bool} {nl : Option Bool} {e : Nat} {xs : List PV} {T el : TypeId} {k : IntKind} {n : Int} {inf : TypeInfo} (d : PV) 
 (hx : getO s.env x = .pv f (.sl nl e xs)) (hi : getO s.env i = .pv f2 (.int k n)) (hT : P.underlying T = some (.slice el)) (hinf : P.info? el = some inf) (hsz : inf.size = e)
 (h0 : 0 ≤ n) (hn : n < xs.length) : Lt0 P C s ⟨some t, .indexAddr T x i, ty, pos, af, none⟩ ((.adr f (xs.getD n.toNat d).cells)) := by
  intro m a w hs
  have e2 := hs.int hi
  have hv := hs.get x
  rw [hx] at hv
  have hv := hv.pv_inv
  obtain ⟨j, rfl⟩ := Int.eq_ofNat_of_zero_le h0
  have hj : j < xs.length := by omega
  have hget : xs[j]? = some (xs.getD j d) := by simp [List.getD, List.getElem?_eq_getElem hj]
  generalize hav : a.eval x = v at hv
  cases hv with
  | nilsl => simp at hj
  | sl nl e xs ad len cap fv h hsp hl hcap hg hw hc hr =>
    subst hl
    have hne : xs ≠ [] := by intro h0; subst h0; simp at hj
    have hsp := hsp hne
    refine ⟨.pointer (some (ad.add (j * e))), fun _ => ?_, ?_⟩
    · simp [execOp, Instr.indexAt, hav, e2, asIntOf, run_underlying hT, sizeOf, typeInfo, hinf, hsz, hj]
    · have hadd : ad.add (j * e) = ⟨ad.block, ad.off + j * e, none⟩ := by
        unfold Addr.add
        split
        · rename_i h0
          rw [h0]
          cases ad
          simp at hsp
          simp [hsp]
        · rw [← hsp]
      rw [hadd]
      simp only [Int.toNat_natCast]
      have hfit := hw j _ hget
      refine .adr f _ ⟨ad.block, ad.off + j * e, none⟩ (fv j) rfl (fun _ => hg hne) hfit.2 (fun q c hq => ?_) (fun q c hq => hr j _ q c hget hq)
      exact hc j _ q c hget hq

end
end Go.Vl

namespace Go.Vl
set_option linter.unusedVariables false
set_option linter.unusedSimpArgs false
open Go.Proofs

end Go.Vl

/- Calls by any operation that enters a function: by name, through an interface, of a value. -/
namespace Go.Vl
set_option linter.unusedVariables false
set_option linter.unusedSimpArgs false
open Go.RowKit
section
variable {P : Program} {C : Ctx} {Q : Go.Exit → St → Prop} {s : St}

/-- An operation that enters a function, by what that hands back; 'bs' are the rows that it may write. -/
theorem ow_callA {op : Op} {t : Nat} {ty : TypeId} {pos : String} {af : Array Edge} {gd : Option (Nat × Bool)} {f : FuncId} {va : Array Value} {sa : List SV} {args : List SV} {R : List SV → List Row → Prop} (bs : List Nat)
    {brows : List Row} {m : Nat → MV} {a : Act} {w : World} {K : Act → World → Prop} {Q' : Go.Exit → Act → World → Prop} (hs : SimM C s m a w)
    (hrun : (execOp a.eval ⟨some t, op, ty, pos, af, gd⟩).run P w = .ok (.enter f va) w) (hva : va.size = sa.length)
    (hvs : ∀ (u : Nat) (x : SV), sa[u]? = some x → RS w (Gd C s.rows m w) m s.rows.length x (va.getD u undef)) (ht : Nat.blt t s.n = true)
    (hb1 : bs.map (fun id => (s.rows[id]?).map Row.toArg) = brows.map some) (hb2 : brows.all Row.live = true) (hb3 : bs.map (placeOf bs) = (List.range bs.length).map some)
    (hargs : sa.mapM (argOfB bs s.rows) = some args) (hsat : SatAt P f args brows R)
    (next : ∀ res rows', R res rows' → bs.length ≤ rows'.length ∧ (res.all SV.noTup = true ∧ rows'.all (Row.bdd 0) = true ∧ (rows'.take bs.length).all Row.live = true ∧ rows'.all Row.noGh = true) ∧
      ((sa.any (SV.isKept bs) = false) ∨ (res.all SV.fresh = true ∧ rows'.all Row.fresh = true)) ∧
      ∀ m' a' w', SimM C ⟨s.n, (t, packS (res.map (SV.shift bs s.rows.length))) :: s.env, rowsAfter bs s.rows rows'⟩ m' a' w' → w.heap.size ≤ w'.heap.size →
        (∀ k, k < w.heap.size → (∀ (q id : Nat), bs[q]? = some id → ¬ (m id).S k) → w'.heap[k]? = w.heap[k]?) → K a' w') :
    Oper.wp P ⟨some t, op, ty, pos, af, gd⟩ a w K Q' := by
  unfold Oper.wp
  rw [hrun, Oper.upon_enter]
  have hbrow : ∀ (q id : Nat), bs[q]? = some id → ∃ r, s.rows[id]? = some r ∧ brows[q]? = some r.toArg ∧ r.live = true := by
    intro q id hq
    have h1 : (bs.map (fun id => (s.rows[id]?).map Row.toArg))[q]? = (brows.map some)[q]? := by rw [hb1]
    simp only [List.getElem?_map, hq, Option.map_some] at h1
    cases hr : s.rows[id]? with
    | none =>
      rw [hr] at h1
      cases hq2 : brows[q]? with
      | none => rw [hq2] at h1; simp at h1
      | some r2 => rw [hq2] at h1; simp at h1
    | some r =>
      rw [hr] at h1
      simp only [Option.map_some] at h1
      cases hq2 : brows[q]? with
      | none => rw [hq2] at h1; simp at h1
      | some r2 =>
        rw [hq2] at h1
        simp at h1
        subst h1
        refine ⟨r, rfl, rfl, ?_⟩
        rw [List.all_eq_true] at hb2
        exact toArg_live _ (hb2 _ (List.mem_of_getElem? hq2))
  have hblen : brows.length = bs.length := by
    have := congrArg List.length hb1
    simpa using this.symm
  have hblive : ∀ (q id : Nat), bs[q]? = some id → liveAt s.rows id := fun q id hq => let ⟨r, h1, _, h3⟩ := hbrow q id hq; ⟨r, h1, h3⟩
  have hplace : ∀ (q id : Nat), bs[q]? = some id → placeOf bs id = some q := by
    intro q id hq
    have h1 : (bs.map (placeOf bs))[q]? = ((List.range bs.length).map some)[q]? := by rw [hb3]
    have hlt : q < bs.length := (List.getElem?_eq_some_iff.1 hq).1
    simp only [List.getElem?_map, hq, Option.map_some, List.getElem?_range hlt, Option.some.injEq] at h1
    exact h1
  let kept : Prop := sa.any (SV.isKept bs) = true
  let bm : Nat → MV := fun q => m ((bs[q]?).getD 0)
  let tk : Nat → Prop := fun b => ∃ (q id : Nat), bs[q]? = some id ∧ (m id).S b
  let C' : Ctx := ⟨w, fun b => Gd C s.rows m w false b ∨ (kept ∧ b < w.heap.size ∧ ¬ tk b), bs.length, bm⟩
  have hlen : args.length = va.size := by rw [mapM_len hargs, hva]
  have htk : ∀ b, tk b → priv s.rows m b := fun b ⟨q, id, h1, h2⟩ => ⟨id, hblive q id h1, h2⟩
  have hbpriv : ∀ b, priv brows bm b → tk b := by
    rintro b ⟨q, ⟨r, hr, hl⟩, hbk⟩
    have hq : q < bs.length := by rw [← hblen]; exact (List.getElem?_eq_some_iff.1 hr).1
    have hq2 : bs[q]? = some bs[q] := List.getElem?_eq_getElem hq
    exact ⟨q, _, hq2, by simpa [bm, hq2] using hbk⟩
  have hkey : ∀ fr b, Gd C s.rows m w fr b → Gd C' brows bm w false b := fun fr b hb =>
    ⟨hb.1, fun hp => hb.2.1 (htk b (hbpriv b hp)), fun _ => .inl (.inl hb.weak), fun e => by cases e⟩
  have hs0 : SimM C' ⟨va.size, enumE 0 args, brows⟩ bm ⟨va, []⟩ C'.w0 := {
    defs := rfl
    size := rfl
    os := rfl
    tape := rfl
    output := rfl
    hsz := Nat.le_refl _
    old := fun _ _ _ => rfl
    bor := fun _ _ => rfl
    nbl := by show bs.length ≤ brows.length; omega
    newb := fun id b hge hl _ => by
      obtain ⟨r, hr, _⟩ := hl
      have h1 : id < brows.length := (List.getElem?_eq_some_iff.1 hr).1
      change bs.length ≤ id at hge
      omega
    dist := fun i j b hi hj hbi hbj => by
      obtain ⟨r, hr, _⟩ := hi
      obtain ⟨r2, hr2, _⟩ := hj
      have hi1 : i < bs.length := by rw [← hblen]; exact (List.getElem?_eq_some_iff.1 hr).1
      have hj1 : j < bs.length := by rw [← hblen]; exact (List.getElem?_eq_some_iff.1 hr2).1
      have hi2 : bs[i]? = some bs[i] := List.getElem?_eq_getElem hi1
      have hj2 : bs[j]? = some bs[j] := List.getElem?_eq_getElem hj1
      simp only [bm, hi2, hj2, Option.getD_some] at hbi hbj
      have := hs.dist _ _ b (hblive i _ hi2) (hblive j _ hj2) hbi hbj
      have p1 := hplace i _ hi2
      have p2 := hplace j _ hj2
      rw [this, p2] at p1
      cases p1
      rfl
    rows := fun q r hr => by
      have hq : q < bs.length := by rw [← hblen]; exact (List.getElem?_eq_some_iff.1 hr).1
      have hq2 : bs[q]? = some bs[q] := List.getElem?_eq_getElem hq
      obtain ⟨r0, h1, h2, h3⟩ := hbrow q _ hq2
      change brows[q]? = some r at hr
      rw [hr] at h2
      cases h2
      have : bm q = m bs[q] := by simp [bm, hq2]
      rw [this]
      exact toArg_ok hkey (hs.rows _ _ h1)
    env := fun u => by
      show RS w _ _ _ (look (enumE 0 args) u) _
      rw [look_enumE]
      simp only [Nat.zero_le, if_true, Nat.sub_zero]
      rcases Nat.lt_or_ge u va.size with hu | hu
      · have hx : sa[u]? = some (sa[u]'(by omega)) := List.getElem?_eq_getElem (by omega)
        obtain ⟨y, hy, hg⟩ := mapM_get hargs u _ hx
        rw [hy]
        simp only [Option.getD_some]
        show RS w _ _ _ y (va.getD u undef)
        have hv := hvs u _ hx
        generalize hgx : sa[u]'(by omega) = gx at *
        generalize va.getD u undef = v at *
        cases hv with
        | pv fr p v hp =>
          simp only [argOfB, Option.some.injEq] at hg
          subst hg
          cases hsc : p.scal with
          | true => exact .pv _ _ _ (hp.scal_any hsc)
          | false => exact .pv _ _ _ (hp.mono fun b hb => ⟨hkey fr b hb, rfl⟩)
        | ref id hid =>
          simp only [argOfB] at hg
          split at hg
          · rename_i q hq
            simp at hg
            subst hg
            have hq2 := placeOf_some hq
            have : m id = bm q := by simp [bm, hq2]
            rw [this]
            exact .ref q (by show q < brows.length; rw [hblen]; exact (List.getElem?_eq_some_iff.1 hq2).1)
          · rename_i hq
            split at hg
            · rename_i t' e nl fr ys hrow
              simp at hg
              subst hg
              refine .pv _ _ _ (RP.of_row (hs.rows id _ hrow) (fun b hb => hkey _ b hb) (fun b hb => ?_))
              have hlt := hs.lt ⟨_, hrow, rfl⟩ hb
              have hk : kept := by
                show sa.any (SV.isKept bs) = true
                rw [List.any_eq_true]
                exact ⟨.ref id, List.mem_of_getElem? hx, by simp [SV.isKept, hq]⟩
              have hnt : ¬ tk b := by
                rintro ⟨q, id', h1, h2⟩
                have := hs.dist id id' b ⟨_, hrow, rfl⟩ (hblive q id' h1) hb h2
                subst this
                exact placeOf_none hq (List.mem_of_getElem? h1)
              exact ⟨hlt, fun hp => hnt (hbpriv b hp), fun _ => .inl (.inr ⟨hk, hlt, hnt⟩), fun e => by cases e⟩
            · rename_i t' e nl ys hrow
              simp at hg
              subst hg
              refine .pv _ _ _ (RP.of_tree (hs.rows id _ hrow) (fun b hb => ?_))
              have hlt := hs.lt ⟨_, hrow, rfl⟩ hb
              have hk : kept := by
                show sa.any (SV.isKept bs) = true
                rw [List.any_eq_true]
                exact ⟨.ref id, List.mem_of_getElem? hx, by simp [SV.isKept, hq]⟩
              have hnt : ¬ tk b := by
                rintro ⟨q, id', h1, h2⟩
                have := hs.dist id id' b ⟨_, hrow, rfl⟩ (hblive q id' h1) hb h2
                subst this
                exact placeOf_none hq (List.mem_of_getElem? h1)
              exact ⟨hlt, fun hp => hnt (hbpriv b hp), fun _ => .inl (.inr ⟨hk, hlt, hnt⟩), fun e => by cases e⟩
            · simp at hg
        | ptr id e i o b hid hbk =>
          simp only [argOfB] at hg
          split at hg
          · rename_i q hq
            simp at hg
            subst hg
            have hq2 := placeOf_some hq
            have : m id = bm q := by simp [bm, hq2]
            exact .ptr q e i o b (by show q < brows.length; rw [hblen]; exact (List.getElem?_eq_some_iff.1 hq2).1) (by rw [← this]; exact hbk)
          · simp at hg
        | ag vs us hl9 h9 h1 =>
          simp only [argOfB] at hg
          split at hg
          · rename_i ps hps
            simp at hg
            subst hg
            obtain ⟨g1, g2⟩ := argCells_get hps
            have hkey2 : ∀ (j : Nat) (p : PV) (u : Value), ps[j]? = some p → us[j]? = some u → RP w (Gd C' brows bm w false) p u ∧ p.isAgg = false := by
              intro j p u hp hu
              obtain ⟨c, hc, hcp⟩ := g2 j p hp
              refine argCell_ok hs (h9 j c u hc hu) hcp (h1 j u hu) (fun fr b hb => hkey fr b hb) (fun id b e hq hlv hb => ?_)
              subst e
              have hlt := hs.lt hlv hb
              have hk : kept := by
                show sa.any (SV.isKept bs) = true
                rw [List.any_eq_true]
                refine ⟨.ag vs, List.mem_of_getElem? hx, ?_⟩
                show vs.any (SV.isKept1 bs) = true
                rw [List.any_eq_true]
                exact ⟨.ref id, List.mem_of_getElem? hc, by simp [SV.isKept1, hq]⟩
              have hnt : ¬ tk b := by
                rintro ⟨q, id', h1, h2⟩
                have := hs.dist id id' b hlv (hblive q id' h1) hb h2
                subst this
                exact placeOf_none hq (List.mem_of_getElem? h1)
              exact ⟨hlt, fun hp => hnt (hbpriv b hp), fun _ => .inl (.inr ⟨hk, hlt, hnt⟩), fun e => by cases e⟩
            have hul : us.size = ps.length := by rw [hl9, g1]
            refine .pv _ _ _ (.agg ps us hul (fun j c hc => ?_) (fun j c u hc hu => (hkey2 j c u hc hu).1))
            have hj : j < us.size := by rw [hul]; exact (List.getElem?_eq_some_iff.1 hc).1
            exact (hkey2 j c _ hc (Array.getElem?_eq_getElem hj)).2
          · cases hg
        | _ => simp [argOfB] at hg
      · rw [List.getElem?_eq_none (by omega)]
        exact .any _ }
  refine (hsat C' bm va hblen.symm (fun b hb => hb.elim (fun h => h.1) (fun h => h.2.1)) (by simp [hlen]) hs0).mono ?_
  rintro e w' ⟨us, res, rows', m2, rfl, hus, hs', hR⟩
  obtain ⟨hbl, ⟨hnt, hbdd, hlv, hng⟩, hfr, hnx⟩ := next res rows' hR
  have hsz : w.heap.size ≤ w'.heap.size := hs'.hsz
  have hold : ∀ k, k < w.heap.size → ¬ tk k → w'.heap[k]? = w.heap[k]? := fun k hk hn => hs'.old k hk (fun q hq hbk => by
    have hq2 : bs[q]? = some bs[q] := List.getElem?_eq_getElem hq
    exact hn ⟨q, _, hq2, by simpa [C', bm, hq2] using hbk⟩)
  let N := s.rows.length
  let m3 : Nat → MV := fun j => if j < N then m j else m2 (j - N + bs.length)
  let nr := rowsAfter bs s.rows rows'
  have hm3 : ∀ j, j < N → m3 j = m j := fun j hj => by simp [m3, hj]
  have hm2b : ∀ (q id : Nat), bs[q]? = some id → m2 q = m id := by
    intro q id hq
    have := hs'.bor q (List.getElem?_eq_some_iff.1 hq).1
    rw [this]
    show bm q = m id
    simp [bm, hq]
  have hnrlen : nr.length = N + (rows'.length - bs.length) := by simp [nr, rowsAfter, N]
  have hnr1 : ∀ j, j < N → ∃ r0, s.rows[j]? = some r0 ∧ ((∃ q : Nat, bs[q]? = some j ∧ ∃ r', rows'[q]? = some r' ∧ nr[j]? = some r') ∨ (j ∉ bs ∧ nr[j]? = some r0)) := by
    intro j hj
    have h0 : s.rows[j]? = some s.rows[j] := List.getElem?_eq_getElem hj
    refine ⟨_, h0, ?_⟩
    have h1 : nr[j]? = some (match placeOf bs j with | some q => (rows'[q]?).getD .dead | none => s.rows[j]) := by
      simp only [nr, rowsAfter]
      rw [List.getElem?_append_left (by simp; exact hj)]
      simp [List.getElem?_mapIdx, h0]
      try (cases placeOf bs j <;> rfl)
    cases hp : placeOf bs j with
    | none => right; rw [hp] at h1; exact ⟨placeOf_none hp, h1⟩
    | some q =>
      left
      rw [hp] at h1
      have hq := placeOf_some hp
      have hq1 : q < rows'.length := Nat.lt_of_lt_of_le (List.getElem?_eq_some_iff.1 hq).1 hbl
      have hq2 : rows'[q]? = some rows'[q] := List.getElem?_eq_getElem hq1
      refine ⟨q, hq, _, hq2, ?_⟩
      rw [h1]
      show some ((rows'[q]?).getD Row.dead) = _
      rw [hq2]
      rfl
  have hnr2 : ∀ j, N ≤ j → nr[j]? = rows'[j - N + bs.length]? := by
    intro j hj
    simp only [nr, rowsAfter]
    rw [List.getElem?_append_right (by simp; exact hj)]
    simp only [List.length_mapIdx, List.getElem?_drop]
    congr 1
    omega
  have hnlive : ∀ j, j < N → liveAt nr j → liveAt s.rows j := by
    intro j hj ⟨r, hr, hl⟩
    obtain ⟨r0, h0, h | h⟩ := hnr1 j hj
    · obtain ⟨q, hq, _⟩ := h
      exact hblive q j hq
    · rw [h.2] at hr
      cases hr
      exact ⟨r, h0, hl⟩
  have hnew : ∀ j b, N ≤ j → liveAt nr j → (m3 j).S b → liveAt rows' (j - N + bs.length) ∧ (m2 (j - N + bs.length)).S b ∧ w.heap.size ≤ b := by
    intro j b hj ⟨r, hr, hl⟩ hbk
    rw [hnr2 j hj] at hr
    have e1 : m3 j = m2 (j - N + bs.length) := by simp [m3, Nat.not_lt.2 hj]
    rw [e1] at hbk
    exact ⟨⟨r, hr, hl⟩, hbk, hs'.newb _ b (by show bs.length ≤ _; omega) ⟨r, hr, hl⟩ hbk⟩
  have hG : ∀ f b, Gd C s.rows m w f b → Gd C nr m3 w' f b ∧ w'.heap[b]? = w.heap[b]? := by
    refine Gd.step tk hsz hold htk (fun b hlt ⟨j, hl, hbk⟩ => ?_)
    rcases Nat.lt_or_ge j N with hj | hj
    · rw [hm3 j hj] at hbk
      exact ⟨j, hnlive j hj hl, hbk⟩
    · have := (hnew j b hj hl hbk).2.2
      omega
  have hG2 : ∀ fl b, (fl = true ∨ ¬ kept) → Gd C' rows' m2 w' fl b → Gd C nr m3 w' fl b := by
    intro fl b hk hb
    have hnp : ¬ priv nr m3 b := by
      rintro ⟨j, hl, hbk⟩
      rcases Nat.lt_or_ge j N with hj | hj
      · obtain ⟨r0, h0, h | h⟩ := hnr1 j hj
        · obtain ⟨q, hq, r', hr', hn⟩ := h
          rw [hm3 j hj, ← hm2b q j hq] at hbk
          refine hb.2.1 ⟨q, ⟨r', hr', ?_⟩, hbk⟩
          rw [List.all_eq_true] at hlv
          refine hlv r' (List.mem_of_getElem? (i := q) ?_)
          rw [List.getElem?_take, if_pos (List.getElem?_eq_some_iff.1 hq).1]
          exact hr'
        · rw [hm3 j hj] at hbk
          have hpl : priv s.rows m b := ⟨j, hnlive j hj hl, hbk⟩
          have hlt := hs.lt (hnlive j hj hl) hbk
          cases fl with
          | true => have := (hb.2.2.2 rfl).1; change w.heap.size ≤ b at this; omega
          | false =>
            rcases hb.2.2.1 rfl with hA | hA
            · rcases hA with hA | hA
              · exact hA.2.1 hpl
              · rcases hk with hk | hk
                · cases hk
                · exact hk hA.1
            · change w.heap.size ≤ b at hA; omega
      · obtain ⟨h1, h2, _⟩ := hnew j b hj hl hbk
        exact hb.2.1 ⟨_, h1, h2⟩
    refine ⟨hb.1, hnp, fun e => ?_, fun e => ?_⟩
    · rcases hb.2.2.1 e with hA | hA
      · rcases hA with hA | hA
        · exact hA.2.2.1 rfl
        · rcases hk with hk | hk
          · rw [hk] at e; cases e
          · exact (hk hA.1).elim
      · exact .inr (Nat.le_trans hs.hsz hA)
    · have h4 := hb.2.2.2 e
      exact ⟨Nat.le_trans hs.hsz h4.1, h4.2⟩
  have hrowC : ∀ (q : Nat) (r : Row), rows'[q]? = some r → RowOK w' (Gd C nr m3 w') m3 nr.length (m2 q) r := by
    intro q r hr
    have h0 := hs'.rows q r hr
    have hfq : kept → r.fresh = true := by
      intro hk
      rcases hfr with h | h
      · have hk' : sa.any (SV.isKept bs) = true := hk
        rw [h] at hk'; cases hk'
      · have := h.2
        rw [List.all_eq_true] at this
        exact this r (List.mem_of_getElem? hr)
    have hbq : r.bdd 0 = true := by rw [List.all_eq_true] at hbdd; exact hbdd r (List.mem_of_getElem? hr)
    have hgq : r.noGh = true := by rw [List.all_eq_true] at hng; exact hng r (List.mem_of_getElem? hr)
    have hor : ∀ fl : Bool, (kept → fl = true) → (fl = true ∨ ¬ kept) := fun fl h => by
      by_cases hk : kept
      · exact .inl (h hk)
      · exact .inr hk
    change RowOK w' (Gd C' rows' m2 w') m2 rows'.length (m2 q) r at h0
    generalize m2 q = v at *
    cases h0 with
    | dead v => exact .dead v
    | own v t e nl fr xs vs hown h1 h2 hw hr' =>
      refine .own v t e nl fr xs vs hown h1 h2 hw (fun i x j c hx hc => ?_)
      obtain ⟨u, hu, hp⟩ := hr' i x j c hx hc
      exact ⟨u, hu, hp.mono fun b hb => ⟨hG2 fr b (hor fr hfq) hb, rfl⟩⟩
    | tree mv t e nl h xs vals Sf hown h1 h2 hw hr9 hd hn hz hS hkn => exact .tree _ t e nl h xs vals Sf hown h1 h2 hw hr9 hd hn hz hS hkn
    | mp b g es clock hbk hm' => exact .mp b g es clock hbk hm'
    | gh mv us cs hl h9 => cases hgq
    | var b t cs cur hb hl hr' h1 =>
      refine .var b t cs cur hb hl (fun j c u hc hu => ?_) h1
      have hv := hr' j c u hc hu
      have hcb : c.bdd 0 = true := by
        simp only [Row.bdd, List.all_eq_true] at hbq
        exact hbq c (List.mem_of_getElem? hc)
      have hcf : kept → c.fresh = true := by
        intro hk
        have := hfq hk
        simp only [Row.fresh, List.all_eq_true] at this
        exact this c (List.mem_of_getElem? hc)
      cases hv with
      | any v => exact .any _
      | val u => exact .val _
      | und => exact .und
      | pv fr p v hp =>
        cases hsc : p.scal with
        | true => exact .pv _ _ _ (hp.scal_any hsc)
        | false => exact .pv _ _ _ (hp.mono fun b hb => ⟨hG2 fr b (hor fr fun hk => by have := hcf hk; simpa [SV.fresh, hsc] using this) hb, rfl⟩)
      | ref i hi => simp [SV.bdd] at hcb
      | ptr i e' k o b' hi hbk => simp [SV.bdd] at hcb
      | adr fr cs' a' f' hsp hg h1' hc' hr2 =>
        by_cases hk : kept
        · have := hcf hk; simp [SV.fresh] at this
        · exact .adr fr cs' a' f' hsp (fun hne => hG2 fr _ (.inr hk) (hg hne)) h1' hc' (fun j c hj => (hr2 j c hj).mono fun b hb => ⟨hG2 fr b (.inr hk) hb, rfl⟩)
      | tup vs us' hl' h' => simp [SV.bdd] at hcb
      | sub i e' l h c' _ hid hs9 => simp [SV.bdd] at hcb
      | clo f ids us9 hl9 h9 => 
          have e9 : ids = [] := by
            cases ids with
            | nil => rfl
            | cons i ids => simp [SV.bdd] at hcb
          subst e9
          exact .clo f [] us9 hl9 (fun j i u h1 h2 => by simp at h1)
      | ag vs us' hl' h' h1' =>
        refine .ag vs us' hl' (fun q c u hc hu => ?_) h1'
        have hcb1 : c.bdd1 0 = true := by simp only [SV.bdd, List.all_eq_true] at hcb; exact hcb c (List.mem_of_getElem? hc)
        have hcf1 : kept → c.fresh1 = true := fun hk => by have := hcf hk; simp only [SV.fresh, List.all_eq_true] at this; exact this c (List.mem_of_getElem? hc)
        have hv := h' q c u hc hu
        cases hv with
        | any v => exact .any _
        | val u => exact .val _
        | und => exact .und
        | pv fr p v hp =>
          cases hsc : p.scal with
          | true => exact .pv _ _ _ (hp.scal_any hsc)
          | false => exact .pv _ _ _ (hp.mono fun b hb => ⟨hG2 fr b (hor fr fun hk => by have := hcf1 hk; simpa [SV.fresh1, hsc] using this) hb, rfl⟩)
        | ref i hi => simp [SV.bdd1] at hcb1
        | ptr i e' k o b' hi hbk => simp [SV.bdd1] at hcb1
        | adr fr cs' a' f' hsp hg h1' hc' hr2 =>
          by_cases hk : kept
          · have := hcf1 hk; simp [SV.fresh1] at this
          · exact .adr fr cs' a' f' hsp (fun hne => hG2 fr _ (.inr hk) (hg hne)) h1' hc' (fun j c hj => (hr2 j c hj).mono fun b hb => ⟨hG2 fr b (.inr hk) hb, rfl⟩)
        | tup vs us' hl' h' => simp [SV.bdd1] at hcb1
        | ag vs us' hl' h' h1' => simp [SV.bdd1] at hcb1
        | sub i e' l h c' _ hid hs9 => simp [SV.bdd1] at hcb1
        | clo f ids us9 hl9 h9 => 
          have e9 : ids = [] := by
            cases ids with
            | nil => rfl
            | cons i ids => simp [SV.bdd1] at hcb1
          subst e9
          exact .clo f [] us9 hl9 (fun j i u h1 h2 => by simp at h1)
  have hs2 : SimM C ⟨s.n, s.env, nr⟩ m3 a w' := {
    defs := hs.defs
    size := hs.size
    os := hs'.os.trans hs.os
    tape := hs'.tape.trans hs.tape
    output := hs'.output.trans hs.output
    hsz := Nat.le_trans hs.hsz hsz
    old := fun k hk hn => by
      refine (hold k (by have := hs.hsz; omega) ?_).trans (hs.old k hk hn)
      rintro ⟨q, id, h1, h2⟩
      by_cases hid : id < C.nb
      · exact hn id hid (by rw [← hs.bor id hid]; exact h2)
      · have := hs.newb id k (by omega) (hblive q id h1) h2; omega
    bor := fun id hid => by rw [hm3 id (by have := hs.nbl; show id < N; omega)]; exact hs.bor id hid
    nbl := by have := hs.nbl; show C.nb ≤ nr.length; rw [hnrlen]; show C.nb ≤ s.rows.length + _; omega
    newb := fun j b hj hl hbk => by
      rcases Nat.lt_or_ge j N with h | h
      · rw [hm3 j h] at hbk; exact hs.newb j b hj (hnlive j h hl) hbk
      · have := (hnew j b h hl hbk).2.2; have := hs.hsz; omega
    dist := fun i j b hi hj hbi hbj => by
      rcases Nat.lt_or_ge i N with h1 | h1 <;> rcases Nat.lt_or_ge j N with h2 | h2
      · rw [hm3 i h1] at hbi; rw [hm3 j h2] at hbj
        exact hs.dist i j b (hnlive i h1 hi) (hnlive j h2 hj) hbi hbj
      · rw [hm3 i h1] at hbi
        have e1 := hs.lt (hnlive i h1 hi) hbi
        have e2 := (hnew j b h2 hj hbj).2.2
        omega
      · rw [hm3 j h2] at hbj
        have e1 := hs.lt (hnlive j h2 hj) hbj
        have e2 := (hnew i b h1 hi hbi).2.2
        omega
      · obtain ⟨l1, b1, _⟩ := hnew i b h1 hi hbi
        obtain ⟨l2, b2, _⟩ := hnew j b h2 hj hbj
        have := hs'.dist _ _ b l1 l2 b1 b2
        omega
    rows := fun j r hr => by
      change nr[j]? = some r at hr
      show RowOK w' (Gd C nr m3 w') m3 nr.length (m3 j) r
      rcases Nat.lt_or_ge j N with h | h
      · rw [hm3 j h]
        obtain ⟨r0, h0, hh | hh⟩ := hnr1 j h
        · obtain ⟨q, hq, r', hr', hn⟩ := hh
          rw [hn] at hr
          cases hr
          rw [← hm2b q j hq]
          exact hrowC q r hr'
        · rw [hh.2] at hr
          cases hr
          refine RowOK.mono hG (by rw [hnrlen]; exact Nat.le_add_right _ _) (fun id hid => hm3 id hid) (hs.rows j r h0) (fun hl b hb => hold b (hs.lt ⟨r, h0, hl⟩ hb) ?_)
          rintro ⟨q, id, h1, h2⟩
          have := hs.dist j id b ⟨r, h0, hl⟩ (hblive q id h1) hb h2
          subst this
          exact hh.1 (List.mem_of_getElem? h1)
      · rw [hnr2 j h] at hr
        have e1 : m3 j = m2 (j - N + bs.length) := by simp [m3, Nat.not_lt.2 h]
        rw [e1]
        exact hrowC _ r hr
    env := fun u => by
      refine (hs.env u).mono hG ?_ (fun id hid => hm3 id hid)
      show s.rows.length ≤ nr.length
      rw [hnrlen]
      exact Nat.le_add_right _ _ }
  have hres : ∀ (j : Nat) (r : SV), res[j]? = some r → RS w' (Gd C nr m3 w') m3 nr.length (r.shift bs N) (us.getD j undef) := by
    intro j r hj
    have hv := hs'.env j
    change RS w' _ _ _ (look (enumE 0 res) j) (us.getD j undef) at hv
    rw [look_enumE] at hv
    simp only [Nat.zero_le, if_true, Nat.sub_zero, hj, Option.getD_some] at hv
    have hrf : kept → r.fresh = true := by
      intro hk
      rcases hfr with h | h
      · have hk' : sa.any (SV.isKept bs) = true := hk
        rw [h] at hk'; cases hk'
      · have := h.1
        rw [List.all_eq_true] at this
        exact this r (List.mem_of_getElem? hj)
    have hrt : r.noTup = true := by rw [List.all_eq_true] at hnt; exact hnt r (List.mem_of_getElem? hj)
    have hidx : ∀ i, i < rows'.length → ∃ i', i' < nr.length ∧ m3 i' = m2 i ∧ (match bs[i]? with | some b => b | none => i - bs.length + N) = i' := by
      intro i hi
      cases hbi : bs[i]? with
      | some b =>
        have hbN : b < N := by
          obtain ⟨r, hr, _⟩ := hblive i b hbi
          exact (List.getElem?_eq_some_iff.1 hr).1
        exact ⟨b, by rw [hnrlen]; omega, by rw [hm3 b hbN]; exact (hm2b i b hbi).symm, rfl⟩
      | none =>
        have hge : bs.length ≤ i := by simpa using hbi
        refine ⟨i - bs.length + N, by rw [hnrlen]; omega, ?_, rfl⟩
        simp only [m3]
        rw [if_neg (by omega)]
        congr 1
        omega
    generalize us.getD j undef = v at *
    cases hv with
    | any v => exact .any _
    | val u => exact .any _
    | und => exact .any _
    | pv fr p v hp =>
      simp only [SV.shift]
      cases hsc : p.scal with
      | true => exact .pv _ _ _ (hp.scal_any hsc)
      | false =>
        refine .pv _ _ _ (hp.mono fun b hb => ⟨hG2 fr b ?_ hb, rfl⟩)
        by_cases hk : kept
        · left; have := hrf hk; simpa [SV.fresh, hsc] using this
        · exact .inr hk
    | ref i hi =>
      obtain ⟨i', h1, h2, h3⟩ := hidx i hi
      have e : SV.shift bs N (.ref i) = .ref i' := by
        simp only [SV.shift]
        cases hbi : bs[i]? <;> rw [hbi] at h3 <;> simp_all
      rw [e, ← h2]
      exact .ref i' h1
    | ptr i e k o b hi hbk =>
      obtain ⟨i', h1, h2, h3⟩ := hidx i hi
      have e : SV.shift bs N (.ptr i e k o) = .ptr i' e k o := by
        simp only [SV.shift]
        cases hbi : bs[i]? <;> rw [hbi] at h3 <;> simp_all
      rw [e]
      exact .ptr i' _ _ _ b h1 (by rw [h2]; exact hbk)
    | adr fr cs' a' f' hsp hg h1' hc' hr2 => exact .any _
    | tup vs us' hl' h' => simp [SV.noTup] at hrt
    | sub i e' l h c' _ hid hs9 => exact .any _
    | clo => exact .any _
    | ag vs us' hl' h' h1' =>
      refine .ag _ us' (by simpa using hl') (fun q c u hc hu => ?_) h1'
      simp only [List.getElem?_map, Option.map_eq_some_iff] at hc
      obtain ⟨c', hc', rfl⟩ := hc
      have hcf1 : kept → c'.fresh1 = true := fun hk => by have := hrf hk; simp only [SV.fresh, List.all_eq_true] at this; exact this c' (List.mem_of_getElem? hc')
      have hv := h' q c' u hc' hu
      cases hv with
      | pv fr p v hp =>
        simp only [SV.shift1]
        cases hsc : p.scal with
        | true => exact .pv _ _ _ (hp.scal_any hsc)
        | false =>
          refine .pv _ _ _ (hp.mono fun b hb => ⟨hG2 fr b ?_ hb, rfl⟩)
          by_cases hk : kept
          · left; have := hcf1 hk; simpa [SV.fresh1, hsc] using this
          · exact .inr hk
      | ref i hi =>
        obtain ⟨i', h1, h2, h3⟩ := hidx i hi
        have e : SV.shift1 bs N (.ref i) = .ref i' := by
          simp only [SV.shift1]
          cases hbi : bs[i]? <;> rw [hbi] at h3 <;> simp_all
        rw [e, ← h2]
        exact .ref i' h1
      | _ => exact .any _
  have hput := hs2.put (blt_lt ht) (sv := packS (res.map (SV.shift bs N))) (v := pack us) (by
    match res, hus, hres with
    | [], hus, _ =>
      have : us = #[] := Array.eq_empty_of_size_eq_zero (by simpa using hus)
      subst this
      exact .tup _ _ rfl (fun j c v hc => by simp at hc)
    | [r], hus, hres =>
      have h1 : us.size = 1 := by simpa using hus
      have := hres 0 r rfl
      simp only [packS, pack, h1, dif_pos, List.map_cons, List.map_nil]
      simpa [Array.getD, h1] using this
    | r1 :: r2 :: rs, hus, hres =>
      have h1 : us.size ≠ 1 := by rw [hus]; simp
      simp only [packS, pack, h1, dif_neg, not_false_iff, List.map_cons]
      refine .tup _ _ (by rw [hus]; simp) (fun j c v hc hv => ?_)
      have hc2 : ((r1 :: r2 :: rs).map (SV.shift bs N))[j]? = some c := by simpa using hc
      simp only [List.getElem?_map, Option.map_eq_some_iff] at hc2
      obtain ⟨c', hc', rfl⟩ := hc2
      have := hres j c' hc'
      have e : us.getD j undef = v := by
        rw [Array.getElem?_eq_some_iff] at hv
        obtain ⟨hlt, e⟩ := hv
        simp [Array.getD, hlt, e]
      rw [e] at this
      exact this)
  exact hnx _ _ _ hput hsz (fun k hk hn => hold k hk (fun ⟨q, id, h1, h2⟩ => hn q id h1 h2))

end
end Go.Vl

namespace Go.Vl
open Go.RowKit
section
variable {P : Program} {C : Ctx} {Q : Go.Exit → St → Prop} {s : St} {ops : Array Oper} {rest : List Oper} {t : Nat} {ty : TypeId} {pos : String} {af : Array Edge}

/-- Which function a method is, for a dynamic type; and what it is given. -/
def MethAt (P : Program) (T : TypeId) (name : String) (p : PV) (F : FuncId) (q : PV) : Prop :=
  ∀ (w : World) (G : Nat → Prop) (v : Value), RP w G p v → ∃ r, (Go.method (P.types.size + Made.depth) T v name).run P w = .ok (F, r) w ∧ RP w G q r

end
end Go.Vl

/- Every order, one by one: for statements where an operation that writes may come before a reading one. -/
namespace Go.Vl
set_option linter.unusedVariables false
set_option linter.unusedSimpArgs false
open Go.RowKit
section
variable {late : List Nat} {P : Program} {C : Ctx} {ops : Array Oper} {K : St → Prop} {s s1 : St} {n : Nat} {listed : Array Bool}
end
section
variable {P : Program} {C : Ctx} {s : St} {t : Nat} {ty : TypeId} {pos : String} {af : Array Edge}
theorem l0_index_ref {x i : Operand} {f2 : Bool} {id R e : Nat} {nl : Option Bool} {xs : List PV} {T el : TypeId} {k : IntKind} {n : Int} {inf : TypeInfo} 
 (hx : getO s.env x = .ref id) (hrow : (s.rows[id]?).bind Row.sl = some (R, e, nl, xs)) (hi : getO s.env i = .pv f2 (.int k n)) (hT : P.underlying T = some (.slice el)) (hinf : P.info? el = some inf) (hsz : inf.size = e)
 (h0 : 0 ≤ n) (hn : n < xs.length) : Lt0 P C s ⟨some t, .indexAddr T x i, ty, pos, af, none⟩ ((.ptr id e n.toNat 0)) := by
  intro m a w hs
  have e2 := hs.int hi
  obtain ⟨hv, hid⟩ := hs.row hx
  obtain ⟨j, rfl⟩ := Int.eq_ofNat_of_zero_le h0
  have hj : j < xs.length := by omega
  obtain ⟨⟨vals, hown⟩, _, _, _⟩ := hs.sl hrow
  · rcases hown.2 with ⟨e0, hn0⟩ | ⟨g, cap, cur, e0, _, hh, hle, hmx, hsz', htk⟩
    · omega
    · rw [e0] at hv
      refine ⟨.pointer (some ⟨g, j * e, none⟩), fun _ => ?_, ?_⟩
      · have hadd : (⟨g, 0, none⟩ : Addr).add (j * e) = ⟨g, j * e, none⟩ := by
          unfold Addr.add
          split
          · rename_i h0; simp [h0]
          · simp
        simp [execOp, Instr.indexAt, hv, e2, asIntOf, run_underlying hT, sizeOf, typeInfo, hinf, hsz, hj, hadd]
      · simp only [Int.toNat_natCast]
        exact .ptr id e j 0 g hid (by rw [e0]; rfl)
end
end Go.Vl

/- Statements whose order of evaluation is open, with calls that write rows lent to the function: what reads others reads the same behind them. -/
namespace Go.Vl
set_option linter.unusedVariables false
set_option linter.unusedSimpArgs false
open Go.RowKit

/-- All that was there is there as it was, but for some blocks. -/
def ExtB (B : Nat → Prop) (w w' : World) : Prop := w.heap.size ≤ w'.heap.size ∧ ∀ k, k < w.heap.size → ¬ B k → w'.heap[k]? = w.heap[k]?
theorem ExtB.refl (B : Nat → Prop) (w : World) : ExtB B w w := ⟨Nat.le_refl _, fun _ _ _ => rfl⟩
theorem ExtB.trans {B : Nat → Prop} {a b c : World} (h : ExtB B a b) (k : ExtB B b c) : ExtB B a c := ⟨Nat.le_trans h.1 k.1, fun i hi hb => (k.2 i (Nat.lt_of_lt_of_le hi h.1) hb).trans (h.2 i hi hb)⟩
theorem ExtW.toB {B : Nat → Prop} {w w' : World} (h : ExtW w w') : ExtB B w w' := ⟨h.1, fun k hk _ => h.2 k hk⟩
theorem ExtB.cell {B : Nat → Prop} {w w' : World} (h : ExtB B w w') {a : Addr} {v : Value} (hb : ¬ B a.block) (hc : w.cell? a = some v) : w'.cell? a = some v := by
  have hlt : a.block < w.heap.size := by
    rcases Nat.lt_or_ge a.block w.heap.size with h | h
    · exact h
    · unfold World.cell? at hc
      rw [Array.getElem?_eq_none h] at hc
      cases hc
  rw [← hc]
  simp [World.cell?, h.2 _ hlt hb]
/-- The blocks of what was lent to the function. -/
def lentB (C : Ctx) (b : Nat) : Prop := ∃ id, id < C.nb ∧ (C.bv id).S b

section
variable {B : Nat → Prop} {P : Program} {ops : Array Oper} {Q : Go.Exit → Act → World → Prop}
def yieldsB (B : Nat → Prop) (P : Program) (ops : Array Oper) (o : Oper) (v : Value) (a : Act) (w : World) : Prop :=
  (Region.wanted o (yielded ops a.tmps) = true ∧ ∀ w', ExtB B w w' → (execOp a.eval o).run P w' = .ok (.value v) w') ∨ (Region.wanted o (yielded ops a.tmps) = false ∧ v = undef)

theorem yieldsB.step {o : Oper} {v : Value} {a a' : Act} {w w' : World} (h : yieldsB B P ops o v a w) (hx : ExtB B w w') (he : execOp a'.eval o = execOp a.eval o)
    (hw : Region.wanted o (yielded ops a'.tmps) = Region.wanted o (yielded ops a.tmps)) : yieldsB B P ops o v a' w' := by
  unfold yieldsB at *
  rw [he, hw]
  exact h.imp (fun h => ⟨h.1, fun w2 h2 => h.2 w2 (hx.trans h2)⟩) id

theorem yieldsB.op {i : Nat} {o : Oper} {v : Value} {a : Act} {w : World} (hi : ops[i]? = some o) (hy : yieldsB B P ops o v a w) {K : Act → World → Prop} (h : K (a.put o.dst v) w) : wpOp P ops Q i K a w := by
  unfold wpOp
  simp only [hi]
  rcases hy with ⟨hw, hv⟩ | ⟨hw, rfl⟩
  · simp only [hw, if_true, Oper.wp, hv w (ExtB.refl B w), Oper.upon]; exact .inl h
  · simp only [hw, Bool.false_eq_true, if_false]; exact h

/-- Another operation first: what only reads yields the same behind it. -/
theorem op_beforeB {j : Nat} {oi oj : Oper} {v : Value} (hj : ops[j]? = some oj) (hap : oi.apart ops oj = true) (hsi : ∀ cs b, oi.op ≠ .select cs b) (hsj : ∀ cs b, oj.op ≠ .select cs b)
    (hQ : ∀ c a w, ¬ Q (.panic c) a w) {K : Act → World → Prop} {a : Act} {w : World} (hK : ∀ a' w', K a' w' → ExtB B w w') (hy : yieldsB B P ops oi v a w) (h : wpOp P ops Q j K (a.put oi.dst v) w) :
    wpOp P ops Q j (fun a' w' => yieldsB B P ops oi v a' w' ∧ K (a'.put oi.dst v) w') a w := by
  obtain ⟨h1, h2, h3⟩ := Oper.apart_spec hap
  have keep : ∀ (u : Value) (w' : World), ExtB B w w' → yieldsB B P ops oi v (a.put oj.dst u) w' := fun u w' hx => hy.step hx (execOp_put oi hsi a oj.dst u h3) (wanted_put oi a oj.dst u h3)
  have fin : ∀ (u : Value) (w' : World), K ((a.put oi.dst v).put oj.dst u) w' → yieldsB B P ops oi v (a.put oj.dst u) w' ∧ K ((a.put oj.dst u).put oi.dst v) w' := by
    intro u w' hk
    exact ⟨keep u w' (hK _ _ hk), by rw [← Act.put_comm a v u h2]; exact hk⟩
  unfold wpOp at *
  simp only [hj] at *
  rw [wanted_put oj a oi.dst v h1] at h
  by_cases hw : Region.wanted oj (yielded ops a.tmps) = true
  · rw [if_pos hw] at h ⊢
    rcases h with h | ⟨hasks, hlets⟩
    · left
      unfold Oper.wp at *
      rw [execOp_put oj hsj a oi.dst v h1] at h
      generalize (execOp a.eval oj).run P w = r at *
      cases r with
      | ok n w' =>
        cases n with
        | value u => exact fin u w' h
        | skip => exact fin undef w' h
        | defer d =>
          simp only [Oper.upon] at h ⊢
          have hx := hK _ _ h
          refine ⟨?_, by rw [← Act.put_comm _ v undef h2, ← Act.put_defers]; exact h⟩
          have hy1 : yieldsB B P ops oi v { a with defers := d :: a.defers } w := hy.step (ExtB.refl B w) rfl rfl
          exact hy1.step hx (execOp_put oi hsi _ oj.dst undef h3) (wanted_put oi _ oj.dst undef h3)
        | enter f args =>
          simp only [Oper.upon] at h ⊢
          refine h.mono fun e w'' he => ?_
          cases e with
          | returned u => exact fin u w'' he
          | panicked c => exact (hQ _ _ _ he).elim
          | outgrown => exact he
        | row row args => exact Rows.mono h fun u w'' he => fin u w'' he
        | _ => exact h
      | halt x w' =>
        cases x <;> simp only [Oper.upon] at h ⊢
        exact (hQ _ _ _ h).elim
    · right
      refine ⟨?_, hlets⟩
      unfold Oper.asks at *
      rw [execOp_put oj hsj a oi.dst v h1] at hasks
      exact hasks
  · rw [if_neg hw] at h ⊢
    exact fin undef w h

/-- Whatever order is picked; each step leaves all that was there as it was, or is one of those that come late. -/
def anyLB (B : Nat → Prop) (late : List Nat) (P : Program) (ops : Array Oper) (Q : Go.Exit → Act → World → Prop) : Nat → Array Bool → Act → World → Prop
  | 0, listed, a, w => Region.ready .any ops listed = [] ∧ Q .normal a w
  | n + 1, listed, a, w => (Region.ready .any ops listed = [] → Q .normal a w) ∧
      ∀ i ∈ Region.ready .any ops listed, wpOp P ops Q i (fun a' w' => (ExtB B w w' ∨ late.contains i = true) ∧ anyLB B late P ops Q n (listed.setIfInBounds i true) a' w') a w

theorem any_of_anyLB {late : List Nat} : ∀ (n : Nat) (listed : Array Bool) (a : Act) (w : World), anyLB B late P ops Q n listed a w → wpAny P .any ops Q n listed a w
  | 0, _, _, _, h => h
  | n + 1, _, _, _, h => ⟨h.1, fun i hi => wpOp_mono (fun a' w' h' => any_of_anyLB n _ a' w' h'.2) (h.2 i hi)⟩

theorem anyLB_first {late : List Nat} {M : Nat → Bool} {i : Nat} {oi : Oper} {v : Value} (hi : ops[i]? = some oi) (hsel : ∀ (j : Nat) (o : Oper) cs b, ops[j]? = some o → o.op ≠ .select cs b) (hQ : ∀ c a w, ¬ Q (.panic c) a w)
    (hcl : ∀ j oj, ops[j]? = some oj → j ≠ i → (∀ e ∈ oj.after, Region.binds .any e = true → M e.on = true) → M j = true ∧ late.contains j = false) :
    ∀ (n : Nat) (listed : Array Bool) (a : Act) (w : World),
      (∀ j oj, ops[j]? = some oj → j ≠ i → listed.getD j true = false → (∀ e ∈ oj.after, Region.binds .any e = true → e.on ≠ i) → oi.apart ops oj = true) →
      (∀ k, listed.getD k false = true → M k = true) →
      i ∈ Region.ready .any ops listed → yieldsB B P ops oi v a w → anyLB B late P ops Q n (listed.setIfInBounds i true) (a.put oi.dst v) w → anyLB B late P ops Q (n + 1) listed a w := by
  intro n
  induction n with
  | zero =>
    intro listed a w _ _ hr hy H
    refine ⟨fun h => (by rw [h] at hr; cases hr), fun j hj => ?_⟩
    by_cases hji : j = i
    · subst hji; exact hy.op hi ⟨.inl (ExtB.refl B w), H⟩
    · have := ready_mono hj hji
      rw [H.1] at this
      cases this
  | succ n ih =>
    intro listed a w hfree hsub hr hy H
    refine ⟨fun h => (by rw [h] at hr; cases hr), fun j hj => ?_⟩
    by_cases hji : j = i
    · subst hji; exact hy.op hi ⟨.inl (ExtB.refl B w), H⟩
    · have g1 := H.2 j (ready_mono hj hji)
      obtain ⟨hjun, oj, hoj, hall⟩ := mem_ready.1 hj
      have hnot : ∀ e ∈ oj.after, Region.binds .any e = true → e.on ≠ i := by
        intro e he hb heq
        have l1 := hall e he hb
        have l0 := (mem_ready.1 hr).1
        rw [heq] at l1
        rcases Nat.lt_or_ge i listed.size with h' | h'
        · simp [h'] at l0 l1
          rw [l0] at l1
          cases l1
        · simp [Array.getElem?_eq_none h'] at l1
      obtain ⟨hMj, hlj⟩ := hcl j oj hoj hji (fun e he hb => hsub _ (hall e he hb))
      have hext : ∀ (w' : World), (ExtB B w w' ∨ late.contains j = true) → ExtB B w w' := by
        intro w' h
        rcases h with h | h
        · exact h
        · rw [hlj] at h; cases h
      have g2 := op_beforeB hoj (hfree j oj hoj hji hjun hnot) (fun cs b => hsel i oi cs b hi) (fun cs b => hsel j oj cs b hoj) hQ (fun _ w' h => hext w' h.1) hy g1
      have hfree' : ∀ k ok, ops[k]? = some ok → k ≠ i → (listed.setIfInBounds j true).getD k true = false → (∀ e ∈ ok.after, Region.binds .any e = true → e.on ≠ i) → oi.apart ops ok = true := by
        intro k ok hk hki hun hno
        refine hfree k ok hk hki ?_ hno
        by_cases hjk : j = k
        · subst hjk; exact hjun
        · rw [getD_set_ne true hjk] at hun; exact hun
      have hsub' : ∀ k, (listed.setIfInBounds j true).getD k false = true → M k = true := by
        intro k hk
        by_cases hjk : j = k
        · subst hjk; exact hMj
        · rw [getD_set_ne false hjk] at hk; exact hsub k hk
      refine wpOp_mono (fun a' w' g3 => ⟨g3.2.1, ih (listed.setIfInBounds j true) a' w' hfree' hsub' (ready_mono hr (Ne.symm hji)) g3.1 ?_⟩) g2
      rw [Array.setIfInBounds_comm _ _ hji]
      exact g3.2.2

theorem anyLB_first0 {late : List Nat} {i : Nat} {oi : Oper} {v : Value} (hi : ops[i]? = some oi) (hsel : ∀ (j : Nat) (o : Oper) cs b, ops[j]? = some o → o.op ≠ .select cs b) (hQ : ∀ c a w, ¬ Q (.panic c) a w) :
    ∀ (n : Nat) (listed : Array Bool) (a : Act) (w : World),
      (∀ j oj, ops[j]? = some oj → j ≠ i → listed.getD j true = false → (∀ e ∈ oj.after, Region.binds .any e = true → e.on ≠ i) → oi.apart ops oj = true) →
      i ∈ Region.ready .any ops listed → yields0 P ops oi v a → anyLB B late P ops Q n (listed.setIfInBounds i true) (a.put oi.dst v) w → anyLB B late P ops Q (n + 1) listed a w := by
  intro n
  induction n with
  | zero =>
    intro listed a w _ hr hy H
    refine ⟨fun h => (by rw [h] at hr; cases hr), fun j hj => ?_⟩
    by_cases hji : j = i
    · subst hji; exact hy.op hi ⟨.inl (ExtB.refl B w), H⟩
    · have := ready_mono hj hji
      rw [H.1] at this
      cases this
  | succ n ih =>
    intro listed a w hfree hr hy H
    refine ⟨fun h => (by rw [h] at hr; cases hr), fun j hj => ?_⟩
    by_cases hji : j = i
    · subst hji; exact hy.op hi ⟨.inl (ExtB.refl B w), H⟩
    · have g1 := H.2 j (ready_mono hj hji)
      obtain ⟨hjun, oj, hoj, hall⟩ := mem_ready.1 hj
      have hnot : ∀ e ∈ oj.after, Region.binds .any e = true → e.on ≠ i := by
        intro e he hb heq
        have l1 := hall e he hb
        have l0 := (mem_ready.1 hr).1
        rw [heq] at l1
        rcases Nat.lt_or_ge i listed.size with h' | h'
        · simp [h'] at l0 l1
          rw [l0] at l1
          cases l1
        · simp [Array.getElem?_eq_none h'] at l1
      have g2 := op_before0 hoj (hfree j oj hoj hji hjun hnot) (fun cs b => hsel i oi cs b hi) (fun cs b => hsel j oj cs b hoj) hQ hy g1
      have hfree' : ∀ k ok, ops[k]? = some ok → k ≠ i → (listed.setIfInBounds j true).getD k true = false → (∀ e ∈ ok.after, Region.binds .any e = true → e.on ≠ i) → oi.apart ops ok = true := by
        intro k ok hk hki hun hno
        refine hfree k ok hk hki ?_ hno
        by_cases hjk : j = k
        · subst hjk; exact hjun
        · rw [getD_set_ne true hjk] at hun; exact hun
      refine wpOp_mono (fun a' w' g3 => ⟨g3.2.1, ih (listed.setIfInBounds j true) a' w' hfree' (ready_mono hr (Ne.symm hji)) g3.1 ?_⟩) g2
      rw [Array.setIfInBounds_comm _ _ hji]
      exact g3.2.2
end

def LtB (P : Program) (C : Ctx) (s : St) (o : Oper) (sv : SV) : Prop :=
  ∀ m a w, SimM C s m a w → ∃ v, (∀ w', ExtB (lentB C) w w' → (execOp a.eval o).run P w' = .ok (.value v) w') ∧ RS w (Gd C s.rows m w) m s.rows.length sv v
def VLB (late : List Nat) (P : Program) (C : Ctx) (ops : Array Oper) (n : Nat) (listed : Array Bool) (K : St → Prop) (s : St) : Prop := ∀ m a w, SimM C s m a w → anyLB (lentB C) late P ops (post0 C K) n listed a w

section
variable {late : List Nat} {P : Program} {C : Ctx} {ops : Array Oper} {K : St → Prop} {s : St} {n : Nat} {listed : Array Bool}

theorem vc_drawB (late : List Nat) {id : Nat} {Q : Go.Exit → St → Prop} (hd : Region.departs ops = false) (h : VLB late P C ops ops.size (Array.replicate ops.size false) (Q .normal) s) : VC P C (.region id ops true) Q s := by
  intro a w ⟨m, hs⟩
  refine wp_region_draw fun t => ?_
  simp only [Region.schedule, hd, Bool.not_false, Bool.or_true, if_true]
  refine wpOps_monoQ (Q := post0 C (Q .normal)) ?_ _ _ _ (wpAny_sound ops.size t _ a _ (any_of_anyLB _ _ _ _ (h m a _ (hs.grow (w' := { w with drawn := w.drawn + 1 }) (ExtW.refl w) rfl rfl rfl))))
  rintro e a' w' ⟨rfl, s', hs', hk⟩
  exact ⟨s', hs', hk⟩

theorem vb_light (i : Nat) (M : List Nat) {o : Oper} {t : Nat} {sv : SV} (hi : ops[i]? = some o) (hd : o.dst = some t) (ht : Nat.blt t s.n = true) (hr : (Region.ready .any ops listed).contains i = true) (hns : Region.noSelect ops = true)
    (hf : Region.free .any ops listed i = true) (hM : closedB ops late M i = true) (hsub : subB listed M = true) (hw : Wnt C ops s o true) (hl : LtB P C s { o with guard := none } sv) (next : VLB late P C ops n (listed.setIfInBounds i true) K (s.put t sv)) : VLB late P C ops (n + 1) listed K s := by
  intro m a w hs
  obtain ⟨v, hrun, hv⟩ := hl m a w hs
  refine anyLB_first (M := M.contains) hi (Region.noSelect_spec hns) post0_panic (fun j oj hj hne he => closed_spec hM j oj hj hne he) n listed a w (Region.free_spec hi hf) (sub_spec hsub) (by simpa using hr) (.inl ⟨hw m a w hs, hrun⟩) ?_
  rw [hd]
  exact next m _ _ (hs.put (blt_lt ht) hv)

theorem vb_light0 (i : Nat) {o : Oper} {t : Nat} {sv : SV} (hi : ops[i]? = some o) (hd : o.dst = some t) (ht : Nat.blt t s.n = true) (hr : (Region.ready .any ops listed).contains i = true) (hns : Region.noSelect ops = true)
    (hf : Region.free .any ops listed i = true) (hw : Wnt C ops s o true) (hl : Lt0 P C s { o with guard := none } sv) (next : VLB late P C ops n (listed.setIfInBounds i true) K (s.put t sv)) : VLB late P C ops (n + 1) listed K s := by
  intro m a w hs
  obtain ⟨v, hrun, hv⟩ := hl m a w hs
  refine anyLB_first0 hi (Region.noSelect_spec hns) post0_panic n listed a w (Region.free_spec hi hf) (by simpa using hr) (.inl ⟨hw m a w hs, hrun⟩) ?_
  rw [hd]
  exact next m _ _ (hs.put (blt_lt ht) hv)

theorem vb_nil (hr : Region.ready .any ops listed = []) (h : K s) : VLB late P C ops n listed K s := by
  intro m a w hs
  have hq : post0 C K .normal a w := ⟨rfl, s, ⟨m, hs⟩, h⟩
  cases n with
  | zero => exact ⟨hr, hq⟩
  | succ n => exact ⟨fun _ => hq, by rw [hr]; simp⟩

/-- An operation when nothing else can come. -/
theorem vb_one (i : Nat) {o : Oper} (hi : ops[i]? = some o) (hr : Region.ready .any ops listed = [i]) (hlate : late.contains i = true)
    (h : VO P C ops [o] (fun e s' => e = .normal ∧ VLB late P C ops n (listed.setIfInBounds i true) K s') s) : VLB late P C ops (n + 1) listed K s := by
  intro m a w hs
  refine ⟨fun h0 => (by rw [hr] at h0; cases h0), fun j hj => ?_⟩
  rw [hr] at hj
  simp at hj
  subst hj
  have h1 := h a w ⟨m, hs⟩
  have hfin : ∀ a' w', wpList P ops (post C (fun e s' => e = .normal ∧ VLB late P C ops n (listed.setIfInBounds j true) K s')) [] a' w' → (ExtB (lentB C) w w' ∨ late.contains j = true) ∧ anyLB (lentB C) late P ops (post0 C K) n (listed.setIfInBounds j true) a' w' := by
    rintro a' w' ⟨s', ⟨m', hs'⟩, _, h2⟩
    exact ⟨.inr hlate, h2 m' a' w' hs'⟩
  have hpost : ∀ e a' w', e ≠ .normal → post C (fun e s' => e = .normal ∧ VLB late P C ops n (listed.setIfInBounds j true) K s') e a' w' → post0 C K e a' w' := by
    rintro e a' w' hne ⟨s', _, h2, _⟩
    exact absurd h2 hne
  unfold wpOp
  simp only [hi]
  unfold wpList at h1
  by_cases hw : Region.wanted o (yielded ops a.tmps) = true
  · rw [if_pos hw] at h1 ⊢
    rcases h1 with h1 | ⟨h1, a2, w2, h2⟩
    · exact .inl (wp_mono2 hpost hfin h1)
    · exact .inr ⟨h1, a2, w2, hpost _ _ _ (by simp) h2⟩
  · rw [if_neg hw] at h1 ⊢
    exact hfin _ _ h1

theorem vb_st {s' : St} (h : s = s') (next : VLB late P C ops n listed K s') : VLB late P C ops n listed K s := by rw [h]; exact next
theorem vb_expose (id : Nat) {el e : Nat} {nl : Option Bool} {f : Bool} {xs : List PV} (hnb : C.nb ≤ id) (hrow : s.rows[id]? = some (.own el e nl f xs))
    (next : VLB late P C ops n listed K ⟨s.n, exposeE id (.pv f (.sl nl e xs)) s.env, (s.rows.map (Row.expose id (.pv f (.sl nl e xs)))).set id .dead⟩) : VLB late P C ops n listed K s :=
  fun m a w hs => next _ a w (hs.expose hnb hrow)
theorem vb_weaken (u : Nat) {e : Nat} {nl : Option Bool} {f : Bool} {xs : List PV} (hu : look s.env u = .pv f (.sl nl e xs))
    (next : VLB late P C ops n listed K ⟨s.n, (u, .pv f (.sl none e xs)) :: s.env, s.rows⟩) : VLB late P C ops n listed K s := by
  intro m a w hs
  refine next m a w { hs with env := fun q => ?_ }
  show RS _ _ _ _ (look ((u, .pv f (.sl none e xs)) :: s.env) q) _
  rw [look_cons]
  split
  · rename_i e
    subst e
    have hv := hs.env q
    rw [hu] at hv
    exact .pv _ _ _ hv.pv_inv.weaken
  · exact hs.env q
end
section
variable {late : List Nat} {P : Program} {C : Ctx} {ops : Array Oper} {K : St → Prop} {s s1 : St} {n : Nat} {listed : Array Bool}
def StepB (late : List Nat) (P : Program) (C : Ctx) (ops : Array Oper) (n : Nat) (listed : Array Bool) (K : St → Prop) (s : St) (i : Nat) : Prop :=
  ∀ m a w, SimM C s m a w → wpOp P ops (post0 C K) i (fun a' w' => (ExtB (lentB C) w w' ∨ late.contains i = true) ∧ anyLB (lentB C) late P ops (post0 C K) n (listed.setIfInBounds i true) a' w') a w
theorem vb_any2 (i j : Nat) (hr : Region.ready .any ops listed = [i, j]) (h1 : StepB late P C ops n listed K s i) (h2 : StepB late P C ops n listed K s j) : VLB late P C ops (n + 1) listed K s := by
  intro m a w hs
  refine ⟨fun h0 => (by rw [hr] at h0; cases h0), fun q hq => ?_⟩
  rw [hr] at hq
  simp at hq
  rcases hq with rfl | rfl
  · exact h1 m a w hs
  · exact h2 m a w hs
theorem vb_any3 (i j k : Nat) (hr : Region.ready .any ops listed = [i, j, k]) (h1 : StepB late P C ops n listed K s i) (h2 : StepB late P C ops n listed K s j) (h3 : StepB late P C ops n listed K s k) : VLB late P C ops (n + 1) listed K s := by
  intro m a w hs
  refine ⟨fun h0 => (by rw [hr] at h0; cases h0), fun q hq => ?_⟩
  rw [hr] at hq
  simp at hq
  rcases hq with rfl | rfl | rfl
  · exact h1 m a w hs
  · exact h2 m a w hs
  · exact h3 m a w hs
theorem sb_ext (i : Nat) {t : Nat} {op : Op} {ty : TypeId} {pos : String} {af : Array Edge} {sv : SV} (hi : ops[i]? = some ⟨some t, op, ty, pos, af, none⟩) (ht : Nat.blt t s1.n = true)
    (hx : Xt P C s ⟨some t, op, ty, pos, af, none⟩ s1 sv) (next : VLB late P C ops n (listed.setIfInBounds i true) K (s1.put t sv)) : StepB late P C ops n listed K s i := by
  intro m a w hs
  obtain ⟨v, w', m', h1, h2, h3, h4⟩ := hx m a w hs
  unfold wpOp
  simp only [hi]
  have hw : Region.wanted ⟨some t, op, ty, pos, af, none⟩ (yielded ops a.tmps) = true := by simp [Region.wanted]
  rw [if_pos hw]
  left
  unfold Oper.wp
  rw [h1, Oper.upon_value]
  exact ⟨.inl h4.toB, next m' _ _ (h2.put (blt_lt ht) h3)⟩
theorem sb_one (i : Nat) {o : Oper} (hi : ops[i]? = some o) (hlate : late.contains i = true)
    (h : VO P C ops [o] (fun e s' => e = .normal ∧ VLB late P C ops n (listed.setIfInBounds i true) K s') s) : StepB late P C ops n listed K s i := by
  intro m a w hs
  have h1 := h a w ⟨m, hs⟩
  have hfin : ∀ a' w', wpList P ops (post C (fun e s' => e = .normal ∧ VLB late P C ops n (listed.setIfInBounds i true) K s')) [] a' w' → (ExtB (lentB C) w w' ∨ late.contains i = true) ∧ anyLB (lentB C) late P ops (post0 C K) n (listed.setIfInBounds i true) a' w' := by
    rintro a' w' ⟨s', ⟨m', hs'⟩, _, h2⟩
    exact ⟨.inr hlate, h2 m' a' w' hs'⟩
  have hpost : ∀ e a' w', e ≠ .normal → post C (fun e s' => e = .normal ∧ VLB late P C ops n (listed.setIfInBounds i true) K s') e a' w' → post0 C K e a' w' := by
    rintro e a' w' hne ⟨s', _, h2, _⟩
    exact absurd h2 hne
  unfold wpOp
  simp only [hi]
  unfold wpList at h1
  by_cases hw : Region.wanted o (yielded ops a.tmps) = true
  · rw [if_pos hw] at h1 ⊢
    rcases h1 with h1 | ⟨h1, a2, w2, h2⟩
    · exact .inl (wp_mono2 hpost hfin h1)
    · exact .inr ⟨h1, a2, w2, hpost _ _ _ (by simp) h2⟩
  · rw [if_neg hw] at h1 ⊢
    exact hfin _ _ h1
theorem vb_ext (i : Nat) {t : Nat} {op : Op} {ty : TypeId} {pos : String} {af : Array Edge} {sv : SV} (hi : ops[i]? = some ⟨some t, op, ty, pos, af, none⟩) (hr : Region.ready .any ops listed = [i]) (ht : Nat.blt t s1.n = true)
    (hx : Xt P C s ⟨some t, op, ty, pos, af, none⟩ s1 sv) (next : VLB late P C ops n (listed.setIfInBounds i true) K (s1.put t sv)) : VLB late P C ops (n + 1) listed K s := by
  intro m a w hs
  refine ⟨fun h0 => (by rw [hr] at h0; cases h0), fun j hj => ?_⟩
  rw [hr] at hj
  simp at hj
  subst hj
  obtain ⟨v, w', m', h1, h2, h3, h4⟩ := hx m a w hs
  unfold wpOp
  simp only [hi]
  have hw : Region.wanted ⟨some t, op, ty, pos, af, none⟩ (yielded ops a.tmps) = true := by simp [Region.wanted]
  rw [if_pos hw]
  left
  unfold Oper.wp
  rw [h1, Oper.upon_value]
  exact ⟨.inl h4.toB, next m' _ _ (h2.put (blt_lt ht) h3)⟩
end
section
variable {P : Program} {C : Ctx} {s : St} {t : Nat} {ty : TypeId} {pos : String} {af : Array Edge}
theorem SimM.nbor {m : Nat → MV} {a : Act} {w : World} (hs : SimM C s m a w) {k0 id b : Nat} (hC : C.nb = k0) (hlv : (s.rows.take k0).all Row.live = true) (hge : Nat.ble k0 id = true) (hl : liveAt s.rows id) (hb : (m id).S b) : ¬ lentB C b := by
  rintro ⟨j, hj, hbj⟩
  have hge := Nat.le_of_ble_eq_true hge
  have hjl : j < s.rows.length := Nat.lt_of_lt_of_le hj hs.nbl
  have hlj : liveAt s.rows j := by
    refine ⟨s.rows[j], List.getElem?_eq_getElem hjl, ?_⟩
    rw [List.all_eq_true] at hlv
    refine hlv _ (List.mem_of_getElem? (i := j) ?_)
    rw [List.getElem?_take, if_pos (by omega)]
    exact List.getElem?_eq_getElem hjl
  rw [← hs.bor j hj] at hbj
  have := hs.dist id j b hl hlj hb hbj
  omega
theorem SimM.nborG {m : Nat → MV} {a : Act} {w : World} (hs : SimM C s m a w) {k0 b : Nat} {f : Bool} (hC : C.nb = k0) (hlv : (s.rows.take k0).all Row.live = true) (hg : Gd C s.rows m w f b) : ¬ lentB C b := by
  rintro ⟨j, hj, hbj⟩
  have hjl : j < s.rows.length := Nat.lt_of_lt_of_le hj hs.nbl
  refine hg.2.1 ⟨j, ⟨s.rows[j], List.getElem?_eq_getElem hjl, ?_⟩, by rw [hs.bor j hj]; exact hbj⟩
  rw [List.all_eq_true] at hlv
  refine hlv _ (List.mem_of_getElem? (i := j) ?_)
  rw [List.getElem?_take, if_pos (by omega)]
  exact List.getElem?_eq_getElem hjl

theorem lb_load_var {x : Operand} {T id e i o R k0 : Nat} {cs : List SV} {sv : SV} {D : TypeDesc} (hC : C.nb = k0) (hlv : (s.rows.take k0).all Row.live = true) (hge : Nat.ble k0 id = true) (hx : getO s.env x = .ptr id e i o) (hrow : s.rows[id]? = some (.var R cs))
    (hT : P.underlying T = some D) (hD : (match D with | .struct _ | .array _ _ => true | _ => false) = false) (hc : cs[i * e + o]? = some sv) : LtB P C s ⟨some t, .load T x, ty, pos, af, none⟩ (sv) := by
  intro m a w hs
  obtain ⟨b, hv, hb, hid⟩ := hs.ptr hx
  have hnb : ∀ b', (m id).S b' → ¬ lentB C b' := fun b' h => hs.nbor hC hlv hge ⟨_, hrow, rfl⟩ h
  have hR := hs.rows id _ hrow
  generalize hmv : m id = v at *
  cases hR with
  | var b' t' cs cur hbk hl hr h1 =>
    simp only [MV.of, blk, Option.some.injEq] at hb
    subst hb
    have hlt : i * e + o < cur.size := by rw [hl]; exact (List.getElem?_eq_some_iff.1 hc).1
    have hu : cur[i * e + o]? = some cur[i * e + o] := Array.getElem?_eq_getElem hlt
    have hcell : w.cell? ⟨b', i * e + o, none⟩ = some cur[i * e + o] := by
      rw [cell_of_row w b' _ cur R (0, 0) hbk]; exact hu
    refine ⟨cur[i * e + o], fun w' hw' => ?_, hr _ sv _ hc hu⟩
    have hcell := hw'.cell (hnb b' rfl) hcell
    have hagg := isAgg_false hT hD w'
    simp [execOp, Instr.loadAt, hv, Instr.sureAddr, loadVar, hagg, load, Sem.run, hcell]

theorem lb_load_adr {x : Operand} {T : TypeId} {f : Bool} {c : PV} {cs : List PV} {d : TypeDesc} {k0 : Nat} (hC : C.nb = k0) (hlv : (s.rows.take k0).all Row.live = true) (hx : getO s.env x = .adr f (c :: cs)) (hT : P.underlying T = some d)
 (hd : (match d with | .struct _ | .array _ _ => true | _ => false) = false) : LtB P C s ⟨some t, .load T x, ty, pos, af, none⟩ ((.pv (f || c.scal) c)) := by
  intro m a w hs
  have hv := hs.get x
  rw [hx] at hv
  generalize hav : a.eval x = v at hv
  cases hv with
  | adr _ _ ad fv hsp hg h1 hc hr =>
    have hc0 := hc 0 c rfl
    have hr0 := hr 0 c rfl
    have hnb : ¬ lentB C ad.block := hs.nborG hC hlv (hg (List.cons_ne_nil _ _))
    refine ⟨fv 0, fun w' hw' => ?_, ?_⟩
    · have : w.cell? ad = some (fv 0) := by
        rw [← hc0]
        cases ad
        simp at hsp
        simp [hsp]
      have this := hw'.cell hnb this
      have hagg : (isAgg T).run P w' = .ok false w' := by
        cases d <;> simp_all [isAgg, run_underlying hT]
      simp [execOp, Instr.loadAt, hav, Instr.sureAddr, loadVar, hagg, load, Sem.run, this]
    · cases hsc : c.scal with
      | true => simp only [Bool.or_true]; exact .pv _ _ _ (hr0.scal_any hsc)
      | false => simp only [Bool.or_false]; exact .pv _ _ _ hr0

theorem l0_fieldAddr_ptr {x : Operand} {S : TypeId} {k id e i o : Nat} {fs : Array Field} {fd : Field} {inf : TypeInfo} (hx : getO s.env x = .ptr id e i o)
 (hS : P.underlying S = some (.struct fs)) (hk : fs[k]? = some fd) (hinf : P.info? fd.type = some inf) (hsz : ¬ inf.size = 0) : Lt0 P C s ⟨some t, .fieldAddr S x k, ty, pos, af, none⟩ ((.ptr id e i (o + fd.offset))) := by
  intro m a w hs
  obtain ⟨b, he, hb, hid⟩ := hs.ptr hx
  refine ⟨.pointer (some ⟨b, i * e + (o + fd.offset), none⟩), fun _ => ?_, .ptr id e i _ b hid hb⟩
  simp [execOp, he, Instr.fieldAt, run_underlying hS, hk, Instr.sureAddr, fieldPlace, sizeOf, typeInfo, hinf, hsz, Addr_add, Nat.add_assoc]
theorem l0_buildG {S : TypeId} {parts : Array (Nat × Operand)} {pl : List (Nat × Nat)} {zs : List PV} {out : List SV} {ps : List (Nat × List SV)} (hS : StInfo P S pl zs)
    (hp : collectG s.env s.rows parts.toList = some ps) (ha : applyG pl (zs.map fun c => .pv true c) ps = some out) : Lt0 P C s ⟨some t, .build S parts, ty, pos, af, none⟩ (.ag out) := by
  intro m a w hs
  obtain ⟨⟨fs, hu⟩, zc, hb, hz⟩ := hS
  obtain ⟨h1, h2⟩ := collectG_vals hs parts.toList ps hp
  have hz0 : RS w (Gd C s.rows m w) m s.rows.length (.ag (zs.map fun c => .pv true c)) (.agg zc) := by
    have := hz w (Gd C s.rows m w true)
    cases this with
    | agg _ _ hl h1 h =>
      refine .ag _ _ (by simpa using hl) (fun j c u hc hu => ?_) (fun j u hu => ?_)
      · simp only [List.getElem?_map, Option.map_eq_some_iff] at hc
        obtain ⟨c', hc', rfl⟩ := hc
        exact .pv _ _ _ (h j c' u hc' hu)
      · have hj : j < zs.length := by rw [← hl]; exact (Array.getElem?_eq_some_iff.1 hu).1
        exact (h j _ u (List.getElem?_eq_getElem hj) hu).oneCell (h1 j _ (List.getElem?_eq_getElem hj))
  obtain ⟨zc', hf, hr⟩ := fill_applyG ps (parts.toList.map fun q => (q.1, a.eval q.2)) _ out zc hz0 ha (by simp [h1]) h2
  refine ⟨.agg zc', fun w' => ?_, hr⟩
  have hpl : (parts.map fun (i, x) => (i, a.eval x)).toList = parts.toList.map fun q => (q.1, a.eval q.2) := by rw [Array.toList_map]
  have := run_build (P := P) w' S (parts.map fun (i, x) => (i, a.eval x)) zc' (by rw [hpl, hb]; exact hf)
  simp only [execOp, Sem.run_bind, this, Result.andThen_ok]
  rfl
theorem xt_alloc {S : TypeId} {zs : List PV} (hZ : StZ P S zs) : Xt P C s ⟨some t, .alloc S, ty, pos, af, none⟩ { s with rows := s.rows ++ [.var S (zs.map fun c => .pv true c)] } (.ptr s.rows.length 0 0 0) := by
  intro m a w hs
  obtain ⟨_, i, zc, hi, hsz, hz, hr⟩ := hZ
  have hrp := hr w (fun _ => False)
  have hlen : zc.size = zs.length := by cases hrp with | agg _ _ hl => exact hl
  have hadd := hs.addRow (w' := w.alloc (.cells zc S)) (World.grownBy_alloc w _ none) (.var S (zs.map fun c => .pv true c)) (.of <| .pointer (some ⟨w.heap.size, 0, none⟩))
    (fun b hb => by simp [MV.of, blk] at hb; omega) (fun hG => .var w.heap.size S _ zc (heap_alloc_new w _) (by simpa using hlen) (fun j c u hc hu => by
      simp only [List.getElem?_map, Option.map_eq_some_iff] at hc
      obtain ⟨c', hc', rfl⟩ := hc
      have := hr (w.alloc (.cells zc S)) (Gd C (s.rows ++ [.var S (zs.map fun c => .pv true c)]) (updM m s.rows.length (.of <| .pointer (some ⟨w.heap.size, 0, none⟩))) (w.alloc (.cells zc S)) true)
      cases this with
      | agg _ _ _ _ h => exact .pv _ _ _ (h j c' u hc' hu)) (fun j u hu => by
      cases hrp with
      | agg _ _ hl h1 h =>
        have hj : j < zs.length := by rw [← hl]; exact (Array.getElem?_eq_some_iff.1 hu).1
        have hc := List.getElem?_eq_getElem hj
        exact (h j _ u hc hu).oneCell (h1 j _ hc)))
  have hgr := World.grownBy_alloc w (.cells zc S) none
  refine ⟨.pointer (some ⟨w.heap.size, 0, none⟩), _, _, ?_, hadd.1, ?_, hgr.size, fun k hk => hgr.block k hk (by simp)⟩
  · simp [execOp, Instr.alloc, zeroValue, typeInfo, hi, hz, newVar, newRow, Value.cells]
  · exact .ptr s.rows.length 0 0 0 w.heap.size (by simp) (by rw [updM_same]; rfl)
end
section
variable {late : List Nat} {P : Program} {C : Ctx} {ops : Array Oper} {K : St → Prop} {s : St} {n : Nat} {listed : Array Bool}
/-- A call that writes only what was lent. -/
theorem sb_call (i : Nat) (bs : List Nat) {k0 : Nat} (hC : C.nb = k0) (hbs : bs.all (fun id => Nat.blt id k0) = true) {brows : List Row} {t : Nat} {ty : TypeId} {pos : String} {af : Array Edge} {gd : Option (Nat × Bool)} {f : FuncId} {fn : Func} {xs : Array Operand} {Ts : Array TypeId} {args : List SV} {R : List SV → List Row → Prop}
    (hi : ops[i]? = some ⟨some t, .call ⟨.value (.func f), xs, Ts⟩, ty, pos, af, gd⟩) (hw : Wnt C ops s ⟨some t, .call ⟨.value (.func f), xs, Ts⟩, ty, pos, af, gd⟩ true)
    (hf : P.funcs[f]? = some fn) (hnm : (fn.name == "runtime.NumGoroutine") = false) (hbd : fn.body.isNone = false) (ht : Nat.blt t s.n = true)
    (hb1 : bs.map (fun id => (s.rows[id]?).map Row.toArg) = brows.map some) (hb2 : brows.all Row.live = true) (hb3 : bs.map (placeOf bs) = (List.range bs.length).map some)
    (hargs : (xs.toList.map (getO s.env)).mapM (argOfB bs s.rows) = some args) (hsat : SatAt P f args brows R)
    (next : ∀ res rows', R res rows' → bs.length ≤ rows'.length ∧ (res.all SV.noTup = true ∧ rows'.all (Row.bdd 0) = true ∧ (rows'.take bs.length).all Row.live = true ∧ rows'.all Row.noGh = true) ∧
      (((xs.toList.map (getO s.env)).any (SV.isKept bs) = false) ∨ (res.all SV.fresh = true ∧ rows'.all Row.fresh = true)) ∧
      VLB late P C ops n (listed.setIfInBounds i true) K ⟨s.n, (t, packS (res.map (SV.shift bs s.rows.length))) :: s.env, rowsAfter bs s.rows rows'⟩) :
    StepB late P C ops n listed K s i := by
  intro m a w hs
  unfold wpOp
  simp only [hi]
  rw [if_pos (hw m a w hs)]
  left
  have hbs' : ∀ (q id : Nat), bs[q]? = some id → id < C.nb := fun q id hq => by
    rw [List.all_eq_true] at hbs
    rw [hC]; exact blt_lt (hbs id (List.mem_of_getElem? hq))
  have hrc : (execOp a.eval ⟨some t, .call ⟨.value (.func f), xs, Ts⟩, ty, pos, af, gd⟩).run P w = .ok (.enter f (xs.map a.eval)) w := run_call (t := t) (ty := ty) (pos := pos) (af := af) hf hnm hbd (some t)
  refine ow_callA (sa := xs.toList.map (getO s.env)) (va := xs.map a.eval) bs hs hrc (by simp) (fun u x hu => ?_) ht hb1 hb2 hb3 hargs hsat
    (fun res rows' hR => let ⟨h1, h2, h3, h4⟩ := next res rows' hR; ⟨h1, h2, h3, fun m' a' w' hs' hsz hold => ⟨.inl ⟨hsz, fun k hk hb => hold k hk fun q id hq hS => hb ⟨id, hbs' q id hq, by rw [← hs.bor id (hbs' q id hq)]; exact hS⟩⟩, h4 m' a' w' hs'⟩⟩)
  simp only [List.getElem?_map, Option.map_eq_some_iff] at hu
  obtain ⟨o, ho, rfl⟩ := hu
  have ho' : xs[u]? = some o := by simpa using ho
  have e : (xs.map a.eval).getD u undef = a.eval o := by
    rw [Array.getD_eq_getD_getElem?, Array.getElem?_map, ho']; rfl
  rw [e]
  exact hs.get o
theorem vb_any1 (i : Nat) (hr : Region.ready .any ops listed = [i]) (h1 : StepB late P C ops n listed K s i) : VLB late P C ops (n + 1) listed K s := by
  intro m a w hs
  refine ⟨fun h0 => (by rw [hr] at h0; cases h0), fun q hq => ?_⟩
  rw [hr] at hq
  simp at hq
  subst hq
  exact h1 m a w hs
theorem vb_stM {s' : St} (next : VLB late P C ops n listed K s') (h : s = s' := by (try simp only [St.put, exposeE, killE, SV.expose, SV.kill, Row.expose, Row.kill, rowsAfter_nil, rowsAfter_one, packS, SV.shift, placeOf, enumE, List.zip_cons_cons, List.zip_nil_right, List.map_cons, List.map_nil, List.set_cons_zero, List.set_cons_succ, List.length_cons, List.length_nil, List.cons_append, List.nil_append, List.drop_succ_cons, List.drop_zero, List.drop_nil, List.take_succ_cons, List.take_zero, List.take_nil, List.getElem?_cons_zero, List.getElem?_cons_succ, List.getElem?_nil, Option.getD_some, Option.getD_none, Option.map_some, Option.map_none, Nat.reduceAdd, Nat.reduceSub, Nat.reduceEqDiff, Nat.zero_add, Bool.true_or, PV.scal, Bool.or_false, Bool.or_true, Bool.false_or, Bool.and_true, Bool.and_false, Bool.true_and, reduceIte, reduceCtorEq, SV.kill1, SV.expose1, deadAll, refsOf, List.foldl_cons, List.foldl_nil, takeSV, takeRows, takeP, takePV, setAll, resG, look_cons, Nat.succ.injEq, Nat.add_eq, Nat.mul_one, Nat.mul_zero, Nat.zero_mul, Nat.add_zero, List.map_map, PV.cells, Nat.reduceMul, List.append_nil, Option.some.injEq, Int.toNat_natCast]); exact eq_refl _) : VLB late P C ops n listed K s := vb_st h next
end
end Go.Vl

/- More for such statements: what is taken out of a row; nil cells of rows. -/
namespace Go.Vl
set_option linter.unusedVariables false
set_option linter.unusedSimpArgs false
open Go.RowKit
section
variable {late : List Nat} {P : Program} {C : Ctx} {ops : Array Oper} {K : St → Prop} {s : St} {n : Nat} {listed : Array Bool}
theorem sb_light (i : Nat) {o : Oper} {t : Nat} {sv : SV} (hi : ops[i]? = some o) (hd : o.dst = some t) (ht : Nat.blt t s.n = true) (hw : Wnt C ops s o true)
    (hl : LtB P C s { o with guard := none } sv) (next : VLB late P C ops n (listed.setIfInBounds i true) K (s.put t sv)) : StepB late P C ops n listed K s i := by
  intro m a w hs
  obtain ⟨v, hrun, hv⟩ := hl m a w hs
  have hy : yieldsB (lentB C) P ops o v a w := .inl ⟨hw m a w hs, hrun⟩
  refine hy.op hi ⟨.inl (ExtB.refl _ w), ?_⟩
  rw [hd]
  exact next m _ _ (hs.put (blt_lt ht) hv)

/-- An operation that leaves all memory as it is, or makes new: what is told of it is not known at once. -/
def XtE (P : Program) (C : Ctx) (s : St) (o : Oper) (α : Type) (s1 : α → St) (sv : SV) : Prop :=
  ∀ m a w, SimM C s m a w → ∃ x v w' m', (execOp a.eval o).run P w = .ok (.value v) w' ∧ SimM C (s1 x) m' a w' ∧ RS w' (Gd C (s1 x).rows m' w') m' (s1 x).rows.length sv v ∧ ExtW w w'
theorem sb_extE (i : Nat) {α : Type} {s1 : α → St} {t : Nat} {op : Op} {ty : TypeId} {pos : String} {af : Array Edge} {sv : SV} (hi : ops[i]? = some ⟨some t, op, ty, pos, af, none⟩) (ht : ∀ x, Nat.blt t (s1 x).n = true)
    (hx : XtE P C s ⟨some t, op, ty, pos, af, none⟩ α s1 sv) (next : ∀ x, VLB late P C ops n (listed.setIfInBounds i true) K ((s1 x).put t sv)) : StepB late P C ops n listed K s i := by
  intro m a w hs
  obtain ⟨x, v, w', m', h1, h2, h3, h4⟩ := hx m a w hs
  unfold wpOp
  simp only [hi]
  have hw : Region.wanted ⟨some t, op, ty, pos, af, none⟩ (yielded ops a.tmps) = true := by simp [Region.wanted]
  rw [if_pos hw]
  left
  unfold Oper.wp
  rw [h1, Oper.upon_value]
  exact ⟨.inl h4.toB, next x m' _ _ (h2.put (blt_lt (ht x)) h3)⟩
end
section
variable {P : Program} {C : Ctx} {Q : Go.Exit → St → Prop} {s : St} {ops : Array Oper} {rest : List Oper} {t : Nat} {ty : TypeId} {pos : String} {af : Array Edge}
theorem xt_load_take1 {x : Operand} {T id R i e' : Nat} {nl nl' : Option Bool} {xs ys : List PV} {D : TypeDesc} (hx : getO s.env x = .ptr id 1 i 0) (hrow : s.rows[id]? = some (.tree R 1 nl none xs)) (hnb : C.nb ≤ id)
    (hT : P.underlying T = some D) (hD : (match D with | .struct _ | .array _ _ => true | _ => false) = false) (hget : xs[i]? = some (.sl nl' e' ys)) :
    XtE P C s ⟨some t, .load T x, ty, pos, af, none⟩ TypeId (fun Rf => ⟨s.n, s.env, s.rows.set id (.tree R 1 nl none (xs.set i .gone)) ++ [.tree Rf e' nl' none ys]⟩) (.ref s.rows.length) := by
  intro m a w hs
  obtain ⟨b, vals, Sf, hv, hb, hown, hf, hcell, hr, hd, hn, hz, hS, h1, h2, hw, _⟩ := hs.elemT hx hrow hget
  obtain ⟨Rf, m', hs', hG, hmv, hnew⟩ := hs.takeRow hnb hrow hget rfl hown hr hd hn hz hS h1 h2 hw
  have hi : i < xs.length := (List.getElem?_eq_some_iff.1 hget).1
  have hlt : i * 1 + 0 < xs.length * 1 := by omega
  have hvl : vals.length = xs.length * 1 := hown.1
  have hu : vals[i * 1 + 0]? = some (vals.getD (i * 1 + 0) undef) := by rw [List.getD_eq_getElem?_getD, List.getElem?_eq_getElem (by omega)]; rfl
  have hcl := hcell _ hlt
  rw [hu] at hcl
  refine ⟨Rf 0, vals.getD (i * 1 + 0) undef, w, m', ?_, hs', ?_, ExtW.refl w⟩
  · have hagg := isAgg_false hT hD w
    simp only [Nat.mul_one, Nat.add_zero] at hcl hv
    simp [execOp, Instr.loadAt, hv, Instr.sureAddr, loadVar, hagg, load, Sem.run, hcl]
  · obtain ⟨g1, g2⟩ := hnew 0 0 rfl
    rw [Nat.add_zero] at g1 g2
    show RS _ _ _ _ (.ref s.rows.length) _
    rw [← g1]
    exact .ref _ g2

end
section
variable {late : List Nat} {P : Program} {C : Ctx} {ops : Array Oper} {K : St → Prop} {s : St} {n : Nat} {listed : Array Bool}
theorem vb_treeown (id : Nat) (hnb : C.nb ≤ id) {el e : Nat} {nl : Option Bool} {xs : List PV} (hrow : s.rows[id]? = some (.tree el e nl none xs))
    (next : VLB late P C ops n listed K ⟨s.n, s.env, s.rows.set id (.own el e nl false xs)⟩) : VLB late P C ops n listed K s :=
  fun m a w hs => next _ a w (hs.treeown id hnb hrow)
end
end Go.Vl
