/- Part 6 of the texts that the proof of FnValidWorks is built on. -/
import Derived.Test.YtlpchicpbnmdgaaVl5
namespace Go.Vl
set_option linter.unusedVariables false
set_option linter.unusedSimpArgs false
open Go.Proofs
theorem S25n : StInfo Try.prog 25 [(0, 1), (1, 1), (2, 1)] [(.sl (some true) 1 []), (.sl (some true) 1 []), (.sl (some true) 1 [])] := by
  refine ⟨⟨_, Try.underlying25⟩, #[(.slice none 0 0), (.slice none 0 0), (.slice none 0 0)], fun l => by kernel_rfl, fun w G => .agg _ _ rfl ?_ ?_⟩
  · intro j c h
    match j, h with
    | 0, h => cases h; rfl
    | 1, h => cases h; rfl
    | 2, h => cases h; rfl
  · intro j c u h hu
    match j, h, hu with
    | 0, h, hu => cases h; cases hu; exact .nilsl _ _ (by decide)
    | 1, h, hu => cases h; cases hu; exact .nilsl _ _ (by decide)
    | 2, h, hu => cases h; cases hu; exact .nilsl _ _ (by decide)

def smX (X : WorksM) : Prop := (1 ≤ X.bases.length ∧ X.bases.length ≤ 9 ∧ ∀ l ∈ X.bases, l.length ≤ 3) ∧ (X.abs.length = X.bases.length ∧ ∀ l ∈ X.abs, l.length ≤ 5) ∧ X.real.length = X.bases.length ∧ ∀ l ∈ X.real, l.length ≤ 5
def medX (X : WorksM) : Prop := (1 ≤ X.bases.length ∧ X.bases.length ≤ 9 ∧ ∀ l ∈ X.bases, l.length ≤ 3) ∧ (X.abs.length = X.bases.length ∧ ∀ l ∈ X.abs, l.length ≤ 7) ∧ X.real.length = X.bases.length ∧ ∀ l ∈ X.real, l.length ≤ 7
theorem medX.sk {X : WorksM} (h : medX X) : SK X := by
  obtain ⟨⟨_, h1, h2⟩, ⟨h3, h4⟩, h5, h6⟩ := h
  exact ⟨⟨by omega, fun l hl => by have := h2 l hl; omega⟩, ⟨by omega, fun l hl => by have := h4 l hl; omega⟩, by omega, fun l hl => by have := h6 l hl; omega⟩
theorem appX_all {α : Type} {p : α → Prop} {l : List α} {x : α} (h : ∀ y ∈ l, p y) (hx : p x) : ∀ y ∈ l ++ [x], p y := by
  intro y hy
  rcases List.mem_append.1 hy with h1 | h1
  · exact h y h1
  · rw [List.mem_singleton.1 h1]; exact hx
theorem setX_all {α : Type} {p : α → Prop} {l : List α} {x : α} (h : ∀ y ∈ l, p y) (hx : p x) (i : Nat) : ∀ y ∈ l.set i x, p y := by
  intro y hy
  rcases List.mem_or_eq_of_mem_set hy with h1 | h1
  · exact h y h1
  · rw [h1]; exact hx
theorem appX_two (l : List Int) (a b : Int) : l.map intP ++ [.int .i64 a, .int .i64 b] = (l ++ [a, b]).map intP := by simp
theorem medX_of {X : WorksM} (hb : 1 ≤ X.bases.length ∧ X.bases.length ≤ 9 ∧ ∀ l ∈ X.bases, l.length ≤ 3) (ha1 : X.abs.length = X.bases.length) (ha2 : ∀ l ∈ X.abs, l.length ≤ 5) (hr1 : X.real.length = X.bases.length) (hr2 : ∀ l ∈ X.real, l.length ≤ 5) (k : Nat) (y : Int) :
    medX ⟨X.bases, X.abs, X.real.set k (X.real.getD k [] ++ [7, 7])⟩ ∧ medX ⟨X.bases, X.abs.set k (X.abs.getD k [] ++ [y]), X.real⟩ ∧ medX ⟨X.bases, X.abs, X.real⟩ := by
  have h1 := getD_all (p := fun l : List Int => l.length ≤ 5) ha2 [] (by simp) k
  have h2 := getD_all (p := fun l : List Int => l.length ≤ 5) hr2 [] (by simp) k
  have a7 : ∀ l ∈ X.abs, l.length ≤ 7 := fun l hl => by have := ha2 l hl; omega
  have r7 : ∀ l ∈ X.real, l.length ≤ 7 := fun l hl => by have := hr2 l hl; omega
  exact ⟨⟨hb, ⟨ha1, a7⟩, by rw [List.length_set]; exact hr1, setX_all r7 (by simp only [List.length_append, List.length_cons, List.length_nil]; omega) k⟩,
    ⟨hb, ⟨by rw [List.length_set]; exact ha1, setX_all a7 (by simp only [List.length_append, List.length_cons, List.length_nil]; omega) k⟩, hr1, r7⟩, ⟨hb, ⟨ha1, a7⟩, hr1, r7⟩⟩

theorem someWorks_sat {nl : Option Bool} {c : List (Fin 256)} {p : Nat} (hc : c.length ≤ 2000) (hp : p < 990000) : SatAt Try.prog 97 [.ptr 0 0 0 0] [rdr nl c p] (fun res rows => ∃ (X : WorksM) (q : Nat) (f : Bool), (smX X ∧ q ≤ p + 200) ∧ res = [.ag [.pv f (.sl none 1 (X.bases.map ints)), .ref 1, .ref 2]] ∧ rows = [rdr nl c q, .tree 28 1 none none ((X.abs).map ints), .tree 28 1 none none ((X.real).map ints)]) := by
 refine sat_entry_G (rs := [(2, some (25, 3))]) Try.func97 rfl rfl (Nat.le_of_ble_eq_true rfl) (Nat.le_of_ble_eq_true rfl) (resTs1 ⟨_, _, Try.underlying25, rfl, inf25, sz25⟩) fun C hC => ?_
 rw [Try.ntmps97]
 replace hC : C.nb = 1 := hC
 refine vc_seq fun K1 hK1 => ?_
 refine vc_region ?_
 refine vo_alloc Z25 rfl ?_
 refine vo_stM ?_
 refine vo_nil ?_
 refine hK1 _ ?_
 refine vc_seq fun K2 hK2 => ?_
 refine vc_region ?_
 refine vo_move_ptr rfl rfl ?_
 refine vo_call [0] Try.func131 rfl rfl rfl rfl rfl rfl rfl (goodBasesX_sat hc (by omega)) ?_
 rintro _ _ ⟨B, q0, f0, nl0, ⟨hB1, hB2, hB3, hB4⟩, rfl, rfl⟩
 refine ⟨Nat.le_of_ble_eq_true rfl, ⟨rfl, rfl, rfl, rfl⟩, .inl rfl, ?_⟩
 refine vo_stM ?_
 refine vo_weaken 9 rfl ?_
 refine vo_stM ?_
 refine vo_buildG S25n rfl rfl rfl ?_
 refine vo_stM ?_
 refine vo_alloc Z25 rfl ?_
 refine vo_stM ?_
 refine vo_store_varG rfl rfl rfl rfl inf25 sz25 rfl ?_
 refine vo_stM ?_
 refine vo_nil ?_
 refine hK2 _ ?_
 refine vc_seq fun K3 hK3 => ?_
 refine vc_seq fun K4 hK4 => ?_
 refine vc_region ?_
 refine vo_assign_pv rfl rfl ?_
 refine vo_nil ?_
 refine hK4 _ ?_
 refine vc_block ?_
 refine vc_own_cell 2 1 E23 rfl rfl ?_
 refine vc_stM ?_
 refine vc_totree 3 rfl ((by intro x hx; cases hx)) ?_
 refine vc_stM ?_
 refine vc_weaktree 3 rfl ?_
 refine vc_stM ?_
 refine vc_own_cell 2 2 E23 rfl rfl ?_
 refine vc_stM ?_
 refine vc_totree 4 rfl ((by intro x hx; cases hx)) ?_
 refine vc_stM ?_
 refine vc_weaktree 4 rfl ?_
 refine vc_stM ?_
 refine vc_stM ?_
 refine vc_loopE [0, 2, 3] [4] [0, 3, 4] _ _ (fun mz vs rs => ∃ (k : Nat) (A : List (List Int)) (R : List (List Int)) (q : Nat), mz = B.length - k ∧ ((k ≤ B.length ∧ A.length = k ∧ R.length = k ∧ q ≤ q0 + 6 * k)) ∧ ((∀ l ∈ A, l.length ≤ 5)) ∧ ((∀ l ∈ R, l.length ≤ 5)) ∧ vs = [i64 k] ∧ rs = [rdr nl c q, Row.tree 28 1 none none (A.map ints), Row.tree 28 1 none none (R.map ints)]) (B.length) rfl rfl (le_len hC rfl) ⟨rfl, rfl, rfl⟩ rfl ⟨0, [], [], q0, rfl, (by simp), (by simp), (by simp), rfl, rfl⟩ ?_
 rintro mz vs rs - - ⟨k, A, R, q, rfl, hk, hA, hR, rfl, rfl⟩
 refine vc_stM ?_
 refine vc_seq fun K5 hK5 => ?_
 refine vc_seq fun K6 hK6 => ?_
 refine vc_region ?_
 refine vo_move_pv rfl rfl ?_
 refine vo_fieldAddr_ptr rfl rfl Try.underlying25 rfl inf23 (by rw [sz23]; decide) ?_
 try simp only [Nat.zero_add]
 refine vo_load_var rfl rfl rfl Try.underlying23 rfl rfl ?_
 refine vo_len_pv rfl rfl Try.underlying23 ?_
 refine vo_binI rfl rfl rfl rfl trivial ?_
 refine vo_nil ?_
 refine hK6 _ ?_
 refine vc_cond rfl (fun hc1 => ?_) (fun hc1 => ?_)
 ·try simp only [zq0, zq1, zq2, zq3, zq4, zq5, zq6, zq7, zq8, zq9, zqa, zqb, zqc, zqd, zqe, zqf] at hc1
  refine vc_skip ?_
  refine hK5 _ ?_
  refine vc_seq fun K7 hK7 => ?_
  refine vc_block ?_
  refine vc_seq fun K8 hK8 => ?_
  refine vc_region ?_
  refine vo_buildSlice E28 rfl rfl rfl rfl rfl ?_
  refine vo_stM ?_
  refine vo_assign_ref rfl rfl ?_
  refine vo_nil ?_
  refine hK8 _ ?_
  refine vc_seq fun K9 hK9 => ?_
  refine vc_region ?_
  refine vo_buildSlice E28 rfl rfl rfl rfl rfl ?_
  refine vo_stM ?_
  refine vo_assign_ref rfl rfl ?_
  refine vo_nil ?_
  refine hK9 _ ?_
  refine vc_seq fun K10 hK10 => ?_
  refine vc_seq fun K11 hK11 => ?_
  refine vc_region ?_
  refine vo_assign_pv rfl rfl ?_
  refine vo_nil ?_
  refine hK11 _ ?_
  refine vc_block ?_
  refine vc_stM ?_
  refine vc_loopE [0, 2, 3, 4] [5, 6, 7] [0, 5, 6] _ _ (fun mz vs rs => ∃ (n : Nat) (a : List Int) (b : List Int) (q2 : Nat), mz = 5 - n ∧ ((n ≤ 5 ∧ a.length ≤ n ∧ b.length ≤ n ∧ q2 = q + n)) ∧ vs = [.ref 5, .ref 6, i64 n] ∧ rs = [rdr nl c q2, Row.own 3 1 (some false) true ((a).map intP), Row.own 3 1 (some false) true ((b).map intP)]) (5) rfl rfl (le_len hC rfl) ⟨rfl, rfl, rfl⟩ rfl ⟨0, [], [], q, rfl, (by simp), rfl, rfl⟩ ?_
  rintro mz vs rs - - ⟨n, a, b, q2, rfl, hn, rfl, rfl⟩
  refine vc_stM ?_
  refine vc_seq fun K12 hK12 => ?_
  refine vc_seq fun K13 hK13 => ?_
  refine vc_region ?_
  refine vo_move_pv rfl rfl ?_
  refine vo_binI rfl rfl rfl rfl trivial ?_
  refine vo_nil ?_
  refine hK13 _ ?_
  refine vc_cond rfl (fun hc2 => ?_) (fun hc2 => ?_)
  ·try simp only [zq0, zq1, zq2, zq3, zq4, zq5, zq6, zq7, zq8, zq9, zqa, zqb, zqc, zqd, zqe, zqf] at hc2
   refine vc_skip ?_
   refine hK12 _ ?_
   refine vc_seq fun K14 hK14 => ?_
   refine vc_block ?_
   refine vc_seq fun K15 hK15 => ?_
   refine vc_region ?_
   refine vo_move_ptr rfl rfl ?_
   refine vo_call [0] Try.func74 rfl rfl rfl rfl rfl rfl rfl (pick_sat hc (by omega)) ?_
   rintro _ _ ⟨x25, ⟨hx250, hx251⟩, rfl, rfl⟩
   refine ⟨Nat.le_of_ble_eq_true rfl, ⟨rfl, rfl, rfl, rfl⟩, .inl rfl, ?_⟩
   refine vo_stM ?_
   refine vo_nil ?_
   refine hK15 _ ?_
   refine vc_block ?_
   refine vc_seq fun K16 hK16 => ?_
   refine vc_region ?_
   refine vo_binI rfl rfl rfl rfl trivial ?_
   refine vo_assign_pv rfl rfl ?_
   refine vo_nil ?_
   refine hK16 _ ?_
   refine vc_cond rfl (fun hc3 => ?_) (fun hc3 => ?_)
   ·try simp only [zq0, zq1, zq2, zq3, zq4, zq5, zq6, zq7, zq8, zq9, zqa, zqb, zqc, zqd, zqe, zqf] at hc3
    refine vc_region ?_
    refine vo_move_ref rfl rfl ?_
    refine vo_move_pv rfl rfl ?_
    refine vo_buildSlice E28 rfl rfl rfl rfl rfl ?_
    refine vo_stM ?_
    refine vo_append E28 rfl (by omega) rfl rfl rfl sd sd ?_
    refine vo_stM ?_
    try simp only [app_ints, app_intss, app_bools, app_intss, List.nil_append]
    refine vo_assign_ref rfl rfl ?_
    refine vo_nil ?_
    refine hK14 _ ?_
    refine vc_region ?_
    refine vo_move_pv rfl rfl ?_
    refine vo_binI rfl rfl rfl rfl sd ?_
    refine vo_assign_pv rfl rfl ?_
    refine vo_nil ?_
    change againE _ _ _ _ _ _ _ _ _ _
    refine againE_mk rfl rfl rfl rfl rfl rfl ⟨_, ?_, n + 1, a ++ [_], b, _, rfl, ?_, rfl, rfl⟩
    ·omega
    ·rw [List.length_append, List.length_singleton]; omega
   ·try simp only [zq0, zq1, zq2, zq3, zq4, zq5, zq6, zq7, zq8, zq9, zqa, zqb, zqc, zqd, zqe, zqf] at hc3
    refine vc_seq fun K17 hK17 => ?_
    refine vc_region ?_
    refine vo_binI rfl rfl rfl rfl trivial ?_
    refine vo_assign_pv rfl rfl ?_
    refine vo_nil ?_
    refine hK17 _ ?_
    refine vc_cond rfl (fun hc4 => ?_) (fun hc4 => ?_)
    ·try simp only [zq0, zq1, zq2, zq3, zq4, zq5, zq6, zq7, zq8, zq9, zqa, zqb, zqc, zqd, zqe, zqf] at hc4
     refine vc_region ?_
     refine vo_move_ref rfl rfl ?_
     refine vo_move_pv rfl rfl ?_
     refine vo_buildSlice E28 rfl rfl rfl rfl rfl ?_
     refine vo_stM ?_
     refine vo_append E28 rfl (by omega) rfl rfl rfl sd sd ?_
     refine vo_stM ?_
     try simp only [app_ints, app_intss, app_bools, app_intss, List.nil_append]
     refine vo_assign_ref rfl rfl ?_
     refine vo_nil ?_
     refine hK14 _ ?_
     refine vc_region ?_
     refine vo_move_pv rfl rfl ?_
     refine vo_binI rfl rfl rfl rfl sd ?_
     refine vo_assign_pv rfl rfl ?_
     refine vo_nil ?_
     change againE _ _ _ _ _ _ _ _ _ _
     refine againE_mk rfl rfl rfl rfl rfl rfl ⟨_, ?_, n + 1, a, b ++ [_], _, rfl, ?_, rfl, rfl⟩
     ·omega
     ·rw [List.length_append, List.length_singleton]; omega
    ·try simp only [zq0, zq1, zq2, zq3, zq4, zq5, zq6, zq7, zq8, zq9, zqa, zqb, zqc, zqd, zqe, zqf] at hc4
     refine vc_skip ?_
     refine hK14 _ ?_
     refine vc_region ?_
     refine vo_move_pv rfl rfl ?_
     refine vo_binI rfl rfl rfl rfl sd ?_
     refine vo_assign_pv rfl rfl ?_
     refine vo_nil ?_
     change againE _ _ _ _ _ _ _ _ _ _
     refine againE_mk rfl rfl rfl rfl rfl rfl ⟨_, ?_, n + 1, a, b, _, rfl, ?_, rfl, rfl⟩
     ·omega
     ·omega
  ·try simp only [zq0, zq1, zq2, zq3, zq4, zq5, zq6, zq7, zq8, zq9, zqa, zqb, zqc, zqd, zqe, zqf] at hc2
   refine vc_exit ?_
   refine hK10 _ ?_
   refine vc_seq fun K18 hK18 => ?_
   refine vc_region ?_
   refine vo_fieldAddr_ptr rfl rfl Try.underlying25 rfl inf23 (by rw [sz23]; decide) ?_
   try simp only [Nat.zero_add]
   refine vo_load_var rfl rfl rfl Try.underlying23 rfl rfl ?_
   refine vo_move_ref rfl rfl ?_
   refine vo_totree 5 rfl (plain_ints _) ?_
   refine vo_stM ?_
   refine vo_weaktree 5 rfl ?_
   refine vo_stM ?_
   refine vo_build_treeG (p := .sl _ _ _) E23 rfl rfl rfl rfl rfl rfl rfl hC rfl (by first | decide | simp [refsOf]) ?_
   refine vo_stM ?_
   refine vo_append_treeG E23 rfl (by omega) (by omega) rfl rfl rfl rfl rfl sd sd sd ?_
   refine vo_stM ?_
   try simp only [app_ints, app_intss, app_bools, app_intss, List.nil_append]
   refine vo_fieldAddr_ptr rfl rfl Try.underlying25 rfl inf23 (by rw [sz23]; decide) ?_
   try simp only [Nat.zero_add]
   refine vo_store_varG rfl rfl rfl rfl inf23 sz23 rfl ?_
   refine vo_stM ?_
   refine vo_nil ?_
   refine hK18 _ ?_
   refine vc_region ?_
   refine vo_fieldAddr_ptr rfl rfl Try.underlying25 rfl inf23 (by rw [sz23]; decide) ?_
   try simp only [Nat.zero_add]
   refine vo_load_var rfl rfl rfl Try.underlying23 rfl rfl ?_
   refine vo_move_ref rfl rfl ?_
   refine vo_totree 6 rfl (plain_ints _) ?_
   refine vo_stM ?_
   refine vo_weaktree 6 rfl ?_
   refine vo_stM ?_
   refine vo_build_treeG (p := .sl _ _ _) E23 rfl rfl rfl rfl rfl rfl rfl hC rfl (by first | decide | simp [refsOf]) ?_
   refine vo_stM ?_
   refine vo_append_treeG E23 rfl (by omega) (by omega) rfl rfl rfl rfl rfl sd sd sd ?_
   refine vo_stM ?_
   try simp only [app_ints, app_intss, app_bools, app_intss, List.nil_append]
   refine vo_fieldAddr_ptr rfl rfl Try.underlying25 rfl inf23 (by rw [sz23]; decide) ?_
   try simp only [Nat.zero_add]
   refine vo_store_varG rfl rfl rfl rfl inf23 sz23 rfl ?_
   refine vo_stM ?_
   refine vo_nil ?_
   refine hK7 _ ?_
   refine vc_region ?_
   refine vo_move_pv rfl rfl ?_
   refine vo_binI rfl rfl rfl rfl sd ?_
   refine vo_assign_pv rfl rfl ?_
   refine vo_nil ?_
   change againE _ _ _ _ _ _ _ _ _ _
   refine againE_mk rfl rfl rfl rfl rfl rfl ⟨_, ?_, k + 1, A ++ [a], R ++ [b], q2, rfl, ?_, ?_, ?_, rfl, rfl⟩
   ·omega
   ·refine ⟨by omega, ?_, ?_, by omega⟩ <;> rw [List.length_append, List.length_singleton] <;> omega
   ·exact appX_all hA (by omega)
   ·exact appX_all hR (by omega)
 ·try simp only [zq0, zq1, zq2, zq3, zq4, zq5, zq6, zq7, zq8, zq9, zqa, zqb, zqc, zqd, zqe, zqf] at hc1
  refine vc_exit ?_
  refine hK3 _ ?_
  refine vc_seq fun K19 hK19 => ?_
  refine vc_region ?_
  refine vo_load_varG rfl rfl rfl Try.underlying25 rfl inf25 sz25 rfl ?_
  refine vo_stM ?_
  refine vo_store_varG rfl rfl rfl rfl inf25 sz25 rfl ?_
  refine vo_stM ?_
  refine vo_nil ?_
  refine hK19 _ ?_
  refine vc_ret ?_
  change retQ _ _ _ _ _
  refine retQ_sel [3, 4] (srows := [_, _]) (.inr rfl) hC rfl rfl rfl rfl rfl rfl rfl ?_
  exact ⟨⟨B, A, R⟩, _, _, ⟨⟨⟨by omega, by omega, hB3⟩, ⟨by show A.length = B.length; omega, hA⟩, by show R.length = B.length; omega, hR⟩, by omega⟩, rfl, rfl⟩

set_option maxHeartbeats 4000000 in
theorem anyWorks_sat {nl : Option Bool} {c : List (Fin 256)} {p : Nat} (hc : c.length ≤ 2000) (hp : p < 989000) : SatAt Try.prog 55 [.ptr 0 0 0 0] [rdr nl c p] (fun res rows => ∃ (X : WorksM) (q : Nat) (f : Bool), (medX X ∧ q ≤ p + 220) ∧ res = [.ag [.pv f (.sl none 1 (X.bases.map ints)), .ref 1, .ref 2]] ∧ rows = [rdr nl c q, .tree 28 1 none none ((X.abs).map ints), .tree 28 1 none none ((X.real).map ints)]) := by
 refine sat_entry_G (rs := [(2, some (25, 3))]) Try.func55 rfl rfl (Nat.le_of_ble_eq_true rfl) (Nat.le_of_ble_eq_true rfl) (resTs1 ⟨_, _, Try.underlying25, rfl, inf25, sz25⟩) fun C hC => ?_
 rw [Try.ntmps55]
 replace hC : C.nb = 1 := hC
 refine vc_seq fun K1 hK1 => ?_
 refine vc_region ?_
 refine vo_alloc Z25 rfl ?_
 refine vo_stM ?_
 refine vo_nil ?_
 refine hK1 _ ?_
 refine vc_seq fun K2 hK2 => ?_
 refine vc_region ?_
 refine vo_move_ptr rfl rfl ?_
 refine vo_call [0] Try.func97 rfl rfl rfl rfl rfl rfl rfl (someWorks_sat hc (by omega)) ?_
 rintro _ _ ⟨X, q, f, ⟨⟨⟨hb1, hb2, hb3⟩, ⟨ha1, ha2⟩, hr1, hr2⟩, hq⟩, rfl, rfl⟩
 refine ⟨Nat.le_of_ble_eq_true rfl, ⟨rfl, rfl, rfl, rfl⟩, .inl rfl, ?_⟩
 refine vo_stM ?_
 refine vo_alloc Z25 rfl ?_
 refine vo_stM ?_
 refine vo_store_varG rfl rfl rfl rfl inf25 sz25 rfl ?_
 refine vo_stM ?_
 refine vo_nil ?_
 refine hK2 _ ?_
 refine vc_seq fun K3 hK3 => ?_
 refine vc_region ?_
 refine vo_move_ptr rfl rfl ?_
 refine vo_fieldAddr_ptr rfl rfl Try.underlying25 rfl inf23 (by rw [sz23]; decide) ?_
 try simp only [Nat.zero_add]
 refine vo_load_var rfl rfl rfl Try.underlying23 rfl rfl ?_
 refine vo_len_pv rfl rfl Try.underlying23 ?_
 refine vo_call [0] Try.func74 rfl rfl rfl rfl rfl rfl rfl (pick_sat hc (by omega)) ?_
 rintro _ _ ⟨x11, ⟨hx110, hx111⟩, rfl, rfl⟩
 refine ⟨Nat.le_of_ble_eq_true rfl, ⟨rfl, rfl, rfl, rfl⟩, .inl rfl, ?_⟩
 refine vo_stM ?_
 simp only [List.length_map] at hx111
 refine vo_assign_pv rfl rfl ?_
 refine vo_nil ?_
 refine hK3 _ ?_
 refine vc_seq fun K4 hK4 => ?_
 refine vc_seq fun K5 hK5 => ?_
 refine vc_region ?_
 refine vo_move_ptr rfl rfl ?_
 refine vo_call [0] Try.func74 rfl rfl rfl rfl rfl rfl rfl (pick_sat hc (by omega)) ?_
 rintro _ _ ⟨x13, ⟨hx130, hx131⟩, rfl, rfl⟩
 refine ⟨Nat.le_of_ble_eq_true rfl, ⟨rfl, rfl, rfl, rfl⟩, .inl rfl, ?_⟩
 refine vo_stM ?_
 refine vo_nil ?_
 refine hK5 _ ?_
 refine vc_block ?_
 refine vc_seq fun K6 hK6 => ?_
 refine vc_region ?_
 refine vo_binI rfl rfl rfl rfl trivial ?_
 refine vo_assign_pv rfl rfl ?_
 refine vo_nil ?_
 refine hK6 _ ?_
 refine vc_cond rfl (fun hc1 => ?_) (fun hc1 => ?_)
 ·try simp only [zq0, zq1, zq2, zq3, zq4, zq5, zq6, zq7, zq8, zq9, zqa, zqb, zqc, zqd, zqe, zqf] at hc1
  have hrk := getD_all (p := fun l : List Int => l.length ≤ 5) hr2 [] (by simp) x11.toNat
  refine vc_drawB [9, 11] (by kernel_rfl) ?_
  change VLB [9, 11] _ _ _ 12 _ _ _
  refine vb_light0 0 rfl rfl rfl (by kernel_rfl) (by kernel_rfl) (by kernel_rfl) (wnt_none rfl) (l0_fieldAddr_ptr rfl Try.underlying25 rfl inf23 (by rw [sz23]; decide)) ?_
  try simp only [Nat.zero_add]
  refine vb_light0 2 rfl rfl rfl (by kernel_rfl) (by kernel_rfl) (by kernel_rfl) (wnt_none rfl) (l0_move_pv rfl) ?_
  refine vb_light0 3 rfl rfl rfl (by kernel_rfl) (by kernel_rfl) (by kernel_rfl) (wnt_none rfl) (l0_fieldAddr_ptr rfl Try.underlying25 rfl inf23 (by rw [sz23]; decide)) ?_
  try simp only [Nat.zero_add]
  refine vb_light 4 [0, 1, 2, 3, 5, 8] rfl rfl rfl (by kernel_rfl) (by kernel_rfl) (by kernel_rfl) (by kernel_rfl) (by kernel_rfl) (wnt_none rfl) (lb_load_var hC rfl rfl rfl rfl Try.underlying23 rfl rfl) ?_
  refine vb_light0 5 rfl rfl rfl (by kernel_rfl) (by kernel_rfl) (by kernel_rfl) (wnt_none rfl) (l0_move_pv rfl) ?_
  refine vb_light0 6 rfl rfl rfl (by kernel_rfl) (by kernel_rfl) (by kernel_rfl) (wnt_none rfl) (l0_index_ref rfl rfl rfl E23.und inf28 sz28 sd sd) ?_
  try simp only [Int.toNat_natCast]
  refine vb_any3 1 7 8 (by kernel_rfl) ?_ ?_ ?_
  ·refine sb_light 1 rfl rfl rfl (wnt_none rfl) (lb_load_var hC rfl rfl rfl rfl Try.underlying23 rfl rfl) ?_
   refine vb_any2 7 8 (by kernel_rfl) ?_ ?_
   ·refine sb_extE 7 rfl (fun _ => rfl) (xt_load_take1 rfl rfl (by omega) Try.underlying28 rfl (getP (L := X.real) [] (by omega))) fun Rf23 => ?_
    refine vb_stM ?_
    refine vb_treeown 5 (by omega) rfl ?_
    refine vb_stM ?_
    refine vb_ext 8 rfl (by kernel_rfl) rfl (xt_buildSlice E28 rfl rfl rfl rfl) ?_
    refine vb_stM ?_
    refine vb_one 9 rfl (by kernel_rfl) rfl ?_
    refine vo_appendU E28 rfl (by omega) rfl rfl rfl sd sd fun Rt6 => ?_
    refine vo_stM ?_
    try simp only [app_ints, app_intss, app_bools, appX_two]
    refine vo_done ⟨rfl, ?_⟩
    refine vb_light0 10 rfl rfl rfl (by kernel_rfl) (by kernel_rfl) (by kernel_rfl) (wnt_none rfl) (l0_index_ref rfl rfl rfl E23.und inf28 sz28 sd sd) ?_
    try simp only [Int.toNat_natCast]
    refine vb_one 11 rfl (by kernel_rfl) rfl ?_
    refine vo_totree 5 rfl (plain_ints _) ?_
    refine vo_stM ?_
    refine vo_weaktree 5 rfl ?_
    refine vo_stM ?_
    refine vo_put (p := .sl _ _ _) rfl rfl rfl rfl rfl rfl rfl hC rfl (by first | decide | (simp [refsOf]; done) | (simp [refsOf, SV.shift1, placeOf]; done)) inf28 sz28 sd ?_
    refine vo_stM ?_
    try simp only [List.set_set, set_intss]
    refine vo_done ⟨rfl, ?_⟩
    refine vb_nil (by kernel_rfl) ?_
    refine hK4 _ ?_
    refine vc_seq fun K7 hK7 => ?_
    refine vc_region ?_
    refine vo_load_varG rfl rfl rfl Try.underlying25 rfl inf25 sz25 rfl ?_
    refine vo_stM ?_
    refine vo_store_varG rfl rfl rfl rfl inf25 sz25 rfl ?_
    refine vo_stM ?_
    refine vo_nil ?_
    refine hK7 _ ?_
    refine vc_ret ?_
    change retQ _ _ _ _ _
    refine retQ_sel [2, 3] (srows := [_, _]) (.inr rfl) hC rfl rfl rfl rfl rfl rfl rfl ?_
    have hM := fun y => medX_of ⟨hb1, hb2, hb3⟩ ha1 ha2 hr1 hr2 x11.toNat y
    first
     | exact ⟨_, _, _, ⟨(hM y39).2.1, by omega⟩, rfl, rfl⟩
     | exact ⟨_, _, _, ⟨(hM 0).1, by omega⟩, rfl, rfl⟩
     | exact ⟨_, _, _, ⟨(hM 0).2.2, by omega⟩, rfl, rfl⟩
   ·refine sb_ext 8 rfl rfl (xt_buildSlice E28 rfl rfl rfl rfl) ?_
    refine vb_stM ?_
    refine vb_any1 7 (by kernel_rfl) ?_
    refine sb_extE 7 rfl (fun _ => rfl) (xt_load_take1 rfl rfl (by omega) Try.underlying28 rfl (getP (L := X.real) [] (by omega))) fun Rf23 => ?_
    refine vb_stM ?_
    refine vb_treeown 6 (by omega) rfl ?_
    refine vb_stM ?_
    refine vb_one 9 rfl (by kernel_rfl) rfl ?_
    refine vo_appendU E28 rfl (by omega) rfl rfl rfl sd sd fun Rt7 => ?_
    refine vo_stM ?_
    try simp only [app_ints, app_intss, app_bools, appX_two]
    refine vo_done ⟨rfl, ?_⟩
    refine vb_light0 10 rfl rfl rfl (by kernel_rfl) (by kernel_rfl) (by kernel_rfl) (wnt_none rfl) (l0_index_ref rfl rfl rfl E23.und inf28 sz28 sd sd) ?_
    try simp only [Int.toNat_natCast]
    refine vb_one 11 rfl (by kernel_rfl) rfl ?_
    refine vo_totree 6 rfl (plain_ints _) ?_
    refine vo_stM ?_
    refine vo_weaktree 6 rfl ?_
    refine vo_stM ?_
    refine vo_put (p := .sl _ _ _) rfl rfl rfl rfl rfl rfl rfl hC rfl (by first | decide | (simp [refsOf]; done) | (simp [refsOf, SV.shift1, placeOf]; done)) inf28 sz28 sd ?_
    refine vo_stM ?_
    try simp only [List.set_set, set_intss]
    refine vo_done ⟨rfl, ?_⟩
    refine vb_nil (by kernel_rfl) ?_
    refine hK4 _ ?_
    refine vc_seq fun K8 hK8 => ?_
    refine vc_region ?_
    refine vo_load_varG rfl rfl rfl Try.underlying25 rfl inf25 sz25 rfl ?_
    refine vo_stM ?_
    refine vo_store_varG rfl rfl rfl rfl inf25 sz25 rfl ?_
    refine vo_stM ?_
    refine vo_nil ?_
    refine hK8 _ ?_
    refine vc_ret ?_
    change retQ _ _ _ _ _
    refine retQ_sel [2, 3] (srows := [_, _]) (.inr rfl) hC rfl rfl rfl rfl rfl rfl rfl ?_
    have hM := fun y => medX_of ⟨hb1, hb2, hb3⟩ ha1 ha2 hr1 hr2 x11.toNat y
    first
     | exact ⟨_, _, _, ⟨(hM y39).2.1, by omega⟩, rfl, rfl⟩
     | exact ⟨_, _, _, ⟨(hM 0).1, by omega⟩, rfl, rfl⟩
     | exact ⟨_, _, _, ⟨(hM 0).2.2, by omega⟩, rfl, rfl⟩
  ·refine sb_extE 7 rfl (fun _ => rfl) (xt_load_take1 rfl rfl (by omega) Try.underlying28 rfl (getP (L := X.real) [] (by omega))) fun Rf23 => ?_
   refine vb_stM ?_
   refine vb_treeown 5 (by omega) rfl ?_
   refine vb_stM ?_
   refine vb_any2 1 8 (by kernel_rfl) ?_ ?_
   ·refine sb_light 1 rfl rfl rfl (wnt_none rfl) (lb_load_var hC rfl rfl rfl rfl Try.underlying23 rfl rfl) ?_
    refine vb_ext 8 rfl (by kernel_rfl) rfl (xt_buildSlice E28 rfl rfl rfl rfl) ?_
    refine vb_stM ?_
    refine vb_one 9 rfl (by kernel_rfl) rfl ?_
    refine vo_appendU E28 rfl (by omega) rfl rfl rfl sd sd fun Rt8 => ?_
    refine vo_stM ?_
    try simp only [app_ints, app_intss, app_bools, appX_two]
    refine vo_done ⟨rfl, ?_⟩
    refine vb_light0 10 rfl rfl rfl (by kernel_rfl) (by kernel_rfl) (by kernel_rfl) (wnt_none rfl) (l0_index_ref rfl rfl rfl E23.und inf28 sz28 sd sd) ?_
    try simp only [Int.toNat_natCast]
    refine vb_one 11 rfl (by kernel_rfl) rfl ?_
    refine vo_totree 5 rfl (plain_ints _) ?_
    refine vo_stM ?_
    refine vo_weaktree 5 rfl ?_
    refine vo_stM ?_
    refine vo_put (p := .sl _ _ _) rfl rfl rfl rfl rfl rfl rfl hC rfl (by first | decide | (simp [refsOf]; done) | (simp [refsOf, SV.shift1, placeOf]; done)) inf28 sz28 sd ?_
    refine vo_stM ?_
    try simp only [List.set_set, set_intss]
    refine vo_done ⟨rfl, ?_⟩
    refine vb_nil (by kernel_rfl) ?_
    refine hK4 _ ?_
    refine vc_seq fun K9 hK9 => ?_
    refine vc_region ?_
    refine vo_load_varG rfl rfl rfl Try.underlying25 rfl inf25 sz25 rfl ?_
    refine vo_stM ?_
    refine vo_store_varG rfl rfl rfl rfl inf25 sz25 rfl ?_
    refine vo_stM ?_
    refine vo_nil ?_
    refine hK9 _ ?_
    refine vc_ret ?_
    change retQ _ _ _ _ _
    refine retQ_sel [2, 3] (srows := [_, _]) (.inr rfl) hC rfl rfl rfl rfl rfl rfl rfl ?_
    have hM := fun y => medX_of ⟨hb1, hb2, hb3⟩ ha1 ha2 hr1 hr2 x11.toNat y
    first
     | exact ⟨_, _, _, ⟨(hM y39).2.1, by omega⟩, rfl, rfl⟩
     | exact ⟨_, _, _, ⟨(hM 0).1, by omega⟩, rfl, rfl⟩
     | exact ⟨_, _, _, ⟨(hM 0).2.2, by omega⟩, rfl, rfl⟩
   ·refine sb_ext 8 rfl rfl (xt_buildSlice E28 rfl rfl rfl rfl) ?_
    refine vb_stM ?_
    refine vb_any2 1 9 (by kernel_rfl) ?_ ?_
    ·refine sb_light 1 rfl rfl rfl (wnt_none rfl) (lb_load_var hC rfl rfl rfl rfl Try.underlying23 rfl rfl) ?_
     refine vb_one 9 rfl (by kernel_rfl) rfl ?_
     refine vo_appendU E28 rfl (by omega) rfl rfl rfl sd sd fun Rt9 => ?_
     refine vo_stM ?_
     try simp only [app_ints, app_intss, app_bools, appX_two]
     refine vo_done ⟨rfl, ?_⟩
     refine vb_light0 10 rfl rfl rfl (by kernel_rfl) (by kernel_rfl) (by kernel_rfl) (wnt_none rfl) (l0_index_ref rfl rfl rfl E23.und inf28 sz28 sd sd) ?_
     try simp only [Int.toNat_natCast]
     refine vb_one 11 rfl (by kernel_rfl) rfl ?_
     refine vo_totree 5 rfl (plain_ints _) ?_
     refine vo_stM ?_
     refine vo_weaktree 5 rfl ?_
     refine vo_stM ?_
     refine vo_put (p := .sl _ _ _) rfl rfl rfl rfl rfl rfl rfl hC rfl (by first | decide | (simp [refsOf]; done) | (simp [refsOf, SV.shift1, placeOf]; done)) inf28 sz28 sd ?_
     refine vo_stM ?_
     try simp only [List.set_set, set_intss]
     refine vo_done ⟨rfl, ?_⟩
     refine vb_nil (by kernel_rfl) ?_
     refine hK4 _ ?_
     refine vc_seq fun K10 hK10 => ?_
     refine vc_region ?_
     refine vo_load_varG rfl rfl rfl Try.underlying25 rfl inf25 sz25 rfl ?_
     refine vo_stM ?_
     refine vo_store_varG rfl rfl rfl rfl inf25 sz25 rfl ?_
     refine vo_stM ?_
     refine vo_nil ?_
     refine hK10 _ ?_
     refine vc_ret ?_
     change retQ _ _ _ _ _
     refine retQ_sel [2, 3] (srows := [_, _]) (.inr rfl) hC rfl rfl rfl rfl rfl rfl rfl ?_
     have hM := fun y => medX_of ⟨hb1, hb2, hb3⟩ ha1 ha2 hr1 hr2 x11.toNat y
     first
      | exact ⟨_, _, _, ⟨(hM y39).2.1, by omega⟩, rfl, rfl⟩
      | exact ⟨_, _, _, ⟨(hM 0).1, by omega⟩, rfl, rfl⟩
      | exact ⟨_, _, _, ⟨(hM 0).2.2, by omega⟩, rfl, rfl⟩
    ·refine sb_one 9 rfl (by kernel_rfl) ?_
     refine vo_appendU E28 rfl (by omega) rfl rfl rfl sd sd fun Rt10 => ?_
     refine vo_stM ?_
     try simp only [app_ints, app_intss, app_bools, appX_two]
     refine vo_done ⟨rfl, ?_⟩
     refine vb_any1 1 (by kernel_rfl) ?_
     refine sb_light 1 rfl rfl rfl (wnt_none rfl) (lb_load_var hC rfl rfl rfl rfl Try.underlying23 rfl rfl) ?_
     refine vb_light0 10 rfl rfl rfl (by kernel_rfl) (by kernel_rfl) (by kernel_rfl) (wnt_none rfl) (l0_index_ref rfl rfl rfl E23.und inf28 sz28 sd sd) ?_
     try simp only [Int.toNat_natCast]
     refine vb_one 11 rfl (by kernel_rfl) rfl ?_
     refine vo_totree 5 rfl (plain_ints _) ?_
     refine vo_stM ?_
     refine vo_weaktree 5 rfl ?_
     refine vo_stM ?_
     refine vo_put (p := .sl _ _ _) rfl rfl rfl rfl rfl rfl rfl hC rfl (by first | decide | (simp [refsOf]; done) | (simp [refsOf, SV.shift1, placeOf]; done)) inf28 sz28 sd ?_
     refine vo_stM ?_
     try simp only [List.set_set, set_intss]
     refine vo_done ⟨rfl, ?_⟩
     refine vb_nil (by kernel_rfl) ?_
     refine hK4 _ ?_
     refine vc_seq fun K11 hK11 => ?_
     refine vc_region ?_
     refine vo_load_varG rfl rfl rfl Try.underlying25 rfl inf25 sz25 rfl ?_
     refine vo_stM ?_
     refine vo_store_varG rfl rfl rfl rfl inf25 sz25 rfl ?_
     refine vo_stM ?_
     refine vo_nil ?_
     refine hK11 _ ?_
     refine vc_ret ?_
     change retQ _ _ _ _ _
     refine retQ_sel [2, 3] (srows := [_, _]) (.inr rfl) hC rfl rfl rfl rfl rfl rfl rfl ?_
     have hM := fun y => medX_of ⟨hb1, hb2, hb3⟩ ha1 ha2 hr1 hr2 x11.toNat y
     first
      | exact ⟨_, _, _, ⟨(hM y39).2.1, by omega⟩, rfl, rfl⟩
      | exact ⟨_, _, _, ⟨(hM 0).1, by omega⟩, rfl, rfl⟩
      | exact ⟨_, _, _, ⟨(hM 0).2.2, by omega⟩, rfl, rfl⟩
  ·refine sb_ext 8 rfl rfl (xt_buildSlice E28 rfl rfl rfl rfl) ?_
   refine vb_stM ?_
   refine vb_any2 1 7 (by kernel_rfl) ?_ ?_
   ·refine sb_light 1 rfl rfl rfl (wnt_none rfl) (lb_load_var hC rfl rfl rfl rfl Try.underlying23 rfl rfl) ?_
    refine vb_any1 7 (by kernel_rfl) ?_
    refine sb_extE 7 rfl (fun _ => rfl) (xt_load_take1 rfl rfl (by omega) Try.underlying28 rfl (getP (L := X.real) [] (by omega))) fun Rf23 => ?_
    refine vb_stM ?_
    refine vb_treeown 6 (by omega) rfl ?_
    refine vb_stM ?_
    refine vb_one 9 rfl (by kernel_rfl) rfl ?_
    refine vo_appendU E28 rfl (by omega) rfl rfl rfl sd sd fun Rt11 => ?_
    refine vo_stM ?_
    try simp only [app_ints, app_intss, app_bools, appX_two]
    refine vo_done ⟨rfl, ?_⟩
    refine vb_light0 10 rfl rfl rfl (by kernel_rfl) (by kernel_rfl) (by kernel_rfl) (wnt_none rfl) (l0_index_ref rfl rfl rfl E23.und inf28 sz28 sd sd) ?_
    try simp only [Int.toNat_natCast]
    refine vb_one 11 rfl (by kernel_rfl) rfl ?_
    refine vo_totree 6 rfl (plain_ints _) ?_
    refine vo_stM ?_
    refine vo_weaktree 6 rfl ?_
    refine vo_stM ?_
    refine vo_put (p := .sl _ _ _) rfl rfl rfl rfl rfl rfl rfl hC rfl (by first | decide | (simp [refsOf]; done) | (simp [refsOf, SV.shift1, placeOf]; done)) inf28 sz28 sd ?_
    refine vo_stM ?_
    try simp only [List.set_set, set_intss]
    refine vo_done ⟨rfl, ?_⟩
    refine vb_nil (by kernel_rfl) ?_
    refine hK4 _ ?_
    refine vc_seq fun K12 hK12 => ?_
    refine vc_region ?_
    refine vo_load_varG rfl rfl rfl Try.underlying25 rfl inf25 sz25 rfl ?_
    refine vo_stM ?_
    refine vo_store_varG rfl rfl rfl rfl inf25 sz25 rfl ?_
    refine vo_stM ?_
    refine vo_nil ?_
    refine hK12 _ ?_
    refine vc_ret ?_
    change retQ _ _ _ _ _
    refine retQ_sel [2, 3] (srows := [_, _]) (.inr rfl) hC rfl rfl rfl rfl rfl rfl rfl ?_
    have hM := fun y => medX_of ⟨hb1, hb2, hb3⟩ ha1 ha2 hr1 hr2 x11.toNat y
    first
     | exact ⟨_, _, _, ⟨(hM y39).2.1, by omega⟩, rfl, rfl⟩
     | exact ⟨_, _, _, ⟨(hM 0).1, by omega⟩, rfl, rfl⟩
     | exact ⟨_, _, _, ⟨(hM 0).2.2, by omega⟩, rfl, rfl⟩
   ·refine sb_extE 7 rfl (fun _ => rfl) (xt_load_take1 rfl rfl (by omega) Try.underlying28 rfl (getP (L := X.real) [] (by omega))) fun Rf23 => ?_
    refine vb_stM ?_
    refine vb_treeown 6 (by omega) rfl ?_
    refine vb_stM ?_
    refine vb_any2 1 9 (by kernel_rfl) ?_ ?_
    ·refine sb_light 1 rfl rfl rfl (wnt_none rfl) (lb_load_var hC rfl rfl rfl rfl Try.underlying23 rfl rfl) ?_
     refine vb_one 9 rfl (by kernel_rfl) rfl ?_
     refine vo_appendU E28 rfl (by omega) rfl rfl rfl sd sd fun Rt12 => ?_
     refine vo_stM ?_
     try simp only [app_ints, app_intss, app_bools, appX_two]
     refine vo_done ⟨rfl, ?_⟩
     refine vb_light0 10 rfl rfl rfl (by kernel_rfl) (by kernel_rfl) (by kernel_rfl) (wnt_none rfl) (l0_index_ref rfl rfl rfl E23.und inf28 sz28 sd sd) ?_
     try simp only [Int.toNat_natCast]
     refine vb_one 11 rfl (by kernel_rfl) rfl ?_
     refine vo_totree 6 rfl (plain_ints _) ?_
     refine vo_stM ?_
     refine vo_weaktree 6 rfl ?_
     refine vo_stM ?_
     refine vo_put (p := .sl _ _ _) rfl rfl rfl rfl rfl rfl rfl hC rfl (by first | decide | (simp [refsOf]; done) | (simp [refsOf, SV.shift1, placeOf]; done)) inf28 sz28 sd ?_
     refine vo_stM ?_
     try simp only [List.set_set, set_intss]
     refine vo_done ⟨rfl, ?_⟩
     refine vb_nil (by kernel_rfl) ?_
     refine hK4 _ ?_
     refine vc_seq fun K13 hK13 => ?_
     refine vc_region ?_
     refine vo_load_varG rfl rfl rfl Try.underlying25 rfl inf25 sz25 rfl ?_
     refine vo_stM ?_
     refine vo_store_varG rfl rfl rfl rfl inf25 sz25 rfl ?_
     refine vo_stM ?_
     refine vo_nil ?_
     refine hK13 _ ?_
     refine vc_ret ?_
     change retQ _ _ _ _ _
     refine retQ_sel [2, 3] (srows := [_, _]) (.inr rfl) hC rfl rfl rfl rfl rfl rfl rfl ?_
     have hM := fun y => medX_of ⟨hb1, hb2, hb3⟩ ha1 ha2 hr1 hr2 x11.toNat y
     first
      | exact ⟨_, _, _, ⟨(hM y39).2.1, by omega⟩, rfl, rfl⟩
      | exact ⟨_, _, _, ⟨(hM 0).1, by omega⟩, rfl, rfl⟩
      | exact ⟨_, _, _, ⟨(hM 0).2.2, by omega⟩, rfl, rfl⟩
    ·refine sb_one 9 rfl (by kernel_rfl) ?_
     refine vo_appendU E28 rfl (by omega) rfl rfl rfl sd sd fun Rt13 => ?_
     refine vo_stM ?_
     try simp only [app_ints, app_intss, app_bools, appX_two]
     refine vo_done ⟨rfl, ?_⟩
     refine vb_any1 1 (by kernel_rfl) ?_
     refine sb_light 1 rfl rfl rfl (wnt_none rfl) (lb_load_var hC rfl rfl rfl rfl Try.underlying23 rfl rfl) ?_
     refine vb_light0 10 rfl rfl rfl (by kernel_rfl) (by kernel_rfl) (by kernel_rfl) (wnt_none rfl) (l0_index_ref rfl rfl rfl E23.und inf28 sz28 sd sd) ?_
     try simp only [Int.toNat_natCast]
     refine vb_one 11 rfl (by kernel_rfl) rfl ?_
     refine vo_totree 6 rfl (plain_ints _) ?_
     refine vo_stM ?_
     refine vo_weaktree 6 rfl ?_
     refine vo_stM ?_
     refine vo_put (p := .sl _ _ _) rfl rfl rfl rfl rfl rfl rfl hC rfl (by first | decide | (simp [refsOf]; done) | (simp [refsOf, SV.shift1, placeOf]; done)) inf28 sz28 sd ?_
     refine vo_stM ?_
     try simp only [List.set_set, set_intss]
     refine vo_done ⟨rfl, ?_⟩
     refine vb_nil (by kernel_rfl) ?_
     refine hK4 _ ?_
     refine vc_seq fun K14 hK14 => ?_
     refine vc_region ?_
     refine vo_load_varG rfl rfl rfl Try.underlying25 rfl inf25 sz25 rfl ?_
     refine vo_stM ?_
     refine vo_store_varG rfl rfl rfl rfl inf25 sz25 rfl ?_
     refine vo_stM ?_
     refine vo_nil ?_
     refine hK14 _ ?_
     refine vc_ret ?_
     change retQ _ _ _ _ _
     refine retQ_sel [2, 3] (srows := [_, _]) (.inr rfl) hC rfl rfl rfl rfl rfl rfl rfl ?_
     have hM := fun y => medX_of ⟨hb1, hb2, hb3⟩ ha1 ha2 hr1 hr2 x11.toNat y
     first
      | exact ⟨_, _, _, ⟨(hM y39).2.1, by omega⟩, rfl, rfl⟩
      | exact ⟨_, _, _, ⟨(hM 0).1, by omega⟩, rfl, rfl⟩
      | exact ⟨_, _, _, ⟨(hM 0).2.2, by omega⟩, rfl, rfl⟩
 ·try simp only [zq0, zq1, zq2, zq3, zq4, zq5, zq6, zq7, zq8, zq9, zqa, zqb, zqc, zqd, zqe, zqf] at hc1
  refine vc_seq fun K15 hK15 => ?_
  refine vc_region ?_
  refine vo_binI rfl rfl rfl rfl trivial ?_
  refine vo_assign_pv rfl rfl ?_
  refine vo_nil ?_
  refine hK15 _ ?_
  refine vc_cond rfl (fun hc2 => ?_) (fun hc2 => ?_)
  ·try simp only [zq0, zq1, zq2, zq3, zq4, zq5, zq6, zq7, zq8, zq9, zqa, zqb, zqc, zqd, zqe, zqf] at hc2
   have hrk := getD_all (p := fun l : List Int => l.length ≤ 5) ha2 [] (by simp) x11.toNat
   refine vc_drawB [12, 14] (by kernel_rfl) ?_
   change VLB [12, 14] _ _ _ 15 _ _ _
   refine vb_light0 0 rfl rfl rfl (by kernel_rfl) (by kernel_rfl) (by kernel_rfl) (wnt_none rfl) (l0_fieldAddr_ptr rfl Try.underlying25 rfl inf23 (by rw [sz23]; decide)) ?_
   try simp only [Nat.zero_add]
   refine vb_light0 2 rfl rfl rfl (by kernel_rfl) (by kernel_rfl) (by kernel_rfl) (wnt_none rfl) (l0_move_pv rfl) ?_
   refine vb_light0 3 rfl rfl rfl (by kernel_rfl) (by kernel_rfl) (by kernel_rfl) (wnt_none rfl) (l0_fieldAddr_ptr rfl Try.underlying25 rfl inf23 (by rw [sz23]; decide)) ?_
   try simp only [Nat.zero_add]
   refine vb_light 4 [0, 1, 2, 3, 5, 8, 9, 10, 11] rfl rfl rfl (by kernel_rfl) (by kernel_rfl) (by kernel_rfl) (by kernel_rfl) (by kernel_rfl) (wnt_none rfl) (lb_load_var hC rfl rfl rfl rfl Try.underlying23 rfl rfl) ?_
   refine vb_light0 5 rfl rfl rfl (by kernel_rfl) (by kernel_rfl) (by kernel_rfl) (wnt_none rfl) (l0_move_pv rfl) ?_
   refine vb_light0 6 rfl rfl rfl (by kernel_rfl) (by kernel_rfl) (by kernel_rfl) (wnt_none rfl) (l0_index_ref rfl rfl rfl E23.und inf28 sz28 sd sd) ?_
   try simp only [Int.toNat_natCast]
   refine vb_light0 8 rfl rfl rfl (by kernel_rfl) (by kernel_rfl) (by kernel_rfl) (wnt_none rfl) (l0_move_ptr rfl) ?_
   refine vb_any3 1 7 9 (by kernel_rfl) ?_ ?_ ?_
   ·refine sb_light 1 rfl rfl rfl (wnt_none rfl) (lb_load_var hC rfl rfl rfl rfl Try.underlying23 rfl rfl) ?_
    refine vb_any2 7 9 (by kernel_rfl) ?_ ?_
    ·refine sb_extE 7 rfl (fun _ => rfl) (xt_load_take1 rfl rfl (by omega) Try.underlying28 rfl (getP (L := X.abs) [] (by omega))) fun Rf36 => ?_
     refine vb_stM ?_
     refine vb_treeown 5 (by omega) rfl ?_
     refine vb_stM ?_
     refine vb_ext 9 rfl (by kernel_rfl) rfl (xt_buildSlice E28 rfl rfl rfl rfl) ?_
     refine vb_stM ?_
     refine vb_expose 6 (by omega) rfl ?_
     refine vb_stM ?_
     refine vb_weaken 38 rfl ?_
     refine vb_stM ?_
     refine vb_any1 10 (by kernel_rfl) ?_
     refine sb_call 10 [0] hC rfl rfl (wnt_none rfl) Try.func98 rfl rfl rfl rfl rfl rfl rfl (one_sat (list := [_,_]) hc (by omega) (by simp) (by simp)) ?_
     rintro _ _ ⟨y39, hy39, rfl, rfl⟩
     refine ⟨Nat.le_of_ble_eq_true rfl, ⟨rfl, rfl, rfl, rfl⟩, .inl rfl, ?_⟩
     refine vb_stM ?_
     refine vb_ext 11 rfl (by kernel_rfl) rfl (xt_buildSlice E28 rfl rfl rfl rfl) ?_
     refine vb_stM ?_
     refine vb_one 12 rfl (by kernel_rfl) rfl ?_
     refine vo_appendU E28 rfl (by omega) rfl rfl rfl sd sd fun Rt15 => ?_
     refine vo_stM ?_
     try simp only [app_ints, app_intss, app_bools, appX_two]
     refine vo_done ⟨rfl, ?_⟩
     refine vb_light0 13 rfl rfl rfl (by kernel_rfl) (by kernel_rfl) (by kernel_rfl) (wnt_none rfl) (l0_index_ref rfl rfl rfl E23.und inf28 sz28 sd sd) ?_
     try simp only [Int.toNat_natCast]
     refine vb_one 14 rfl (by kernel_rfl) rfl ?_
     refine vo_totree 5 rfl (plain_ints _) ?_
     refine vo_stM ?_
     refine vo_weaktree 5 rfl ?_
     refine vo_stM ?_
     refine vo_put (p := .sl _ _ _) rfl rfl rfl rfl rfl rfl rfl hC rfl (by first | decide | (simp [refsOf]; done) | (simp [refsOf, SV.shift1, placeOf]; done)) inf28 sz28 sd ?_
     refine vo_stM ?_
     try simp only [List.set_set, set_intss]
     refine vo_done ⟨rfl, ?_⟩
     refine vb_nil (by kernel_rfl) ?_
     refine hK4 _ ?_
     refine vc_seq fun K16 hK16 => ?_
     refine vc_region ?_
     refine vo_load_varG rfl rfl rfl Try.underlying25 rfl inf25 sz25 rfl ?_
     refine vo_stM ?_
     refine vo_store_varG rfl rfl rfl rfl inf25 sz25 rfl ?_
     refine vo_stM ?_
     refine vo_nil ?_
     refine hK16 _ ?_
     refine vc_ret ?_
     change retQ _ _ _ _ _
     refine retQ_sel [2, 3] (srows := [_, _]) (.inr rfl) hC rfl rfl rfl rfl rfl rfl rfl ?_
     have hM := fun y => medX_of ⟨hb1, hb2, hb3⟩ ha1 ha2 hr1 hr2 x11.toNat y
     first
      | exact ⟨_, _, _, ⟨(hM y39).2.1, by omega⟩, rfl, rfl⟩
      | exact ⟨_, _, _, ⟨(hM 0).1, by omega⟩, rfl, rfl⟩
      | exact ⟨_, _, _, ⟨(hM 0).2.2, by omega⟩, rfl, rfl⟩
    ·refine sb_ext 9 rfl rfl (xt_buildSlice E28 rfl rfl rfl rfl) ?_
     refine vb_stM ?_
     refine vb_expose 5 (by omega) rfl ?_
     refine vb_stM ?_
     refine vb_weaken 38 rfl ?_
     refine vb_stM ?_
     refine vb_any2 7 10 (by kernel_rfl) ?_ ?_
     ·refine sb_extE 7 rfl (fun _ => rfl) (xt_load_take1 rfl rfl (by omega) Try.underlying28 rfl (getP (L := X.abs) [] (by omega))) fun Rf36 => ?_
      refine vb_stM ?_
      refine vb_treeown 6 (by omega) rfl ?_
      refine vb_stM ?_
      refine vb_any1 10 (by kernel_rfl) ?_
      refine sb_call 10 [0] hC rfl rfl (wnt_none rfl) Try.func98 rfl rfl rfl rfl rfl rfl rfl (one_sat (list := [_,_]) hc (by omega) (by simp) (by simp)) ?_
      rintro _ _ ⟨y39, hy39, rfl, rfl⟩
      refine ⟨Nat.le_of_ble_eq_true rfl, ⟨rfl, rfl, rfl, rfl⟩, .inl rfl, ?_⟩
      refine vb_stM ?_
      refine vb_ext 11 rfl (by kernel_rfl) rfl (xt_buildSlice E28 rfl rfl rfl rfl) ?_
      refine vb_stM ?_
      refine vb_one 12 rfl (by kernel_rfl) rfl ?_
      refine vo_appendU E28 rfl (by omega) rfl rfl rfl sd sd fun Rt16 => ?_
      refine vo_stM ?_
      try simp only [app_ints, app_intss, app_bools, appX_two]
      refine vo_done ⟨rfl, ?_⟩
      refine vb_light0 13 rfl rfl rfl (by kernel_rfl) (by kernel_rfl) (by kernel_rfl) (wnt_none rfl) (l0_index_ref rfl rfl rfl E23.und inf28 sz28 sd sd) ?_
      try simp only [Int.toNat_natCast]
      refine vb_one 14 rfl (by kernel_rfl) rfl ?_
      refine vo_totree 6 rfl (plain_ints _) ?_
      refine vo_stM ?_
      refine vo_weaktree 6 rfl ?_
      refine vo_stM ?_
      refine vo_put (p := .sl _ _ _) rfl rfl rfl rfl rfl rfl rfl hC rfl (by first | decide | (simp [refsOf]; done) | (simp [refsOf, SV.shift1, placeOf]; done)) inf28 sz28 sd ?_
      refine vo_stM ?_
      try simp only [List.set_set, set_intss]
      refine vo_done ⟨rfl, ?_⟩
      refine vb_nil (by kernel_rfl) ?_
      refine hK4 _ ?_
      refine vc_seq fun K17 hK17 => ?_
      refine vc_region ?_
      refine vo_load_varG rfl rfl rfl Try.underlying25 rfl inf25 sz25 rfl ?_
      refine vo_stM ?_
      refine vo_store_varG rfl rfl rfl rfl inf25 sz25 rfl ?_
      refine vo_stM ?_
      refine vo_nil ?_
      refine hK17 _ ?_
      refine vc_ret ?_
      change retQ _ _ _ _ _
      refine retQ_sel [2, 3] (srows := [_, _]) (.inr rfl) hC rfl rfl rfl rfl rfl rfl rfl ?_
      have hM := fun y => medX_of ⟨hb1, hb2, hb3⟩ ha1 ha2 hr1 hr2 x11.toNat y
      first
       | exact ⟨_, _, _, ⟨(hM y39).2.1, by omega⟩, rfl, rfl⟩
       | exact ⟨_, _, _, ⟨(hM 0).1, by omega⟩, rfl, rfl⟩
       | exact ⟨_, _, _, ⟨(hM 0).2.2, by omega⟩, rfl, rfl⟩
     ·refine sb_call 10 [0] hC rfl rfl (wnt_none rfl) Try.func98 rfl rfl rfl rfl rfl rfl rfl (one_sat (list := [_,_]) hc (by omega) (by simp) (by simp)) ?_
      rintro _ _ ⟨y39, hy39, rfl, rfl⟩
      refine ⟨Nat.le_of_ble_eq_true rfl, ⟨rfl, rfl, rfl, rfl⟩, .inl rfl, ?_⟩
      refine vb_stM ?_
      refine vb_any2 7 11 (by kernel_rfl) ?_ ?_
      ·refine sb_extE 7 rfl (fun _ => rfl) (xt_load_take1 rfl rfl (by omega) Try.underlying28 rfl (getP (L := X.abs) [] (by omega))) fun Rf36 => ?_
       refine vb_stM ?_
       refine vb_treeown 6 (by omega) rfl ?_
       refine vb_stM ?_
       refine vb_ext 11 rfl (by kernel_rfl) rfl (xt_buildSlice E28 rfl rfl rfl rfl) ?_
       refine vb_stM ?_
       refine vb_one 12 rfl (by kernel_rfl) rfl ?_
       refine vo_appendU E28 rfl (by omega) rfl rfl rfl sd sd fun Rt17 => ?_
       refine vo_stM ?_
       try simp only [app_ints, app_intss, app_bools, appX_two]
       refine vo_done ⟨rfl, ?_⟩
       refine vb_light0 13 rfl rfl rfl (by kernel_rfl) (by kernel_rfl) (by kernel_rfl) (wnt_none rfl) (l0_index_ref rfl rfl rfl E23.und inf28 sz28 sd sd) ?_
       try simp only [Int.toNat_natCast]
       refine vb_one 14 rfl (by kernel_rfl) rfl ?_
       refine vo_totree 6 rfl (plain_ints _) ?_
       refine vo_stM ?_
       refine vo_weaktree 6 rfl ?_
       refine vo_stM ?_
       refine vo_put (p := .sl _ _ _) rfl rfl rfl rfl rfl rfl rfl hC rfl (by first | decide | (simp [refsOf]; done) | (simp [refsOf, SV.shift1, placeOf]; done)) inf28 sz28 sd ?_
       refine vo_stM ?_
       try simp only [List.set_set, set_intss]
       refine vo_done ⟨rfl, ?_⟩
       refine vb_nil (by kernel_rfl) ?_
       refine hK4 _ ?_
       refine vc_seq fun K18 hK18 => ?_
       refine vc_region ?_
       refine vo_load_varG rfl rfl rfl Try.underlying25 rfl inf25 sz25 rfl ?_
       refine vo_stM ?_
       refine vo_store_varG rfl rfl rfl rfl inf25 sz25 rfl ?_
       refine vo_stM ?_
       refine vo_nil ?_
       refine hK18 _ ?_
       refine vc_ret ?_
       change retQ _ _ _ _ _
       refine retQ_sel [2, 3] (srows := [_, _]) (.inr rfl) hC rfl rfl rfl rfl rfl rfl rfl ?_
       have hM := fun y => medX_of ⟨hb1, hb2, hb3⟩ ha1 ha2 hr1 hr2 x11.toNat y
       first
        | exact ⟨_, _, _, ⟨(hM y39).2.1, by omega⟩, rfl, rfl⟩
        | exact ⟨_, _, _, ⟨(hM 0).1, by omega⟩, rfl, rfl⟩
        | exact ⟨_, _, _, ⟨(hM 0).2.2, by omega⟩, rfl, rfl⟩
      ·refine sb_ext 11 rfl rfl (xt_buildSlice E28 rfl rfl rfl rfl) ?_
       refine vb_stM ?_
       refine vb_any1 7 (by kernel_rfl) ?_
       refine sb_extE 7 rfl (fun _ => rfl) (xt_load_take1 rfl rfl (by omega) Try.underlying28 rfl (getP (L := X.abs) [] (by omega))) fun Rf36 => ?_
       refine vb_stM ?_
       refine vb_treeown 7 (by omega) rfl ?_
       refine vb_stM ?_
       refine vb_one 12 rfl (by kernel_rfl) rfl ?_
       refine vo_appendU E28 rfl (by omega) rfl rfl rfl sd sd fun Rt18 => ?_
       refine vo_stM ?_
       try simp only [app_ints, app_intss, app_bools, appX_two]
       refine vo_done ⟨rfl, ?_⟩
       refine vb_light0 13 rfl rfl rfl (by kernel_rfl) (by kernel_rfl) (by kernel_rfl) (wnt_none rfl) (l0_index_ref rfl rfl rfl E23.und inf28 sz28 sd sd) ?_
       try simp only [Int.toNat_natCast]
       refine vb_one 14 rfl (by kernel_rfl) rfl ?_
       refine vo_totree 7 rfl (plain_ints _) ?_
       refine vo_stM ?_
       refine vo_weaktree 7 rfl ?_
       refine vo_stM ?_
       refine vo_put (p := .sl _ _ _) rfl rfl rfl rfl rfl rfl rfl hC rfl (by first | decide | (simp [refsOf]; done) | (simp [refsOf, SV.shift1, placeOf]; done)) inf28 sz28 sd ?_
       refine vo_stM ?_
       try simp only [List.set_set, set_intss]
       refine vo_done ⟨rfl, ?_⟩
       refine vb_nil (by kernel_rfl) ?_
       refine hK4 _ ?_
       refine vc_seq fun K19 hK19 => ?_
       refine vc_region ?_
       refine vo_load_varG rfl rfl rfl Try.underlying25 rfl inf25 sz25 rfl ?_
       refine vo_stM ?_
       refine vo_store_varG rfl rfl rfl rfl inf25 sz25 rfl ?_
       refine vo_stM ?_
       refine vo_nil ?_
       refine hK19 _ ?_
       refine vc_ret ?_
       change retQ _ _ _ _ _
       refine retQ_sel [2, 3] (srows := [_, _]) (.inr rfl) hC rfl rfl rfl rfl rfl rfl rfl ?_
       have hM := fun y => medX_of ⟨hb1, hb2, hb3⟩ ha1 ha2 hr1 hr2 x11.toNat y
       first
        | exact ⟨_, _, _, ⟨(hM y39).2.1, by omega⟩, rfl, rfl⟩
        | exact ⟨_, _, _, ⟨(hM 0).1, by omega⟩, rfl, rfl⟩
        | exact ⟨_, _, _, ⟨(hM 0).2.2, by omega⟩, rfl, rfl⟩
   ·refine sb_extE 7 rfl (fun _ => rfl) (xt_load_take1 rfl rfl (by omega) Try.underlying28 rfl (getP (L := X.abs) [] (by omega))) fun Rf36 => ?_
    refine vb_stM ?_
    refine vb_treeown 5 (by omega) rfl ?_
    refine vb_stM ?_
    refine vb_any2 1 9 (by kernel_rfl) ?_ ?_
    ·refine sb_light 1 rfl rfl rfl (wnt_none rfl) (lb_load_var hC rfl rfl rfl rfl Try.underlying23 rfl rfl) ?_
     refine vb_ext 9 rfl (by kernel_rfl) rfl (xt_buildSlice E28 rfl rfl rfl rfl) ?_
     refine vb_stM ?_
     refine vb_expose 6 (by omega) rfl ?_
     refine vb_stM ?_
     refine vb_weaken 38 rfl ?_
     refine vb_stM ?_
     refine vb_any1 10 (by kernel_rfl) ?_
     refine sb_call 10 [0] hC rfl rfl (wnt_none rfl) Try.func98 rfl rfl rfl rfl rfl rfl rfl (one_sat (list := [_,_]) hc (by omega) (by simp) (by simp)) ?_
     rintro _ _ ⟨y39, hy39, rfl, rfl⟩
     refine ⟨Nat.le_of_ble_eq_true rfl, ⟨rfl, rfl, rfl, rfl⟩, .inl rfl, ?_⟩
     refine vb_stM ?_
     refine vb_ext 11 rfl (by kernel_rfl) rfl (xt_buildSlice E28 rfl rfl rfl rfl) ?_
     refine vb_stM ?_
     refine vb_one 12 rfl (by kernel_rfl) rfl ?_
     refine vo_appendU E28 rfl (by omega) rfl rfl rfl sd sd fun Rt19 => ?_
     refine vo_stM ?_
     try simp only [app_ints, app_intss, app_bools, appX_two]
     refine vo_done ⟨rfl, ?_⟩
     refine vb_light0 13 rfl rfl rfl (by kernel_rfl) (by kernel_rfl) (by kernel_rfl) (wnt_none rfl) (l0_index_ref rfl rfl rfl E23.und inf28 sz28 sd sd) ?_
     try simp only [Int.toNat_natCast]
     refine vb_one 14 rfl (by kernel_rfl) rfl ?_
     refine vo_totree 5 rfl (plain_ints _) ?_
     refine vo_stM ?_
     refine vo_weaktree 5 rfl ?_
     refine vo_stM ?_
     refine vo_put (p := .sl _ _ _) rfl rfl rfl rfl rfl rfl rfl hC rfl (by first | decide | (simp [refsOf]; done) | (simp [refsOf, SV.shift1, placeOf]; done)) inf28 sz28 sd ?_
     refine vo_stM ?_
     try simp only [List.set_set, set_intss]
     refine vo_done ⟨rfl, ?_⟩
     refine vb_nil (by kernel_rfl) ?_
     refine hK4 _ ?_
     refine vc_seq fun K20 hK20 => ?_
     refine vc_region ?_
     refine vo_load_varG rfl rfl rfl Try.underlying25 rfl inf25 sz25 rfl ?_
     refine vo_stM ?_
     refine vo_store_varG rfl rfl rfl rfl inf25 sz25 rfl ?_
     refine vo_stM ?_
     refine vo_nil ?_
     refine hK20 _ ?_
     refine vc_ret ?_
     change retQ _ _ _ _ _
     refine retQ_sel [2, 3] (srows := [_, _]) (.inr rfl) hC rfl rfl rfl rfl rfl rfl rfl ?_
     have hM := fun y => medX_of ⟨hb1, hb2, hb3⟩ ha1 ha2 hr1 hr2 x11.toNat y
     first
      | exact ⟨_, _, _, ⟨(hM y39).2.1, by omega⟩, rfl, rfl⟩
      | exact ⟨_, _, _, ⟨(hM 0).1, by omega⟩, rfl, rfl⟩
      | exact ⟨_, _, _, ⟨(hM 0).2.2, by omega⟩, rfl, rfl⟩
    ·refine sb_ext 9 rfl rfl (xt_buildSlice E28 rfl rfl rfl rfl) ?_
     refine vb_stM ?_
     refine vb_expose 6 (by omega) rfl ?_
     refine vb_stM ?_
     refine vb_weaken 38 rfl ?_
     refine vb_stM ?_
     refine vb_any2 1 10 (by kernel_rfl) ?_ ?_
     ·refine sb_light 1 rfl rfl rfl (wnt_none rfl) (lb_load_var hC rfl rfl rfl rfl Try.underlying23 rfl rfl) ?_
      refine vb_any1 10 (by kernel_rfl) ?_
      refine sb_call 10 [0] hC rfl rfl (wnt_none rfl) Try.func98 rfl rfl rfl rfl rfl rfl rfl (one_sat (list := [_,_]) hc (by omega) (by simp) (by simp)) ?_
      rintro _ _ ⟨y39, hy39, rfl, rfl⟩
      refine ⟨Nat.le_of_ble_eq_true rfl, ⟨rfl, rfl, rfl, rfl⟩, .inl rfl, ?_⟩
      refine vb_stM ?_
      refine vb_ext 11 rfl (by kernel_rfl) rfl (xt_buildSlice E28 rfl rfl rfl rfl) ?_
      refine vb_stM ?_
      refine vb_one 12 rfl (by kernel_rfl) rfl ?_
      refine vo_appendU E28 rfl (by omega) rfl rfl rfl sd sd fun Rt20 => ?_
      refine vo_stM ?_
      try simp only [app_ints, app_intss, app_bools, appX_two]
      refine vo_done ⟨rfl, ?_⟩
      refine vb_light0 13 rfl rfl rfl (by kernel_rfl) (by kernel_rfl) (by kernel_rfl) (wnt_none rfl) (l0_index_ref rfl rfl rfl E23.und inf28 sz28 sd sd) ?_
      try simp only [Int.toNat_natCast]
      refine vb_one 14 rfl (by kernel_rfl) rfl ?_
      refine vo_totree 5 rfl (plain_ints _) ?_
      refine vo_stM ?_
      refine vo_weaktree 5 rfl ?_
      refine vo_stM ?_
      refine vo_put (p := .sl _ _ _) rfl rfl rfl rfl rfl rfl rfl hC rfl (by first | decide | (simp [refsOf]; done) | (simp [refsOf, SV.shift1, placeOf]; done)) inf28 sz28 sd ?_
      refine vo_stM ?_
      try simp only [List.set_set, set_intss]
      refine vo_done ⟨rfl, ?_⟩
      refine vb_nil (by kernel_rfl) ?_
      refine hK4 _ ?_
      refine vc_seq fun K21 hK21 => ?_
      refine vc_region ?_
      refine vo_load_varG rfl rfl rfl Try.underlying25 rfl inf25 sz25 rfl ?_
      refine vo_stM ?_
      refine vo_store_varG rfl rfl rfl rfl inf25 sz25 rfl ?_
      refine vo_stM ?_
      refine vo_nil ?_
      refine hK21 _ ?_
      refine vc_ret ?_
      change retQ _ _ _ _ _
      refine retQ_sel [2, 3] (srows := [_, _]) (.inr rfl) hC rfl rfl rfl rfl rfl rfl rfl ?_
      have hM := fun y => medX_of ⟨hb1, hb2, hb3⟩ ha1 ha2 hr1 hr2 x11.toNat y
      first
       | exact ⟨_, _, _, ⟨(hM y39).2.1, by omega⟩, rfl, rfl⟩
       | exact ⟨_, _, _, ⟨(hM 0).1, by omega⟩, rfl, rfl⟩
       | exact ⟨_, _, _, ⟨(hM 0).2.2, by omega⟩, rfl, rfl⟩
     ·refine sb_call 10 [0] hC rfl rfl (wnt_none rfl) Try.func98 rfl rfl rfl rfl rfl rfl rfl (one_sat (list := [_,_]) hc (by omega) (by simp) (by simp)) ?_
      rintro _ _ ⟨y39, hy39, rfl, rfl⟩
      refine ⟨Nat.le_of_ble_eq_true rfl, ⟨rfl, rfl, rfl, rfl⟩, .inl rfl, ?_⟩
      refine vb_stM ?_
      refine vb_any2 1 11 (by kernel_rfl) ?_ ?_
      ·refine sb_light 1 rfl rfl rfl (wnt_none rfl) (lb_load_var hC rfl rfl rfl rfl Try.underlying23 rfl rfl) ?_
       refine vb_ext 11 rfl (by kernel_rfl) rfl (xt_buildSlice E28 rfl rfl rfl rfl) ?_
       refine vb_stM ?_
       refine vb_one 12 rfl (by kernel_rfl) rfl ?_
       refine vo_appendU E28 rfl (by omega) rfl rfl rfl sd sd fun Rt21 => ?_
       refine vo_stM ?_
       try simp only [app_ints, app_intss, app_bools, appX_two]
       refine vo_done ⟨rfl, ?_⟩
       refine vb_light0 13 rfl rfl rfl (by kernel_rfl) (by kernel_rfl) (by kernel_rfl) (wnt_none rfl) (l0_index_ref rfl rfl rfl E23.und inf28 sz28 sd sd) ?_
       try simp only [Int.toNat_natCast]
       refine vb_one 14 rfl (by kernel_rfl) rfl ?_
       refine vo_totree 5 rfl (plain_ints _) ?_
       refine vo_stM ?_
       refine vo_weaktree 5 rfl ?_
       refine vo_stM ?_
       refine vo_put (p := .sl _ _ _) rfl rfl rfl rfl rfl rfl rfl hC rfl (by first | decide | (simp [refsOf]; done) | (simp [refsOf, SV.shift1, placeOf]; done)) inf28 sz28 sd ?_
       refine vo_stM ?_
       try simp only [List.set_set, set_intss]
       refine vo_done ⟨rfl, ?_⟩
       refine vb_nil (by kernel_rfl) ?_
       refine hK4 _ ?_
       refine vc_seq fun K22 hK22 => ?_
       refine vc_region ?_
       refine vo_load_varG rfl rfl rfl Try.underlying25 rfl inf25 sz25 rfl ?_
       refine vo_stM ?_
       refine vo_store_varG rfl rfl rfl rfl inf25 sz25 rfl ?_
       refine vo_stM ?_
       refine vo_nil ?_
       refine hK22 _ ?_
       refine vc_ret ?_
       change retQ _ _ _ _ _
       refine retQ_sel [2, 3] (srows := [_, _]) (.inr rfl) hC rfl rfl rfl rfl rfl rfl rfl ?_
       have hM := fun y => medX_of ⟨hb1, hb2, hb3⟩ ha1 ha2 hr1 hr2 x11.toNat y
       first
        | exact ⟨_, _, _, ⟨(hM y39).2.1, by omega⟩, rfl, rfl⟩
        | exact ⟨_, _, _, ⟨(hM 0).1, by omega⟩, rfl, rfl⟩
        | exact ⟨_, _, _, ⟨(hM 0).2.2, by omega⟩, rfl, rfl⟩
      ·refine sb_ext 11 rfl rfl (xt_buildSlice E28 rfl rfl rfl rfl) ?_
       refine vb_stM ?_
       refine vb_any2 1 12 (by kernel_rfl) ?_ ?_
       ·refine sb_light 1 rfl rfl rfl (wnt_none rfl) (lb_load_var hC rfl rfl rfl rfl Try.underlying23 rfl rfl) ?_
        refine vb_one 12 rfl (by kernel_rfl) rfl ?_
        refine vo_appendU E28 rfl (by omega) rfl rfl rfl sd sd fun Rt22 => ?_
        refine vo_stM ?_
        try simp only [app_ints, app_intss, app_bools, appX_two]
        refine vo_done ⟨rfl, ?_⟩
        refine vb_light0 13 rfl rfl rfl (by kernel_rfl) (by kernel_rfl) (by kernel_rfl) (wnt_none rfl) (l0_index_ref rfl rfl rfl E23.und inf28 sz28 sd sd) ?_
        try simp only [Int.toNat_natCast]
        refine vb_one 14 rfl (by kernel_rfl) rfl ?_
        refine vo_totree 5 rfl (plain_ints _) ?_
        refine vo_stM ?_
        refine vo_weaktree 5 rfl ?_
        refine vo_stM ?_
        refine vo_put (p := .sl _ _ _) rfl rfl rfl rfl rfl rfl rfl hC rfl (by first | decide | (simp [refsOf]; done) | (simp [refsOf, SV.shift1, placeOf]; done)) inf28 sz28 sd ?_
        refine vo_stM ?_
        try simp only [List.set_set, set_intss]
        refine vo_done ⟨rfl, ?_⟩
        refine vb_nil (by kernel_rfl) ?_
        refine hK4 _ ?_
        refine vc_seq fun K23 hK23 => ?_
        refine vc_region ?_
        refine vo_load_varG rfl rfl rfl Try.underlying25 rfl inf25 sz25 rfl ?_
        refine vo_stM ?_
        refine vo_store_varG rfl rfl rfl rfl inf25 sz25 rfl ?_
        refine vo_stM ?_
        refine vo_nil ?_
        refine hK23 _ ?_
        refine vc_ret ?_
        change retQ _ _ _ _ _
        refine retQ_sel [2, 3] (srows := [_, _]) (.inr rfl) hC rfl rfl rfl rfl rfl rfl rfl ?_
        have hM := fun y => medX_of ⟨hb1, hb2, hb3⟩ ha1 ha2 hr1 hr2 x11.toNat y
        first
         | exact ⟨_, _, _, ⟨(hM y39).2.1, by omega⟩, rfl, rfl⟩
         | exact ⟨_, _, _, ⟨(hM 0).1, by omega⟩, rfl, rfl⟩
         | exact ⟨_, _, _, ⟨(hM 0).2.2, by omega⟩, rfl, rfl⟩
       ·refine sb_one 12 rfl (by kernel_rfl) ?_
        refine vo_appendU E28 rfl (by omega) rfl rfl rfl sd sd fun Rt23 => ?_
        refine vo_stM ?_
        try simp only [app_ints, app_intss, app_bools, appX_two]
        refine vo_done ⟨rfl, ?_⟩
        refine vb_any1 1 (by kernel_rfl) ?_
        refine sb_light 1 rfl rfl rfl (wnt_none rfl) (lb_load_var hC rfl rfl rfl rfl Try.underlying23 rfl rfl) ?_
        refine vb_light0 13 rfl rfl rfl (by kernel_rfl) (by kernel_rfl) (by kernel_rfl) (wnt_none rfl) (l0_index_ref rfl rfl rfl E23.und inf28 sz28 sd sd) ?_
        try simp only [Int.toNat_natCast]
        refine vb_one 14 rfl (by kernel_rfl) rfl ?_
        refine vo_totree 5 rfl (plain_ints _) ?_
        refine vo_stM ?_
        refine vo_weaktree 5 rfl ?_
        refine vo_stM ?_
        refine vo_put (p := .sl _ _ _) rfl rfl rfl rfl rfl rfl rfl hC rfl (by first | decide | (simp [refsOf]; done) | (simp [refsOf, SV.shift1, placeOf]; done)) inf28 sz28 sd ?_
        refine vo_stM ?_
        try simp only [List.set_set, set_intss]
        refine vo_done ⟨rfl, ?_⟩
        refine vb_nil (by kernel_rfl) ?_
        refine hK4 _ ?_
        refine vc_seq fun K24 hK24 => ?_
        refine vc_region ?_
        refine vo_load_varG rfl rfl rfl Try.underlying25 rfl inf25 sz25 rfl ?_
        refine vo_stM ?_
        refine vo_store_varG rfl rfl rfl rfl inf25 sz25 rfl ?_
        refine vo_stM ?_
        refine vo_nil ?_
        refine hK24 _ ?_
        refine vc_ret ?_
        change retQ _ _ _ _ _
        refine retQ_sel [2, 3] (srows := [_, _]) (.inr rfl) hC rfl rfl rfl rfl rfl rfl rfl ?_
        have hM := fun y => medX_of ⟨hb1, hb2, hb3⟩ ha1 ha2 hr1 hr2 x11.toNat y
        first
         | exact ⟨_, _, _, ⟨(hM y39).2.1, by omega⟩, rfl, rfl⟩
         | exact ⟨_, _, _, ⟨(hM 0).1, by omega⟩, rfl, rfl⟩
         | exact ⟨_, _, _, ⟨(hM 0).2.2, by omega⟩, rfl, rfl⟩
   ·refine sb_ext 9 rfl rfl (xt_buildSlice E28 rfl rfl rfl rfl) ?_
    refine vb_stM ?_
    refine vb_expose 5 (by omega) rfl ?_
    refine vb_stM ?_
    refine vb_weaken 38 rfl ?_
    refine vb_stM ?_
    refine vb_any3 1 7 10 (by kernel_rfl) ?_ ?_ ?_
    ·refine sb_light 1 rfl rfl rfl (wnt_none rfl) (lb_load_var hC rfl rfl rfl rfl Try.underlying23 rfl rfl) ?_
     refine vb_any2 7 10 (by kernel_rfl) ?_ ?_
     ·refine sb_extE 7 rfl (fun _ => rfl) (xt_load_take1 rfl rfl (by omega) Try.underlying28 rfl (getP (L := X.abs) [] (by omega))) fun Rf36 => ?_
      refine vb_stM ?_
      refine vb_treeown 6 (by omega) rfl ?_
      refine vb_stM ?_
      refine vb_any1 10 (by kernel_rfl) ?_
      refine sb_call 10 [0] hC rfl rfl (wnt_none rfl) Try.func98 rfl rfl rfl rfl rfl rfl rfl (one_sat (list := [_,_]) hc (by omega) (by simp) (by simp)) ?_
      rintro _ _ ⟨y39, hy39, rfl, rfl⟩
      refine ⟨Nat.le_of_ble_eq_true rfl, ⟨rfl, rfl, rfl, rfl⟩, .inl rfl, ?_⟩
      refine vb_stM ?_
      refine vb_ext 11 rfl (by kernel_rfl) rfl (xt_buildSlice E28 rfl rfl rfl rfl) ?_
      refine vb_stM ?_
      refine vb_one 12 rfl (by kernel_rfl) rfl ?_
      refine vo_appendU E28 rfl (by omega) rfl rfl rfl sd sd fun Rt24 => ?_
      refine vo_stM ?_
      try simp only [app_ints, app_intss, app_bools, appX_two]
      refine vo_done ⟨rfl, ?_⟩
      refine vb_light0 13 rfl rfl rfl (by kernel_rfl) (by kernel_rfl) (by kernel_rfl) (wnt_none rfl) (l0_index_ref rfl rfl rfl E23.und inf28 sz28 sd sd) ?_
      try simp only [Int.toNat_natCast]
      refine vb_one 14 rfl (by kernel_rfl) rfl ?_
      refine vo_totree 6 rfl (plain_ints _) ?_
      refine vo_stM ?_
      refine vo_weaktree 6 rfl ?_
      refine vo_stM ?_
      refine vo_put (p := .sl _ _ _) rfl rfl rfl rfl rfl rfl rfl hC rfl (by first | decide | (simp [refsOf]; done) | (simp [refsOf, SV.shift1, placeOf]; done)) inf28 sz28 sd ?_
      refine vo_stM ?_
      try simp only [List.set_set, set_intss]
      refine vo_done ⟨rfl, ?_⟩
      refine vb_nil (by kernel_rfl) ?_
      refine hK4 _ ?_
      refine vc_seq fun K25 hK25 => ?_
      refine vc_region ?_
      refine vo_load_varG rfl rfl rfl Try.underlying25 rfl inf25 sz25 rfl ?_
      refine vo_stM ?_
      refine vo_store_varG rfl rfl rfl rfl inf25 sz25 rfl ?_
      refine vo_stM ?_
      refine vo_nil ?_
      refine hK25 _ ?_
      refine vc_ret ?_
      change retQ _ _ _ _ _
      refine retQ_sel [2, 3] (srows := [_, _]) (.inr rfl) hC rfl rfl rfl rfl rfl rfl rfl ?_
      have hM := fun y => medX_of ⟨hb1, hb2, hb3⟩ ha1 ha2 hr1 hr2 x11.toNat y
      first
       | exact ⟨_, _, _, ⟨(hM y39).2.1, by omega⟩, rfl, rfl⟩
       | exact ⟨_, _, _, ⟨(hM 0).1, by omega⟩, rfl, rfl⟩
       | exact ⟨_, _, _, ⟨(hM 0).2.2, by omega⟩, rfl, rfl⟩
     ·refine sb_call 10 [0] hC rfl rfl (wnt_none rfl) Try.func98 rfl rfl rfl rfl rfl rfl rfl (one_sat (list := [_,_]) hc (by omega) (by simp) (by simp)) ?_
      rintro _ _ ⟨y39, hy39, rfl, rfl⟩
      refine ⟨Nat.le_of_ble_eq_true rfl, ⟨rfl, rfl, rfl, rfl⟩, .inl rfl, ?_⟩
      refine vb_stM ?_
      refine vb_any2 7 11 (by kernel_rfl) ?_ ?_
      ·refine sb_extE 7 rfl (fun _ => rfl) (xt_load_take1 rfl rfl (by omega) Try.underlying28 rfl (getP (L := X.abs) [] (by omega))) fun Rf36 => ?_
       refine vb_stM ?_
       refine vb_treeown 6 (by omega) rfl ?_
       refine vb_stM ?_
       refine vb_ext 11 rfl (by kernel_rfl) rfl (xt_buildSlice E28 rfl rfl rfl rfl) ?_
       refine vb_stM ?_
       refine vb_one 12 rfl (by kernel_rfl) rfl ?_
       refine vo_appendU E28 rfl (by omega) rfl rfl rfl sd sd fun Rt25 => ?_
       refine vo_stM ?_
       try simp only [app_ints, app_intss, app_bools, appX_two]
       refine vo_done ⟨rfl, ?_⟩
       refine vb_light0 13 rfl rfl rfl (by kernel_rfl) (by kernel_rfl) (by kernel_rfl) (wnt_none rfl) (l0_index_ref rfl rfl rfl E23.und inf28 sz28 sd sd) ?_
       try simp only [Int.toNat_natCast]
       refine vb_one 14 rfl (by kernel_rfl) rfl ?_
       refine vo_totree 6 rfl (plain_ints _) ?_
       refine vo_stM ?_
       refine vo_weaktree 6 rfl ?_
       refine vo_stM ?_
       refine vo_put (p := .sl _ _ _) rfl rfl rfl rfl rfl rfl rfl hC rfl (by first | decide | (simp [refsOf]; done) | (simp [refsOf, SV.shift1, placeOf]; done)) inf28 sz28 sd ?_
       refine vo_stM ?_
       try simp only [List.set_set, set_intss]
       refine vo_done ⟨rfl, ?_⟩
       refine vb_nil (by kernel_rfl) ?_
       refine hK4 _ ?_
       refine vc_seq fun K26 hK26 => ?_
       refine vc_region ?_
       refine vo_load_varG rfl rfl rfl Try.underlying25 rfl inf25 sz25 rfl ?_
       refine vo_stM ?_
       refine vo_store_varG rfl rfl rfl rfl inf25 sz25 rfl ?_
       refine vo_stM ?_
       refine vo_nil ?_
       refine hK26 _ ?_
       refine vc_ret ?_
       change retQ _ _ _ _ _
       refine retQ_sel [2, 3] (srows := [_, _]) (.inr rfl) hC rfl rfl rfl rfl rfl rfl rfl ?_
       have hM := fun y => medX_of ⟨hb1, hb2, hb3⟩ ha1 ha2 hr1 hr2 x11.toNat y
       first
        | exact ⟨_, _, _, ⟨(hM y39).2.1, by omega⟩, rfl, rfl⟩
        | exact ⟨_, _, _, ⟨(hM 0).1, by omega⟩, rfl, rfl⟩
        | exact ⟨_, _, _, ⟨(hM 0).2.2, by omega⟩, rfl, rfl⟩
      ·refine sb_ext 11 rfl rfl (xt_buildSlice E28 rfl rfl rfl rfl) ?_
       refine vb_stM ?_
       refine vb_any1 7 (by kernel_rfl) ?_
       refine sb_extE 7 rfl (fun _ => rfl) (xt_load_take1 rfl rfl (by omega) Try.underlying28 rfl (getP (L := X.abs) [] (by omega))) fun Rf36 => ?_
       refine vb_stM ?_
       refine vb_treeown 7 (by omega) rfl ?_
       refine vb_stM ?_
       refine vb_one 12 rfl (by kernel_rfl) rfl ?_
       refine vo_appendU E28 rfl (by omega) rfl rfl rfl sd sd fun Rt26 => ?_
       refine vo_stM ?_
       try simp only [app_ints, app_intss, app_bools, appX_two]
       refine vo_done ⟨rfl, ?_⟩
       refine vb_light0 13 rfl rfl rfl (by kernel_rfl) (by kernel_rfl) (by kernel_rfl) (wnt_none rfl) (l0_index_ref rfl rfl rfl E23.und inf28 sz28 sd sd) ?_
       try simp only [Int.toNat_natCast]
       refine vb_one 14 rfl (by kernel_rfl) rfl ?_
       refine vo_totree 7 rfl (plain_ints _) ?_
       refine vo_stM ?_
       refine vo_weaktree 7 rfl ?_
       refine vo_stM ?_
       refine vo_put (p := .sl _ _ _) rfl rfl rfl rfl rfl rfl rfl hC rfl (by first | decide | (simp [refsOf]; done) | (simp [refsOf, SV.shift1, placeOf]; done)) inf28 sz28 sd ?_
       refine vo_stM ?_
       try simp only [List.set_set, set_intss]
       refine vo_done ⟨rfl, ?_⟩
       refine vb_nil (by kernel_rfl) ?_
       refine hK4 _ ?_
       refine vc_seq fun K27 hK27 => ?_
       refine vc_region ?_
       refine vo_load_varG rfl rfl rfl Try.underlying25 rfl inf25 sz25 rfl ?_
       refine vo_stM ?_
       refine vo_store_varG rfl rfl rfl rfl inf25 sz25 rfl ?_
       refine vo_stM ?_
       refine vo_nil ?_
       refine hK27 _ ?_
       refine vc_ret ?_
       change retQ _ _ _ _ _
       refine retQ_sel [2, 3] (srows := [_, _]) (.inr rfl) hC rfl rfl rfl rfl rfl rfl rfl ?_
       have hM := fun y => medX_of ⟨hb1, hb2, hb3⟩ ha1 ha2 hr1 hr2 x11.toNat y
       first
        | exact ⟨_, _, _, ⟨(hM y39).2.1, by omega⟩, rfl, rfl⟩
        | exact ⟨_, _, _, ⟨(hM 0).1, by omega⟩, rfl, rfl⟩
        | exact ⟨_, _, _, ⟨(hM 0).2.2, by omega⟩, rfl, rfl⟩
    ·refine sb_extE 7 rfl (fun _ => rfl) (xt_load_take1 rfl rfl (by omega) Try.underlying28 rfl (getP (L := X.abs) [] (by omega))) fun Rf36 => ?_
     refine vb_stM ?_
     refine vb_treeown 6 (by omega) rfl ?_
     refine vb_stM ?_
     refine vb_any2 1 10 (by kernel_rfl) ?_ ?_
     ·refine sb_light 1 rfl rfl rfl (wnt_none rfl) (lb_load_var hC rfl rfl rfl rfl Try.underlying23 rfl rfl) ?_
      refine vb_any1 10 (by kernel_rfl) ?_
      refine sb_call 10 [0] hC rfl rfl (wnt_none rfl) Try.func98 rfl rfl rfl rfl rfl rfl rfl (one_sat (list := [_,_]) hc (by omega) (by simp) (by simp)) ?_
      rintro _ _ ⟨y39, hy39, rfl, rfl⟩
      refine ⟨Nat.le_of_ble_eq_true rfl, ⟨rfl, rfl, rfl, rfl⟩, .inl rfl, ?_⟩
      refine vb_stM ?_
      refine vb_ext 11 rfl (by kernel_rfl) rfl (xt_buildSlice E28 rfl rfl rfl rfl) ?_
      refine vb_stM ?_
      refine vb_one 12 rfl (by kernel_rfl) rfl ?_
      refine vo_appendU E28 rfl (by omega) rfl rfl rfl sd sd fun Rt27 => ?_
      refine vo_stM ?_
      try simp only [app_ints, app_intss, app_bools, appX_two]
      refine vo_done ⟨rfl, ?_⟩
      refine vb_light0 13 rfl rfl rfl (by kernel_rfl) (by kernel_rfl) (by kernel_rfl) (wnt_none rfl) (l0_index_ref rfl rfl rfl E23.und inf28 sz28 sd sd) ?_
      try simp only [Int.toNat_natCast]
      refine vb_one 14 rfl (by kernel_rfl) rfl ?_
      refine vo_totree 6 rfl (plain_ints _) ?_
      refine vo_stM ?_
      refine vo_weaktree 6 rfl ?_
      refine vo_stM ?_
      refine vo_put (p := .sl _ _ _) rfl rfl rfl rfl rfl rfl rfl hC rfl (by first | decide | (simp [refsOf]; done) | (simp [refsOf, SV.shift1, placeOf]; done)) inf28 sz28 sd ?_
      refine vo_stM ?_
      try simp only [List.set_set, set_intss]
      refine vo_done ⟨rfl, ?_⟩
      refine vb_nil (by kernel_rfl) ?_
      refine hK4 _ ?_
      refine vc_seq fun K28 hK28 => ?_
      refine vc_region ?_
      refine vo_load_varG rfl rfl rfl Try.underlying25 rfl inf25 sz25 rfl ?_
      refine vo_stM ?_
      refine vo_store_varG rfl rfl rfl rfl inf25 sz25 rfl ?_
      refine vo_stM ?_
      refine vo_nil ?_
      refine hK28 _ ?_
      refine vc_ret ?_
      change retQ _ _ _ _ _
      refine retQ_sel [2, 3] (srows := [_, _]) (.inr rfl) hC rfl rfl rfl rfl rfl rfl rfl ?_
      have hM := fun y => medX_of ⟨hb1, hb2, hb3⟩ ha1 ha2 hr1 hr2 x11.toNat y
      first
       | exact ⟨_, _, _, ⟨(hM y39).2.1, by omega⟩, rfl, rfl⟩
       | exact ⟨_, _, _, ⟨(hM 0).1, by omega⟩, rfl, rfl⟩
       | exact ⟨_, _, _, ⟨(hM 0).2.2, by omega⟩, rfl, rfl⟩
     ·refine sb_call 10 [0] hC rfl rfl (wnt_none rfl) Try.func98 rfl rfl rfl rfl rfl rfl rfl (one_sat (list := [_,_]) hc (by omega) (by simp) (by simp)) ?_
      rintro _ _ ⟨y39, hy39, rfl, rfl⟩
      refine ⟨Nat.le_of_ble_eq_true rfl, ⟨rfl, rfl, rfl, rfl⟩, .inl rfl, ?_⟩
      refine vb_stM ?_
      refine vb_any2 1 11 (by kernel_rfl) ?_ ?_
      ·refine sb_light 1 rfl rfl rfl (wnt_none rfl) (lb_load_var hC rfl rfl rfl rfl Try.underlying23 rfl rfl) ?_
       refine vb_ext 11 rfl (by kernel_rfl) rfl (xt_buildSlice E28 rfl rfl rfl rfl) ?_
       refine vb_stM ?_
       refine vb_one 12 rfl (by kernel_rfl) rfl ?_
       refine vo_appendU E28 rfl (by omega) rfl rfl rfl sd sd fun Rt28 => ?_
       refine vo_stM ?_
       try simp only [app_ints, app_intss, app_bools, appX_two]
       refine vo_done ⟨rfl, ?_⟩
       refine vb_light0 13 rfl rfl rfl (by kernel_rfl) (by kernel_rfl) (by kernel_rfl) (wnt_none rfl) (l0_index_ref rfl rfl rfl E23.und inf28 sz28 sd sd) ?_
       try simp only [Int.toNat_natCast]
       refine vb_one 14 rfl (by kernel_rfl) rfl ?_
       refine vo_totree 6 rfl (plain_ints _) ?_
       refine vo_stM ?_
       refine vo_weaktree 6 rfl ?_
       refine vo_stM ?_
       refine vo_put (p := .sl _ _ _) rfl rfl rfl rfl rfl rfl rfl hC rfl (by first | decide | (simp [refsOf]; done) | (simp [refsOf, SV.shift1, placeOf]; done)) inf28 sz28 sd ?_
       refine vo_stM ?_
       try simp only [List.set_set, set_intss]
       refine vo_done ⟨rfl, ?_⟩
       refine vb_nil (by kernel_rfl) ?_
       refine hK4 _ ?_
       refine vc_seq fun K29 hK29 => ?_
       refine vc_region ?_
       refine vo_load_varG rfl rfl rfl Try.underlying25 rfl inf25 sz25 rfl ?_
       refine vo_stM ?_
       refine vo_store_varG rfl rfl rfl rfl inf25 sz25 rfl ?_
       refine vo_stM ?_
       refine vo_nil ?_
       refine hK29 _ ?_
       refine vc_ret ?_
       change retQ _ _ _ _ _
       refine retQ_sel [2, 3] (srows := [_, _]) (.inr rfl) hC rfl rfl rfl rfl rfl rfl rfl ?_
       have hM := fun y => medX_of ⟨hb1, hb2, hb3⟩ ha1 ha2 hr1 hr2 x11.toNat y
       first
        | exact ⟨_, _, _, ⟨(hM y39).2.1, by omega⟩, rfl, rfl⟩
        | exact ⟨_, _, _, ⟨(hM 0).1, by omega⟩, rfl, rfl⟩
        | exact ⟨_, _, _, ⟨(hM 0).2.2, by omega⟩, rfl, rfl⟩
      ·refine sb_ext 11 rfl rfl (xt_buildSlice E28 rfl rfl rfl rfl) ?_
       refine vb_stM ?_
       refine vb_any2 1 12 (by kernel_rfl) ?_ ?_
       ·refine sb_light 1 rfl rfl rfl (wnt_none rfl) (lb_load_var hC rfl rfl rfl rfl Try.underlying23 rfl rfl) ?_
        refine vb_one 12 rfl (by kernel_rfl) rfl ?_
        refine vo_appendU E28 rfl (by omega) rfl rfl rfl sd sd fun Rt29 => ?_
        refine vo_stM ?_
        try simp only [app_ints, app_intss, app_bools, appX_two]
        refine vo_done ⟨rfl, ?_⟩
        refine vb_light0 13 rfl rfl rfl (by kernel_rfl) (by kernel_rfl) (by kernel_rfl) (wnt_none rfl) (l0_index_ref rfl rfl rfl E23.und inf28 sz28 sd sd) ?_
        try simp only [Int.toNat_natCast]
        refine vb_one 14 rfl (by kernel_rfl) rfl ?_
        refine vo_totree 6 rfl (plain_ints _) ?_
        refine vo_stM ?_
        refine vo_weaktree 6 rfl ?_
        refine vo_stM ?_
        refine vo_put (p := .sl _ _ _) rfl rfl rfl rfl rfl rfl rfl hC rfl (by first | decide | (simp [refsOf]; done) | (simp [refsOf, SV.shift1, placeOf]; done)) inf28 sz28 sd ?_
        refine vo_stM ?_
        try simp only [List.set_set, set_intss]
        refine vo_done ⟨rfl, ?_⟩
        refine vb_nil (by kernel_rfl) ?_
        refine hK4 _ ?_
        refine vc_seq fun K30 hK30 => ?_
        refine vc_region ?_
        refine vo_load_varG rfl rfl rfl Try.underlying25 rfl inf25 sz25 rfl ?_
        refine vo_stM ?_
        refine vo_store_varG rfl rfl rfl rfl inf25 sz25 rfl ?_
        refine vo_stM ?_
        refine vo_nil ?_
        refine hK30 _ ?_
        refine vc_ret ?_
        change retQ _ _ _ _ _
        refine retQ_sel [2, 3] (srows := [_, _]) (.inr rfl) hC rfl rfl rfl rfl rfl rfl rfl ?_
        have hM := fun y => medX_of ⟨hb1, hb2, hb3⟩ ha1 ha2 hr1 hr2 x11.toNat y
        first
         | exact ⟨_, _, _, ⟨(hM y39).2.1, by omega⟩, rfl, rfl⟩
         | exact ⟨_, _, _, ⟨(hM 0).1, by omega⟩, rfl, rfl⟩
         | exact ⟨_, _, _, ⟨(hM 0).2.2, by omega⟩, rfl, rfl⟩
       ·refine sb_one 12 rfl (by kernel_rfl) ?_
        refine vo_appendU E28 rfl (by omega) rfl rfl rfl sd sd fun Rt30 => ?_
        refine vo_stM ?_
        try simp only [app_ints, app_intss, app_bools, appX_two]
        refine vo_done ⟨rfl, ?_⟩
        refine vb_any1 1 (by kernel_rfl) ?_
        refine sb_light 1 rfl rfl rfl (wnt_none rfl) (lb_load_var hC rfl rfl rfl rfl Try.underlying23 rfl rfl) ?_
        refine vb_light0 13 rfl rfl rfl (by kernel_rfl) (by kernel_rfl) (by kernel_rfl) (wnt_none rfl) (l0_index_ref rfl rfl rfl E23.und inf28 sz28 sd sd) ?_
        try simp only [Int.toNat_natCast]
        refine vb_one 14 rfl (by kernel_rfl) rfl ?_
        refine vo_totree 6 rfl (plain_ints _) ?_
        refine vo_stM ?_
        refine vo_weaktree 6 rfl ?_
        refine vo_stM ?_
        refine vo_put (p := .sl _ _ _) rfl rfl rfl rfl rfl rfl rfl hC rfl (by first | decide | (simp [refsOf]; done) | (simp [refsOf, SV.shift1, placeOf]; done)) inf28 sz28 sd ?_
        refine vo_stM ?_
        try simp only [List.set_set, set_intss]
        refine vo_done ⟨rfl, ?_⟩
        refine vb_nil (by kernel_rfl) ?_
        refine hK4 _ ?_
        refine vc_seq fun K31 hK31 => ?_
        refine vc_region ?_
        refine vo_load_varG rfl rfl rfl Try.underlying25 rfl inf25 sz25 rfl ?_
        refine vo_stM ?_
        refine vo_store_varG rfl rfl rfl rfl inf25 sz25 rfl ?_
        refine vo_stM ?_
        refine vo_nil ?_
        refine hK31 _ ?_
        refine vc_ret ?_
        change retQ _ _ _ _ _
        refine retQ_sel [2, 3] (srows := [_, _]) (.inr rfl) hC rfl rfl rfl rfl rfl rfl rfl ?_
        have hM := fun y => medX_of ⟨hb1, hb2, hb3⟩ ha1 ha2 hr1 hr2 x11.toNat y
        first
         | exact ⟨_, _, _, ⟨(hM y39).2.1, by omega⟩, rfl, rfl⟩
         | exact ⟨_, _, _, ⟨(hM 0).1, by omega⟩, rfl, rfl⟩
         | exact ⟨_, _, _, ⟨(hM 0).2.2, by omega⟩, rfl, rfl⟩
    ·refine sb_call 10 [0] hC rfl rfl (wnt_none rfl) Try.func98 rfl rfl rfl rfl rfl rfl rfl (one_sat (list := [_,_]) hc (by omega) (by simp) (by simp)) ?_
     rintro _ _ ⟨y39, hy39, rfl, rfl⟩
     refine ⟨Nat.le_of_ble_eq_true rfl, ⟨rfl, rfl, rfl, rfl⟩, .inl rfl, ?_⟩
     refine vb_stM ?_
     refine vb_any3 1 7 11 (by kernel_rfl) ?_ ?_ ?_
     ·refine sb_light 1 rfl rfl rfl (wnt_none rfl) (lb_load_var hC rfl rfl rfl rfl Try.underlying23 rfl rfl) ?_
      refine vb_any2 7 11 (by kernel_rfl) ?_ ?_
      ·refine sb_extE 7 rfl (fun _ => rfl) (xt_load_take1 rfl rfl (by omega) Try.underlying28 rfl (getP (L := X.abs) [] (by omega))) fun Rf36 => ?_
       refine vb_stM ?_
       refine vb_treeown 6 (by omega) rfl ?_
       refine vb_stM ?_
       refine vb_ext 11 rfl (by kernel_rfl) rfl (xt_buildSlice E28 rfl rfl rfl rfl) ?_
       refine vb_stM ?_
       refine vb_one 12 rfl (by kernel_rfl) rfl ?_
       refine vo_appendU E28 rfl (by omega) rfl rfl rfl sd sd fun Rt31 => ?_
       refine vo_stM ?_
       try simp only [app_ints, app_intss, app_bools, appX_two]
       refine vo_done ⟨rfl, ?_⟩
       refine vb_light0 13 rfl rfl rfl (by kernel_rfl) (by kernel_rfl) (by kernel_rfl) (wnt_none rfl) (l0_index_ref rfl rfl rfl E23.und inf28 sz28 sd sd) ?_
       try simp only [Int.toNat_natCast]
       refine vb_one 14 rfl (by kernel_rfl) rfl ?_
       refine vo_totree 6 rfl (plain_ints _) ?_
       refine vo_stM ?_
       refine vo_weaktree 6 rfl ?_
       refine vo_stM ?_
       refine vo_put (p := .sl _ _ _) rfl rfl rfl rfl rfl rfl rfl hC rfl (by first | decide | (simp [refsOf]; done) | (simp [refsOf, SV.shift1, placeOf]; done)) inf28 sz28 sd ?_
       refine vo_stM ?_
       try simp only [List.set_set, set_intss]
       refine vo_done ⟨rfl, ?_⟩
       refine vb_nil (by kernel_rfl) ?_
       refine hK4 _ ?_
       refine vc_seq fun K32 hK32 => ?_
       refine vc_region ?_
       refine vo_load_varG rfl rfl rfl Try.underlying25 rfl inf25 sz25 rfl ?_
       refine vo_stM ?_
       refine vo_store_varG rfl rfl rfl rfl inf25 sz25 rfl ?_
       refine vo_stM ?_
       refine vo_nil ?_
       refine hK32 _ ?_
       refine vc_ret ?_
       change retQ _ _ _ _ _
       refine retQ_sel [2, 3] (srows := [_, _]) (.inr rfl) hC rfl rfl rfl rfl rfl rfl rfl ?_
       have hM := fun y => medX_of ⟨hb1, hb2, hb3⟩ ha1 ha2 hr1 hr2 x11.toNat y
       first
        | exact ⟨_, _, _, ⟨(hM y39).2.1, by omega⟩, rfl, rfl⟩
        | exact ⟨_, _, _, ⟨(hM 0).1, by omega⟩, rfl, rfl⟩
        | exact ⟨_, _, _, ⟨(hM 0).2.2, by omega⟩, rfl, rfl⟩
      ·refine sb_ext 11 rfl rfl (xt_buildSlice E28 rfl rfl rfl rfl) ?_
       refine vb_stM ?_
       refine vb_any1 7 (by kernel_rfl) ?_
       refine sb_extE 7 rfl (fun _ => rfl) (xt_load_take1 rfl rfl (by omega) Try.underlying28 rfl (getP (L := X.abs) [] (by omega))) fun Rf36 => ?_
       refine vb_stM ?_
       refine vb_treeown 7 (by omega) rfl ?_
       refine vb_stM ?_
       refine vb_one 12 rfl (by kernel_rfl) rfl ?_
       refine vo_appendU E28 rfl (by omega) rfl rfl rfl sd sd fun Rt32 => ?_
       refine vo_stM ?_
       try simp only [app_ints, app_intss, app_bools, appX_two]
       refine vo_done ⟨rfl, ?_⟩
       refine vb_light0 13 rfl rfl rfl (by kernel_rfl) (by kernel_rfl) (by kernel_rfl) (wnt_none rfl) (l0_index_ref rfl rfl rfl E23.und inf28 sz28 sd sd) ?_
       try simp only [Int.toNat_natCast]
       refine vb_one 14 rfl (by kernel_rfl) rfl ?_
       refine vo_totree 7 rfl (plain_ints _) ?_
       refine vo_stM ?_
       refine vo_weaktree 7 rfl ?_
       refine vo_stM ?_
       refine vo_put (p := .sl _ _ _) rfl rfl rfl rfl rfl rfl rfl hC rfl (by first | decide | (simp [refsOf]; done) | (simp [refsOf, SV.shift1, placeOf]; done)) inf28 sz28 sd ?_
       refine vo_stM ?_
       try simp only [List.set_set, set_intss]
       refine vo_done ⟨rfl, ?_⟩
       refine vb_nil (by kernel_rfl) ?_
       refine hK4 _ ?_
       refine vc_seq fun K33 hK33 => ?_
       refine vc_region ?_
       refine vo_load_varG rfl rfl rfl Try.underlying25 rfl inf25 sz25 rfl ?_
       refine vo_stM ?_
       refine vo_store_varG rfl rfl rfl rfl inf25 sz25 rfl ?_
       refine vo_stM ?_
       refine vo_nil ?_
       refine hK33 _ ?_
       refine vc_ret ?_
       change retQ _ _ _ _ _
       refine retQ_sel [2, 3] (srows := [_, _]) (.inr rfl) hC rfl rfl rfl rfl rfl rfl rfl ?_
       have hM := fun y => medX_of ⟨hb1, hb2, hb3⟩ ha1 ha2 hr1 hr2 x11.toNat y
       first
        | exact ⟨_, _, _, ⟨(hM y39).2.1, by omega⟩, rfl, rfl⟩
        | exact ⟨_, _, _, ⟨(hM 0).1, by omega⟩, rfl, rfl⟩
        | exact ⟨_, _, _, ⟨(hM 0).2.2, by omega⟩, rfl, rfl⟩
     ·refine sb_extE 7 rfl (fun _ => rfl) (xt_load_take1 rfl rfl (by omega) Try.underlying28 rfl (getP (L := X.abs) [] (by omega))) fun Rf36 => ?_
      refine vb_stM ?_
      refine vb_treeown 6 (by omega) rfl ?_
      refine vb_stM ?_
      refine vb_any2 1 11 (by kernel_rfl) ?_ ?_
      ·refine sb_light 1 rfl rfl rfl (wnt_none rfl) (lb_load_var hC rfl rfl rfl rfl Try.underlying23 rfl rfl) ?_
       refine vb_ext 11 rfl (by kernel_rfl) rfl (xt_buildSlice E28 rfl rfl rfl rfl) ?_
       refine vb_stM ?_
       refine vb_one 12 rfl (by kernel_rfl) rfl ?_
       refine vo_appendU E28 rfl (by omega) rfl rfl rfl sd sd fun Rt33 => ?_
       refine vo_stM ?_
       try simp only [app_ints, app_intss, app_bools, appX_two]
       refine vo_done ⟨rfl, ?_⟩
       refine vb_light0 13 rfl rfl rfl (by kernel_rfl) (by kernel_rfl) (by kernel_rfl) (wnt_none rfl) (l0_index_ref rfl rfl rfl E23.und inf28 sz28 sd sd) ?_
       try simp only [Int.toNat_natCast]
       refine vb_one 14 rfl (by kernel_rfl) rfl ?_
       refine vo_totree 6 rfl (plain_ints _) ?_
       refine vo_stM ?_
       refine vo_weaktree 6 rfl ?_
       refine vo_stM ?_
       refine vo_put (p := .sl _ _ _) rfl rfl rfl rfl rfl rfl rfl hC rfl (by first | decide | (simp [refsOf]; done) | (simp [refsOf, SV.shift1, placeOf]; done)) inf28 sz28 sd ?_
       refine vo_stM ?_
       try simp only [List.set_set, set_intss]
       refine vo_done ⟨rfl, ?_⟩
       refine vb_nil (by kernel_rfl) ?_
       refine hK4 _ ?_
       refine vc_seq fun K34 hK34 => ?_
       refine vc_region ?_
       refine vo_load_varG rfl rfl rfl Try.underlying25 rfl inf25 sz25 rfl ?_
       refine vo_stM ?_
       refine vo_store_varG rfl rfl rfl rfl inf25 sz25 rfl ?_
       refine vo_stM ?_
       refine vo_nil ?_
       refine hK34 _ ?_
       refine vc_ret ?_
       change retQ _ _ _ _ _
       refine retQ_sel [2, 3] (srows := [_, _]) (.inr rfl) hC rfl rfl rfl rfl rfl rfl rfl ?_
       have hM := fun y => medX_of ⟨hb1, hb2, hb3⟩ ha1 ha2 hr1 hr2 x11.toNat y
       first
        | exact ⟨_, _, _, ⟨(hM y39).2.1, by omega⟩, rfl, rfl⟩
        | exact ⟨_, _, _, ⟨(hM 0).1, by omega⟩, rfl, rfl⟩
        | exact ⟨_, _, _, ⟨(hM 0).2.2, by omega⟩, rfl, rfl⟩
      ·refine sb_ext 11 rfl rfl (xt_buildSlice E28 rfl rfl rfl rfl) ?_
       refine vb_stM ?_
       refine vb_any2 1 12 (by kernel_rfl) ?_ ?_
       ·refine sb_light 1 rfl rfl rfl (wnt_none rfl) (lb_load_var hC rfl rfl rfl rfl Try.underlying23 rfl rfl) ?_
        refine vb_one 12 rfl (by kernel_rfl) rfl ?_
        refine vo_appendU E28 rfl (by omega) rfl rfl rfl sd sd fun Rt34 => ?_
        refine vo_stM ?_
        try simp only [app_ints, app_intss, app_bools, appX_two]
        refine vo_done ⟨rfl, ?_⟩
        refine vb_light0 13 rfl rfl rfl (by kernel_rfl) (by kernel_rfl) (by kernel_rfl) (wnt_none rfl) (l0_index_ref rfl rfl rfl E23.und inf28 sz28 sd sd) ?_
        try simp only [Int.toNat_natCast]
        refine vb_one 14 rfl (by kernel_rfl) rfl ?_
        refine vo_totree 6 rfl (plain_ints _) ?_
        refine vo_stM ?_
        refine vo_weaktree 6 rfl ?_
        refine vo_stM ?_
        refine vo_put (p := .sl _ _ _) rfl rfl rfl rfl rfl rfl rfl hC rfl (by first | decide | (simp [refsOf]; done) | (simp [refsOf, SV.shift1, placeOf]; done)) inf28 sz28 sd ?_
        refine vo_stM ?_
        try simp only [List.set_set, set_intss]
        refine vo_done ⟨rfl, ?_⟩
        refine vb_nil (by kernel_rfl) ?_
        refine hK4 _ ?_
        refine vc_seq fun K35 hK35 => ?_
        refine vc_region ?_
        refine vo_load_varG rfl rfl rfl Try.underlying25 rfl inf25 sz25 rfl ?_
        refine vo_stM ?_
        refine vo_store_varG rfl rfl rfl rfl inf25 sz25 rfl ?_
        refine vo_stM ?_
        refine vo_nil ?_
        refine hK35 _ ?_
        refine vc_ret ?_
        change retQ _ _ _ _ _
        refine retQ_sel [2, 3] (srows := [_, _]) (.inr rfl) hC rfl rfl rfl rfl rfl rfl rfl ?_
        have hM := fun y => medX_of ⟨hb1, hb2, hb3⟩ ha1 ha2 hr1 hr2 x11.toNat y
        first
         | exact ⟨_, _, _, ⟨(hM y39).2.1, by omega⟩, rfl, rfl⟩
         | exact ⟨_, _, _, ⟨(hM 0).1, by omega⟩, rfl, rfl⟩
         | exact ⟨_, _, _, ⟨(hM 0).2.2, by omega⟩, rfl, rfl⟩
       ·refine sb_one 12 rfl (by kernel_rfl) ?_
        refine vo_appendU E28 rfl (by omega) rfl rfl rfl sd sd fun Rt35 => ?_
        refine vo_stM ?_
        try simp only [app_ints, app_intss, app_bools, appX_two]
        refine vo_done ⟨rfl, ?_⟩
        refine vb_any1 1 (by kernel_rfl) ?_
        refine sb_light 1 rfl rfl rfl (wnt_none rfl) (lb_load_var hC rfl rfl rfl rfl Try.underlying23 rfl rfl) ?_
        refine vb_light0 13 rfl rfl rfl (by kernel_rfl) (by kernel_rfl) (by kernel_rfl) (wnt_none rfl) (l0_index_ref rfl rfl rfl E23.und inf28 sz28 sd sd) ?_
        try simp only [Int.toNat_natCast]
        refine vb_one 14 rfl (by kernel_rfl) rfl ?_
        refine vo_totree 6 rfl (plain_ints _) ?_
        refine vo_stM ?_
        refine vo_weaktree 6 rfl ?_
        refine vo_stM ?_
        refine vo_put (p := .sl _ _ _) rfl rfl rfl rfl rfl rfl rfl hC rfl (by first | decide | (simp [refsOf]; done) | (simp [refsOf, SV.shift1, placeOf]; done)) inf28 sz28 sd ?_
        refine vo_stM ?_
        try simp only [List.set_set, set_intss]
        refine vo_done ⟨rfl, ?_⟩
        refine vb_nil (by kernel_rfl) ?_
        refine hK4 _ ?_
        refine vc_seq fun K36 hK36 => ?_
        refine vc_region ?_
        refine vo_load_varG rfl rfl rfl Try.underlying25 rfl inf25 sz25 rfl ?_
        refine vo_stM ?_
        refine vo_store_varG rfl rfl rfl rfl inf25 sz25 rfl ?_
        refine vo_stM ?_
        refine vo_nil ?_
        refine hK36 _ ?_
        refine vc_ret ?_
        change retQ _ _ _ _ _
        refine retQ_sel [2, 3] (srows := [_, _]) (.inr rfl) hC rfl rfl rfl rfl rfl rfl rfl ?_
        have hM := fun y => medX_of ⟨hb1, hb2, hb3⟩ ha1 ha2 hr1 hr2 x11.toNat y
        first
         | exact ⟨_, _, _, ⟨(hM y39).2.1, by omega⟩, rfl, rfl⟩
         | exact ⟨_, _, _, ⟨(hM 0).1, by omega⟩, rfl, rfl⟩
         | exact ⟨_, _, _, ⟨(hM 0).2.2, by omega⟩, rfl, rfl⟩
     ·refine sb_ext 11 rfl rfl (xt_buildSlice E28 rfl rfl rfl rfl) ?_
      refine vb_stM ?_
      refine vb_any2 1 7 (by kernel_rfl) ?_ ?_
      ·refine sb_light 1 rfl rfl rfl (wnt_none rfl) (lb_load_var hC rfl rfl rfl rfl Try.underlying23 rfl rfl) ?_
       refine vb_any1 7 (by kernel_rfl) ?_
       refine sb_extE 7 rfl (fun _ => rfl) (xt_load_take1 rfl rfl (by omega) Try.underlying28 rfl (getP (L := X.abs) [] (by omega))) fun Rf36 => ?_
       refine vb_stM ?_
       refine vb_treeown 7 (by omega) rfl ?_
       refine vb_stM ?_
       refine vb_one 12 rfl (by kernel_rfl) rfl ?_
       refine vo_appendU E28 rfl (by omega) rfl rfl rfl sd sd fun Rt36 => ?_
       refine vo_stM ?_
       try simp only [app_ints, app_intss, app_bools, appX_two]
       refine vo_done ⟨rfl, ?_⟩
       refine vb_light0 13 rfl rfl rfl (by kernel_rfl) (by kernel_rfl) (by kernel_rfl) (wnt_none rfl) (l0_index_ref rfl rfl rfl E23.und inf28 sz28 sd sd) ?_
       try simp only [Int.toNat_natCast]
       refine vb_one 14 rfl (by kernel_rfl) rfl ?_
       refine vo_totree 7 rfl (plain_ints _) ?_
       refine vo_stM ?_
       refine vo_weaktree 7 rfl ?_
       refine vo_stM ?_
       refine vo_put (p := .sl _ _ _) rfl rfl rfl rfl rfl rfl rfl hC rfl (by first | decide | (simp [refsOf]; done) | (simp [refsOf, SV.shift1, placeOf]; done)) inf28 sz28 sd ?_
       refine vo_stM ?_
       try simp only [List.set_set, set_intss]
       refine vo_done ⟨rfl, ?_⟩
       refine vb_nil (by kernel_rfl) ?_
       refine hK4 _ ?_
       refine vc_seq fun K37 hK37 => ?_
       refine vc_region ?_
       refine vo_load_varG rfl rfl rfl Try.underlying25 rfl inf25 sz25 rfl ?_
       refine vo_stM ?_
       refine vo_store_varG rfl rfl rfl rfl inf25 sz25 rfl ?_
       refine vo_stM ?_
       refine vo_nil ?_
       refine hK37 _ ?_
       refine vc_ret ?_
       change retQ _ _ _ _ _
       refine retQ_sel [2, 3] (srows := [_, _]) (.inr rfl) hC rfl rfl rfl rfl rfl rfl rfl ?_
       have hM := fun y => medX_of ⟨hb1, hb2, hb3⟩ ha1 ha2 hr1 hr2 x11.toNat y
       first
        | exact ⟨_, _, _, ⟨(hM y39).2.1, by omega⟩, rfl, rfl⟩
        | exact ⟨_, _, _, ⟨(hM 0).1, by omega⟩, rfl, rfl⟩
        | exact ⟨_, _, _, ⟨(hM 0).2.2, by omega⟩, rfl, rfl⟩
      ·refine sb_extE 7 rfl (fun _ => rfl) (xt_load_take1 rfl rfl (by omega) Try.underlying28 rfl (getP (L := X.abs) [] (by omega))) fun Rf36 => ?_
       refine vb_stM ?_
       refine vb_treeown 7 (by omega) rfl ?_
       refine vb_stM ?_
       refine vb_any2 1 12 (by kernel_rfl) ?_ ?_
       ·refine sb_light 1 rfl rfl rfl (wnt_none rfl) (lb_load_var hC rfl rfl rfl rfl Try.underlying23 rfl rfl) ?_
        refine vb_one 12 rfl (by kernel_rfl) rfl ?_
        refine vo_appendU E28 rfl (by omega) rfl rfl rfl sd sd fun Rt37 => ?_
        refine vo_stM ?_
        try simp only [app_ints, app_intss, app_bools, appX_two]
        refine vo_done ⟨rfl, ?_⟩
        refine vb_light0 13 rfl rfl rfl (by kernel_rfl) (by kernel_rfl) (by kernel_rfl) (wnt_none rfl) (l0_index_ref rfl rfl rfl E23.und inf28 sz28 sd sd) ?_
        try simp only [Int.toNat_natCast]
        refine vb_one 14 rfl (by kernel_rfl) rfl ?_
        refine vo_totree 7 rfl (plain_ints _) ?_
        refine vo_stM ?_
        refine vo_weaktree 7 rfl ?_
        refine vo_stM ?_
        refine vo_put (p := .sl _ _ _) rfl rfl rfl rfl rfl rfl rfl hC rfl (by first | decide | (simp [refsOf]; done) | (simp [refsOf, SV.shift1, placeOf]; done)) inf28 sz28 sd ?_
        refine vo_stM ?_
        try simp only [List.set_set, set_intss]
        refine vo_done ⟨rfl, ?_⟩
        refine vb_nil (by kernel_rfl) ?_
        refine hK4 _ ?_
        refine vc_seq fun K38 hK38 => ?_
        refine vc_region ?_
        refine vo_load_varG rfl rfl rfl Try.underlying25 rfl inf25 sz25 rfl ?_
        refine vo_stM ?_
        refine vo_store_varG rfl rfl rfl rfl inf25 sz25 rfl ?_
        refine vo_stM ?_
        refine vo_nil ?_
        refine hK38 _ ?_
        refine vc_ret ?_
        change retQ _ _ _ _ _
        refine retQ_sel [2, 3] (srows := [_, _]) (.inr rfl) hC rfl rfl rfl rfl rfl rfl rfl ?_
        have hM := fun y => medX_of ⟨hb1, hb2, hb3⟩ ha1 ha2 hr1 hr2 x11.toNat y
        first
         | exact ⟨_, _, _, ⟨(hM y39).2.1, by omega⟩, rfl, rfl⟩
         | exact ⟨_, _, _, ⟨(hM 0).1, by omega⟩, rfl, rfl⟩
         | exact ⟨_, _, _, ⟨(hM 0).2.2, by omega⟩, rfl, rfl⟩
       ·refine sb_one 12 rfl (by kernel_rfl) ?_
        refine vo_appendU E28 rfl (by omega) rfl rfl rfl sd sd fun Rt38 => ?_
        refine vo_stM ?_
        try simp only [app_ints, app_intss, app_bools, appX_two]
        refine vo_done ⟨rfl, ?_⟩
        refine vb_any1 1 (by kernel_rfl) ?_
        refine sb_light 1 rfl rfl rfl (wnt_none rfl) (lb_load_var hC rfl rfl rfl rfl Try.underlying23 rfl rfl) ?_
        refine vb_light0 13 rfl rfl rfl (by kernel_rfl) (by kernel_rfl) (by kernel_rfl) (wnt_none rfl) (l0_index_ref rfl rfl rfl E23.und inf28 sz28 sd sd) ?_
        try simp only [Int.toNat_natCast]
        refine vb_one 14 rfl (by kernel_rfl) rfl ?_
        refine vo_totree 7 rfl (plain_ints _) ?_
        refine vo_stM ?_
        refine vo_weaktree 7 rfl ?_
        refine vo_stM ?_
        refine vo_put (p := .sl _ _ _) rfl rfl rfl rfl rfl rfl rfl hC rfl (by first | decide | (simp [refsOf]; done) | (simp [refsOf, SV.shift1, placeOf]; done)) inf28 sz28 sd ?_
        refine vo_stM ?_
        try simp only [List.set_set, set_intss]
        refine vo_done ⟨rfl, ?_⟩
        refine vb_nil (by kernel_rfl) ?_
        refine hK4 _ ?_
        refine vc_seq fun K39 hK39 => ?_
        refine vc_region ?_
        refine vo_load_varG rfl rfl rfl Try.underlying25 rfl inf25 sz25 rfl ?_
        refine vo_stM ?_
        refine vo_store_varG rfl rfl rfl rfl inf25 sz25 rfl ?_
        refine vo_stM ?_
        refine vo_nil ?_
        refine hK39 _ ?_
        refine vc_ret ?_
        change retQ _ _ _ _ _
        refine retQ_sel [2, 3] (srows := [_, _]) (.inr rfl) hC rfl rfl rfl rfl rfl rfl rfl ?_
        have hM := fun y => medX_of ⟨hb1, hb2, hb3⟩ ha1 ha2 hr1 hr2 x11.toNat y
        first
         | exact ⟨_, _, _, ⟨(hM y39).2.1, by omega⟩, rfl, rfl⟩
         | exact ⟨_, _, _, ⟨(hM 0).1, by omega⟩, rfl, rfl⟩
         | exact ⟨_, _, _, ⟨(hM 0).2.2, by omega⟩, rfl, rfl⟩
  ·try simp only [zq0, zq1, zq2, zq3, zq4, zq5, zq6, zq7, zq8, zq9, zqa, zqb, zqc, zqd, zqe, zqf] at hc2
   refine vc_skip ?_
   refine hK4 _ ?_
   refine vc_seq fun K40 hK40 => ?_
   refine vc_region ?_
   refine vo_load_varG rfl rfl rfl Try.underlying25 rfl inf25 sz25 rfl ?_
   refine vo_stM ?_
   refine vo_store_varG rfl rfl rfl rfl inf25 sz25 rfl ?_
   refine vo_stM ?_
   refine vo_nil ?_
   refine hK40 _ ?_
   refine vc_ret ?_
   change retQ _ _ _ _ _
   refine retQ_sel [2, 3] (srows := [_, _]) (.inr rfl) hC rfl rfl rfl rfl rfl rfl rfl ?_
   have hM := fun y => medX_of ⟨hb1, hb2, hb3⟩ ha1 ha2 hr1 hr2 x11.toNat y
   first
    | exact ⟨_, _, _, ⟨(hM y39).2.1, by omega⟩, rfl, rfl⟩
    | exact ⟨_, _, _, ⟨(hM 0).1, by omega⟩, rfl, rfl⟩
    | exact ⟨_, _, _, ⟨(hM 0).2.2, by omega⟩, rfl, rfl⟩

end Go.Vl

namespace Go.Vl
set_option linter.unusedVariables false
set_option linter.unusedSimpArgs false
open Go.Proofs

theorem join_sat {nl0 : Option Bool} {a : List Int} {nl1 : Option Bool} {b : List Int} (ha : a.length < 1000000000) (hb : b.length < 1000000000)  : SatAt Try.prog 18 [.pv false (.sl nl0 1 (a.map intP)), .pv false (.sl nl1 1 (b.map intP))] [] (fun res rows => ∃ nl, res = [.ref 0] ∧ rows = [Row.own 3 1 nl true ((a ++ b).map intP)]) := by
 refine sat_entry_G (rs := [(4, none)]) Try.func18 rfl rfl (Nat.le_of_ble_eq_true rfl) (Nat.le_of_ble_eq_true rfl) (resTs1 trivial) fun C hC => ?_
 rw [Try.ntmps18]
 replace hC : C.nb = 0 := hC
 refine vc_seq fun K1 hK1 => ?_
 refine vc_region ?_
 refine vo_assign_pv rfl rfl ?_
 refine vo_nil ?_
 refine hK1 _ ?_
 refine vc_seq fun K2 hK2 => ?_
 refine vc_region ?_
 refine vo_buildSlice E28 rfl rfl rfl rfl rfl ?_
 refine vo_stM ?_
 refine vo_move_pv rfl rfl ?_
 refine vo_append E28 rfl (by omega) rfl rfl rfl sd sd ?_
 refine vo_stM ?_
 try simp only [app_ints, app_intss, app_bools, ← List.map_append, List.nil_append]
 refine vo_move_pv rfl rfl ?_
 refine vo_append E28 rfl (by omega) rfl rfl rfl sd sd ?_
 refine vo_stM ?_
 try simp only [app_ints, app_intss, app_bools, ← List.map_append, List.nil_append]
 refine vo_assign_ref rfl rfl ?_
 refine vo_nil ?_
 refine hK2 _ ?_
 refine vc_clean 0 rfl (scal_ints _) ?_
 refine vc_stM ?_
 refine vc_ret ?_
 change retQ _ _ _ _ _
 refine retQ_sel [0] (srows := [_]) (.inr rfl) hC rfl rfl rfl rfl rfl rfl rfl ?_
 exact ⟨_, rfl, rfl⟩

theorem DrawValidWorks_sat {nl : Option Bool} {c : List (Fin 256)} (hl : c.length < 1000000000) : SatAt Try.prog 15 [.pv false (.sl nl 1 (c.map byteP))] [] (fun res rows => ∃ (X : WorksM) (f : Bool), medX X ∧ res = [.pv f (worksP X)] ∧ rows = []) := by
 refine sat_entry_G (rs := [(2, some (25, 3))]) Try.func15 rfl rfl (Nat.le_of_ble_eq_true rfl) (Nat.le_of_ble_eq_true rfl) (resTs1 ⟨_, _, Try.underlying25, rfl, inf25, sz25⟩) fun C hC => ?_
 rw [Try.ntmps15]
 replace hC : C.nb = 0 := hC
 refine vc_seq fun K1 hK1 => ?_
 refine vc_region ?_
 refine vo_alloc Z25 rfl ?_
 refine vo_stM ?_
 refine vo_nil ?_
 refine hK1 _ ?_
 refine vc_seq fun K2 hK2 => ?_
 refine vc_region ?_
 refine vo_move_pv rfl rfl ?_
 refine vo_call [] Try.func56 rfl rfl rfl rfl rfl rfl rfl (newReader_sat (by omega)) ?_
 rintro _ _ ⟨nl2, c2, hc, rfl, rfl⟩
 refine ⟨Nat.le_of_ble_eq_true rfl, ⟨rfl, rfl, rfl, rfl⟩, .inl rfl, ?_⟩
 refine vo_stM ?_
 refine vo_call [1] Try.func55 rfl rfl rfl rfl rfl rfl rfl (anyWorks_sat hc (by omega)) ?_
 rintro _ _ ⟨X, q, f, ⟨hX, hq⟩, rfl, rfl⟩
 refine ⟨Nat.le_of_ble_eq_true rfl, ⟨rfl, rfl, rfl, rfl⟩, .inl rfl, ?_⟩
 refine vo_stM ?_
 refine vo_store_varG rfl rfl rfl rfl inf25 sz25 rfl ?_
 refine vo_stM ?_
 refine vo_nil ?_
 refine hK2 _ ?_
 refine vc_treeown 2 (by omega) rfl ?_
 refine vc_stM ?_
 refine vc_expose 2 (by omega) rfl ?_
 refine vc_stM ?_
 refine vc_treeown 3 (by omega) rfl ?_
 refine vc_stM ?_
 refine vc_expose 3 (by omega) rfl ?_
 refine vc_stM ?_
 refine vc_ret ?_
 change retQ _ _ _ _ _
 refine retQ_sel [] (srows := []) (.inr rfl) hC rfl rfl rfl rfl rfl rfl rfl ?_
 exact ⟨X, _, hX, rfl, rfl⟩


end Go.Vl

namespace Go.Vl
set_option linter.unusedVariables false
set_option linter.unusedSimpArgs false
open Go.Proofs

end Go.Vl

/- Arguments of which less is said: what a contract says of those holds of them. -/
namespace Go.Vl
set_option linter.unusedVariables false
set_option linter.unusedSimpArgs false
open Go.RowKit

mutual
def PV.wk : PV → PV
  | .sl _ e xs => .sl none e (PV.wks xs)
  | .agg cs => .agg (PV.wks cs)
  | p => p
def PV.wks : List PV → List PV
  | [] => []
  | x :: xs => x.wk :: PV.wks xs
end
theorem PV.wks_map : ∀ l : List PV, PV.wks l = l.map PV.wk
  | [] => by simp [PV.wks]
  | x :: l => by simp [PV.wks, PV.wks_map l]
theorem PV.wk_sl (nl : Option Bool) (e : Nat) (xs : List PV) : (PV.sl nl e xs).wk = .sl none e (xs.map PV.wk) := by simp [PV.wk, PV.wks_map]
theorem PV.wk_agg (cs : List PV) : (PV.agg cs).wk = .agg (cs.map PV.wk) := by simp [PV.wk, PV.wks_map]
theorem PV.wk_int (k : IntKind) (n : Int) : (PV.int k n).wk = .int k n := by simp [PV.wk]
theorem PV.wk_bool (b : Bool) : (PV.bool b).wk = .bool b := by simp [PV.wk]
theorem PV.wk_isAgg (p : PV) : p.wk.isAgg = p.isAgg := by cases p <;> simp [PV.wk, PV.isAgg]
theorem PV.wk_cells (p : PV) : p.wk.cells = p.cells.map PV.wk := by
  cases p <;> simp [PV.wk, PV.cells, PV.wks_map]
theorem PV.wk_fits {p : PV} {e : Nat} (h : p.fits e) : p.wk.fits e := by
  refine ⟨by rw [PV.wk_cells, List.length_map]; exact h.1, fun j c hc => ?_⟩
  rw [PV.wk_cells] at hc
  simp only [List.getElem?_map, Option.map_eq_some_iff] at hc
  obtain ⟨c', hc', rfl⟩ := hc
  rw [PV.wk_isAgg]; exact h.2 j c' hc'
theorem RP.wk {w : World} {G : Nat → Prop} {p : PV} {v : Value} (h : RP w G p v) : RP w G p.wk v := by
  induction h with
  | int k n => rw [PV.wk_int]; exact .int k n
  | bool b => rw [PV.wk_bool]; exact .bool b
  | str s => simp only [PV.wk]; exact .str s
  | nilsl nl e h => rw [PV.wk_sl]; exact .nilsl none e (by simp)
  | sl nl e xs a len cap f h hs hl hcap hg hw hc hr ih =>
    rw [PV.wk_sl]
    refine .sl none e _ a len cap f (by simp) (fun h => hs (by simpa using h)) (by simpa using hl) hcap (fun h => hg (by simpa using h)) (fun i x hx => ?_) (fun i x j c hx hcj => ?_) (fun i x j c hx hcj => ?_)
    · simp only [List.getElem?_map, Option.map_eq_some_iff] at hx
      obtain ⟨x', hx', rfl⟩ := hx
      exact PV.wk_fits (hw i x' hx')
    · simp only [List.getElem?_map, Option.map_eq_some_iff] at hx
      obtain ⟨x', hx', rfl⟩ := hx
      rw [PV.wk_cells] at hcj
      simp only [List.getElem?_map, Option.map_eq_some_iff] at hcj
      obtain ⟨c', hc', rfl⟩ := hcj
      exact hc i x' j c' hx' hc'
    · simp only [List.getElem?_map, Option.map_eq_some_iff] at hx
      obtain ⟨x', hx', rfl⟩ := hx
      rw [PV.wk_cells] at hcj
      simp only [List.getElem?_map, Option.map_eq_some_iff] at hcj
      obtain ⟨c', hc', rfl⟩ := hcj
      exact ih i x' j c' hx' hc'
  | agg cs vs hl h1 h ih =>
    rw [PV.wk_agg]
    refine .agg _ vs (by simpa using hl) (fun j c hc => ?_) (fun j c v hc hv => ?_)
    · simp only [List.getElem?_map, Option.map_eq_some_iff] at hc
      obtain ⟨c', hc', rfl⟩ := hc
      rw [PV.wk_isAgg]; exact h1 j c' hc'
    · simp only [List.getElem?_map, Option.map_eq_some_iff] at hc
      obtain ⟨c', hc', rfl⟩ := hc
      exact ih j c' v hc' hv
  | gone v h => simp only [PV.wk]; exact .gone v h
  | ifc t p v h ih => simp only [PV.wk]; exact .ifc t p v h
  | nilifc => simp only [PV.wk]; exact .nilifc
  | fn f cs us a g hl hp hg h1 hc hr => simp only [PV.wk]; exact .fn f cs us a g hl hp hg h1 hc hr

def SV.wk : SV → SV
  | .pv f p => .pv f p.wk
  | s => s

theorem SatAt.wk {P : Program} {f : FuncId} {args args2 : List SV} {rows : List Row} {R : List SV → List Row → Prop} (e : args.map SV.wk = args2) (h : SatAt P f args2 rows R) : SatAt P f args rows R := by
  subst e
  intro C m vals hnb hA hv hs
  refine h C m vals hnb hA (by simpa using hv) { hs with env := fun t => ?_ }
  have := hs.env t
  show RS _ _ _ _ (look (enumE 0 (args.map SV.wk)) t) _
  change RS _ _ _ _ (look (enumE 0 args) t) _ at this
  rw [look_enumE] at this ⊢
  simp only [Nat.zero_le, if_true, Nat.sub_zero, List.getElem?_map] at this ⊢
  cases ht : args[t]? with
  | none => rw [ht] at this; simpa using this
  | some x =>
    rw [ht] at this
    simp only [Option.getD_some, Option.map_some] at this ⊢
    generalize vals.getD t undef = v at this ⊢
    cases this with
    | pv fr p v hp => exact .pv _ _ _ hp.wk
    | any v => exact .any v
    | val u => exact .val _
    | und => exact .und
    | ref id h => exact .ref id h
    | ptr id e i o b hid h => exact .ptr id e i o b hid h
    | adr fr cs a f hs hg h1 hc hr => exact .adr fr cs a f hs hg h1 hc hr
    | tup vs us hl h => exact .tup vs us hl h
    | ag vs us hl h h1 => exact .ag vs us hl h h1
    | sub id e l h c v hid hs => exact .sub id e l h c _ hid hs
    | clo f ids us hl h => exact .clo f ids us hl h
end Go.Vl

/- An operation that makes memory, under a guard; 'make' in a statement whose order of evaluation is open. -/
namespace Go.Vl
set_option linter.unusedVariables false
set_option linter.unusedSimpArgs false
open Go.RowKit
section
variable {late : List Nat} {P : Program} {C : Ctx} {ops : Array Oper} {K : St → Prop} {s s1 : St} {n : Nat} {listed : Array Bool}
theorem sb_extG (i : Nat) {t : Nat} {op : Op} {ty : TypeId} {pos : String} {af : Array Edge} {gd : Option (Nat × Bool)} {sv : SV} (hi : ops[i]? = some ⟨some t, op, ty, pos, af, gd⟩) (ht : Nat.blt t s1.n = true) (hw : Wnt C ops s ⟨some t, op, ty, pos, af, gd⟩ true)
    (hx : Xt P C s ⟨some t, op, ty, pos, af, none⟩ s1 sv) (next : VLB late P C ops n (listed.setIfInBounds i true) K (s1.put t sv)) : StepB late P C ops n listed K s i := by
  intro m a w hs
  obtain ⟨v, w', m', h1, h2, h3, h4⟩ := hx m a w hs
  unfold wpOp
  simp only [hi]
  rw [if_pos (hw m a w hs)]
  left
  unfold Oper.wp
  have h1' : (execOp a.eval ⟨some t, op, ty, pos, af, gd⟩).run P w = .ok (.value v) w' := h1
  rw [h1', Oper.upon_value]
  exact ⟨.inl h4.toB, next m' _ _ (h2.put (blt_lt ht) h3)⟩
end
section
variable {P : Program} {C : Ctx} {s : St} {t : Nat} {ty : TypeId} {pos : String} {af : Array Edge}
theorem xt_make {x y : Operand} {T el e by' : Nat} {d : PV} {f1 f2 : Bool} {k1 k2 : IntKind} {n : Int} (hI : ElInfo P T el e by' d)
    (hx : getO s.env x = .pv f1 (.int k1 n)) (hy : getO s.env y = .pv f2 (.int k2 n)) (h0 : 0 ≤ n) (hby : by' * n.toNat ≤ 281474976710656) (hmx : n ≤ 9223372036854775807) :
    Xt P C s ⟨some t, .makeSlice T x y, ty, pos, af, none⟩ { s with rows := s.rows ++ [.own el e (some false) true (List.replicate n.toNat d)] } (.ref s.rows.length) := by
  intro m a w hs
  obtain ⟨hT, ⟨inf, z, hinf, hsz, hbytes, hz, hzs, hzr⟩, hdf, he⟩ := hI
  obtain ⟨k, rfl⟩ := Int.eq_ofNat_of_zero_le h0
  simp only [Int.toNat_natCast] at *
  have e1 := hs.int hx
  have e2 := hs.int hy
  obtain ⟨w', hrun, hown, hg⟩ := run_make_full (P := P) (w := w) 0 T el inf z e hT hinf hz hsz k1 k2 k (by rw [hbytes]; exact hby) (by simp only [maxLen]; omega) (Nat.zero_le _)
  have hadd := hs.addRow (w' := w') hg (.own el e (some false) true (List.replicate k d)) (.of <| .slice (some ⟨w.heap.size, 0, none⟩) k k)
    (fun b hb => by simp [MV.of, blk] at hb; omega) (fun hG => ?_)
  · refine ⟨.slice (some ⟨w.heap.size, 0, none⟩) k k, w', _, by simp [execOp, e1, e2, hrun], hadd.1, ?_, hg.size, fun k hk => hg.block k hk (by simp)⟩
    have := RS.ref (w := w') (G := Gd C (s.rows ++ [.own el e (some false) true (List.replicate k d)]) (updM m s.rows.length (.of <| .slice (some ⟨w.heap.size, 0, none⟩) k k)) w')
      (m := updM m s.rows.length (.of <| .slice (some ⟨w.heap.size, 0, none⟩) k k)) (N := (s.rows ++ [Row.own el e (some false) true (List.replicate k d)]).length) s.rows.length (by simp)
    rw [updM_same] at this
    exact this
  · refine .own _ el e _ true _ (madeCells z.cells (k * e)).toList (by simpa using hown) (fun h => by cases h) (fun _ h => by cases h) (fun i x hx => ?_) (fun i x j c hx hc => ?_)
    · rw [List.getElem?_replicate] at hx
      split at hx
      · cases hx; exact hdf
      · cases hx
    · rw [List.getElem?_replicate] at hx
      split at hx
      · rename_i hi
        cases hx
        have hj : j < e := by rw [← hdf.1]; exact (List.getElem?_eq_some_iff.1 hc).1
        have hlt : i * e + j < k * e := by
          have := Nat.mul_le_mul_right e (show i + 1 ≤ k by omega)
          rw [Nat.add_mul] at this
          omega
        have e2 : (i * e + j) % e = j := by rw [Nat.add_comm, Nat.add_mul_mod_self_right]; exact Nat.mod_eq_of_lt hj
        obtain ⟨u, hu, hp⟩ := (hzr w' (Gd C (s.rows ++ [.own el e (some false) true (List.replicate k d)]) (updM m s.rows.length (.of <| .slice (some ⟨w.heap.size, 0, none⟩) k k)) w' true)).cells.2 j c hc
        refine ⟨u, ?_, hp⟩
        simp only [madeCells, Array.getElem?_toList, Array.getElem?_map, Array.getElem?_range, hlt, if_true, Option.map_some, hzs, e2]
        rw [← hu]
        have hjs : j < z.cells.size := by rw [hzs]; exact hj
        simp [hjs]
      · cases hx

end
end Go.Vl

namespace Go.Vl
set_option linter.unusedVariables false
set_option linter.unusedSimpArgs false
open Go.Proofs

def mkReal (X : WorksM) (k : Nat) : List (List Int) := (List.range k).map fun i => X.real.getD i [] ++ X.abs.getD i []
theorem mkReal_len (X : WorksM) (k : Nat) : (mkReal X k).length = k := by simp [mkReal]
theorem mkReal_succ (X : WorksM) (k : Nat) : mkReal X (k + 1) = mkReal X k ++ [X.real.getD k [] ++ X.abs.getD k []] := by simp [mkReal, List.range_succ]
theorem mkReal_get {X : WorksM} {k i : Nat} (h : i < k) : (mkReal X k).getD i [] = X.real.getD i [] ++ X.abs.getD i [] := by simp [mkReal, List.getD, h]
def madeW (X : WorksM) : WorksM := ⟨X.bases, List.replicate X.bases.length [], mkReal X X.bases.length⟩
theorem rep_getD (n i : Nat) : (List.replicate n ([] : List Int)).getD i [] = [] := by
  simp only [List.getD, List.getElem?_replicate]; split <;> rfl
theorem madeW_v {X : WorksM} (h : VWorks X) : VWorks (madeW X) := by
  refine ⟨h.1, by simp [madeW], mkReal_len _ _, fun i hi => ?_⟩
  have h1 := h.2.2.2 i hi
  show okWk ((List.replicate X.bases.length ([] : List Int)).getD i []) ((mkReal X X.bases.length).getD i [])
  rw [rep_getD, mkReal_get (show i < X.bases.length from hi)]
  unfold okWk at h1 ⊢
  rw [List.nil_append]
  have hp : (X.real.getD i [] ++ X.abs.getD i []).Perm (X.abs.getD i [] ++ X.real.getD i []) := List.perm_append_comm
  exact ⟨hp.nodup_iff.2 h1.1, fun n hn => h1.2 n (hp.mem_iff.1 hn)⟩
theorem madeW_sk {X : WorksM} (h : medX X) : SK (madeW X) := by
  obtain ⟨⟨h0, h1, h2⟩, ⟨h3, h4⟩, h5, h6⟩ := h
  refine ⟨⟨by show X.bases.length ≤ _; omega, fun l hl => by have := h2 l hl; omega⟩, ⟨by simp [madeW]; omega, fun l hl => by rw [(List.mem_replicate.1 hl).2]; simp⟩, by show (mkReal X X.bases.length).length ≤ _; rw [mkReal_len]; omega, fun l hl => ?_⟩
  obtain ⟨i, _, rfl⟩ := List.mem_map.1 hl
  have a1 := getD_all (p := fun l : List Int => l.length ≤ 7) h4 [] (by simp) i
  have a2 := getD_all (p := fun l : List Int => l.length ≤ 7) h6 [] (by simp) i
  rw [List.length_append]; omega
theorem isAbs_none {A R : List (List Int)} {n : Int} {o : List Int} (h : ∀ x ∈ o, A.getD x.toNat [] = []) : isAbs A R n o = false := by
  cases h9 : isAbs A R n o with
  | false => rfl
  | true =>
    obtain ⟨p, d, q, ho, hd, _⟩ := isAbs_iff.1 h9
    rw [h d (by rw [ho]; simp)] at hd
    cases hd
theorem selI_none {p : Int → Bool} {k : Nat} (h : ∀ n, p n = false) : selI p k = [] := by
  unfold selI
  rw [List.filter_eq_nil_iff]
  intro n _
  rw [h n]; simp
theorem madeW_can {X : WorksM} (h : VWorks X) : (absM (madeW X) 0).length = 0 := by
  unfold absM
  split
  · have h9 : ∀ n, absP (madeW X) (Int.toNat 0) n = false := fun n => isAbs_none fun x _ => rep_getD _ _
    rw [selI_none h9]; rfl
  · rfl
theorem madeW_cm {X : WorksM} (h : VWorks X) : (VWorks (madeW X) ∧ (0 : Int) ≤ 0 ∧ (0 : Int) ≤ ((madeW X).bases.length : Int) - 1) ∧ (absM (madeW X) 0).length = 0 := by
  have := h.1.1.1
  exact ⟨⟨madeW_v h, by omega, by show (0 : Int) ≤ (X.bases.length : Int) - 1; omega⟩, madeW_can h⟩
theorem wk_intsX (l : List (List Int)) : (l.map ints).map PV.wk = l.map ints := by
  rw [List.map_map]; refine List.map_congr_left fun x _ => ?_
  simp only [Function.comp, PV.wk_sl, List.map_map]
  congr 1
theorem wk_reps (n : Nat) : (List.replicate n (PV.sl (some true) 1 [])).map PV.wk = (List.replicate n ([] : List Int)).map ints := by
  rw [List.map_replicate, List.map_replicate]; congr 1
theorem FnValidWorks_sat {nl : Option Bool} {code : List (Fin 256)} : SatAt Try.prog 3 [.pv false (.sl nl 1 (code.map byteP))] [] (fun res rows => res = [bo true] ∧ rows = []) := by
 refine sat_entry_G (rs := [(2, none)]) Try.func3 rfl rfl (Nat.le_of_ble_eq_true rfl) (Nat.le_of_ble_eq_true rfl) (resTs1 trivial) fun C hC => ?_
 rw [Try.ntmps3]
 replace hC : C.nb = 0 := hC
 refine vc_seq fun K1 hK1 => ?_
 refine vc_region ?_
 refine vo_assign_pv rfl rfl ?_
 refine vo_nil ?_
 refine hK1 _ ?_
 refine vc_seq fun K2 hK2 => ?_
 refine vc_seq fun K3 hK3 => ?_
 refine vc_region ?_
 refine vo_move_pv rfl rfl ?_
 refine vo_len_pv rfl rfl Try.underlying22 ?_
 refine vo_binI rfl rfl rfl rfl trivial ?_
 refine vo_nil ?_
 refine hK3 _ ?_
 refine vc_cond rfl (fun hc1 => ?_) (fun hc1 => ?_)
 ·try simp only [zq0, zq1, zq2, zq3, zq4, zq5, zq6, zq7, zq8, zq9, zqa, zqb, zqc, zqd, zqe, zqf] at hc1
  refine vc_seq fun K4 hK4 => ?_
  refine vc_region ?_
  refine vo_assign_pv rfl rfl ?_
  refine vo_nil ?_
  refine hK4 _ ?_
  refine vc_ret ?_
  (try clear hK4); (try clear hK3); (try clear hK2); (try clear hK1)
  change retQ _ _ _ _ _
  refine retQ_sel [] (srows := []) (.inr rfl) hC rfl rfl rfl rfl rfl rfl rfl ?_
  first | exact ⟨rfl, rfl⟩ | (exfalso; simp_all; done) | (exfalso; omega) | (refine ⟨(congrArg (fun b => [bo b]) (?_ : _ = true) : [bo _] = [bo true]), rfl⟩; first | simp_all | (simp; omega))
 ·try simp only [zq0, zq1, zq2, zq3, zq4, zq5, zq6, zq7, zq8, zq9, zqa, zqb, zqc, zqd, zqe, zqf] at hc1
  refine vc_skip ?_
  refine hK2 _ ?_
  refine vc_seq fun K5 hK5 => ?_
  refine vc_region ?_
  refine vo_move_pv rfl rfl ?_
  refine vo_call0 Try.func15 rfl rfl rfl rfl (DrawValidWorks_sat (by omega)) ?_
  rintro _ _ ⟨X, f, hX, rfl, rfl⟩
  refine ⟨rfl, rfl, .inl rfl, ?_⟩
  refine vo_stM ?_
  have hX2 := hX
  obtain ⟨⟨hb1, hb2, hb3⟩, ⟨ha1, ha2⟩, hr1, hr2⟩ := hX2
  refine vo_alloc Z25 rfl ?_
  refine vo_stM ?_
  refine vo_store_varS rfl rfl rfl inf25 sz25 rfl ?_
  refine vo_stM ?_
  refine vo_nil ?_
  refine hK5 _ ?_
  refine vc_seq fun K6 hK6 => ?_
  refine vc_region ?_
  refine vo_load_varS rfl rfl rfl Try.underlying25 rfl inf25 sz25 rfl rfl ?_
  refine vo_call0 Try.func16 rfl rfl rfl rfl (implValidWorks_sat hX.sk) ?_
  rintro _ _ ⟨rfl, rfl⟩
  refine ⟨rfl, rfl, .inl rfl, ?_⟩
  refine vo_stM ?_
  refine vo_assign_pv rfl rfl ?_
  refine vo_nil ?_
  refine hK6 _ ?_
  refine vc_seq fun K7 hK7 => ?_
  refine vc_seq fun K8 hK8 => ?_
  refine vc_region ?_
  refine vo_move_pv rfl rfl ?_
  refine vo_load_varS rfl rfl rfl Try.underlying25 rfl inf25 sz25 rfl rfl ?_
  refine vo_call0 Try.func17 rfl rfl rfl rfl (specValidWorks_sat hX.sk) ?_
  rintro _ _ ⟨rfl, rfl⟩
  refine ⟨rfl, rfl, .inl rfl, ?_⟩
  refine vo_stM ?_
  refine vo_binB rfl rfl rfl rfl Try.underlying4 ?_
  refine vo_move_pv rfl rfl ?_
  refine vo_split 18 rfl (fun hg2 => ?_) (fun hg2 => ?_)
  ·try simp only [zq0, zq1, zq2, zq3, zq4, zq5, zq6, zq7, zq8, zq9, zqa, zqb, zqc, zqd, zqe, zqf] at hg2
   exact absurd trivial hg2
  ·try simp only [zq0, zq1, zq2, zq3, zq4, zq5, zq6, zq7, zq8, zq9, zqa, zqb, zqc, zqd, zqe, zqf] at hg2
   refine vo_guard_on rfl rfl rfl ?_
   refine vo_move_pv rfl rfl ?_
   refine vo_guard_on rfl rfl rfl ?_
   refine vo_not rfl rfl ?_
   refine vo_pick_f rfl rfl ?_
   refine vo_nil ?_
   refine hK8 _ ?_
   refine vc_cond rfl (fun hc3 => ?_) (fun hc3 => ?_)
   ·try simp only [zq0, zq1, zq2, zq3, zq4, zq5, zq6, zq7, zq8, zq9, zqa, zqb, zqc, zqd, zqe, zqf] at hc3
    refine vc_seq fun K9 hK9 => ?_
    refine vc_region ?_
    refine vo_move_pv rfl rfl ?_
    refine vo_load_varS rfl rfl rfl Try.underlying25 rfl inf25 sz25 rfl rfl ?_
    refine vo_call0 Try.func17 rfl rfl rfl rfl (specValidWorks_sat hX.sk) ?_
    rintro _ _ ⟨rfl, rfl⟩
    refine ⟨rfl, rfl, .inl rfl, ?_⟩
    refine vo_stM ?_
    refine vo_binB rfl rfl rfl rfl Try.underlying4 ?_
    refine vo_assign_pv rfl rfl ?_
    refine vo_nil ?_
    refine hK9 _ ?_
    refine vc_ret ?_
    (try clear hK9); (try clear hK8); (try clear hK7); (try clear hK6); (try clear hK5); (try clear hK4); (try clear hK3); (try clear hK2); (try clear hK1)
    change retQ _ _ _ _ _
    refine retQ_sel [] (srows := []) (.inr rfl) hC rfl rfl rfl rfl rfl rfl rfl ?_
    first | exact ⟨rfl, rfl⟩ | (exfalso; simp_all; done) | (exfalso; omega) | (refine ⟨(congrArg (fun b => [bo b]) (?_ : _ = true) : [bo _] = [bo true]), rfl⟩; first | simp_all | (simp; omega))
   ·try simp only [zq0, zq1, zq2, zq3, zq4, zq5, zq6, zq7, zq8, zq9, zqa, zqb, zqc, zqd, zqe, zqf] at hc3
    refine vc_skip ?_
    refine hK7 _ ?_
    refine vc_seq fun K10 hK10 => ?_
    refine vc_drawB [8] (by kernel_rfl) ?_
    change VLB [8] _ _ _ 9 _ _ _
    refine vb_light0 0 rfl rfl rfl (by kernel_rfl) (by kernel_rfl) (by kernel_rfl) (wnt_none rfl) (l0_fieldAddr_ptr rfl Try.underlying25 rfl inf23 (by rw [sz23]; decide)) ?_
    try simp only [Nat.zero_add]
    refine vb_light 1 [0, 2, 3, 4, 5, 7] rfl rfl rfl (by kernel_rfl) (by kernel_rfl) (by kernel_rfl) (by kernel_rfl) (by kernel_rfl) (wnt_none rfl) (lb_load_var hC rfl rfl rfl rfl Try.underlying23 rfl rfl) ?_
    refine vb_light0 2 rfl rfl rfl (by kernel_rfl) (by kernel_rfl) (by kernel_rfl) (wnt_none rfl) (l0_fieldAddr_ptr rfl Try.underlying25 rfl inf23 (by rw [sz23]; decide)) ?_
    try simp only [Nat.zero_add]
    refine vb_light 3 [0, 1, 2, 7] rfl rfl rfl (by kernel_rfl) (by kernel_rfl) (by kernel_rfl) (by kernel_rfl) (by kernel_rfl) (wnt_none rfl) (lb_load_var hC rfl rfl rfl rfl Try.underlying23 rfl rfl) ?_
    refine vb_light0 4 rfl rfl rfl (by kernel_rfl) (by kernel_rfl) (by kernel_rfl) (wnt_none rfl) (l0_len_pv rfl Try.underlying23) ?_
    refine vb_any2 5 7 (by kernel_rfl) ?_ ?_
    ·refine sb_extG 5 rfl rfl (wnt_none rfl) (xt_make E23 rfl rfl sd sd sd) ?_
     refine vb_light0 6 rfl rfl rfl (by kernel_rfl) (by kernel_rfl) (by kernel_rfl) (wnt_none rfl) (l0_buildG S25n rfl rfl) ?_
     refine vb_stM ?_
     refine vb_ext 7 rfl (by kernel_rfl) rfl (xt_alloc Z25) ?_
     refine vb_stM ?_
     refine vb_one 8 rfl (by kernel_rfl) rfl ?_
     refine vo_store_varG rfl rfl rfl rfl inf25 sz25 rfl ?_
     refine vo_stM ?_
     refine vo_done ⟨rfl, ?_⟩
     refine vb_nil (by kernel_rfl) ?_
     refine hK10 _ ?_
     refine vc_seq fun K11 hK11 => ?_
     refine vc_seq fun K12 hK12 => ?_
     refine vc_region ?_
     refine vo_assign_pv rfl rfl ?_
     refine vo_nil ?_
     refine hK12 _ ?_
     refine vc_block ?_
     refine vc_own_cell 2 2 E23 rfl rfl ?_
     refine vc_stM ?_
     refine vc_stM ?_
     refine vc_loopE [3, 5] [6] [3] _ _ (fun mz vs rs => ∃ (k : Nat), mz = X.bases.length - k ∧ (k ≤ X.bases.length) ∧ vs = [i64 k] ∧ rs = [Row.own 28 1 none true ((mkReal X k).map ints)]) (X.bases.length) rfl rfl (le_len hC rfl) ⟨rfl, rfl, rfl⟩ rfl ⟨0, rfl, (Nat.zero_le _), rfl, rfl⟩ ?_
     rintro mz vs rs - - ⟨k, rfl, hk, rfl, rfl⟩
     refine vc_stM ?_
     refine vc_seq fun K13 hK13 => ?_
     refine vc_seq fun K14 hK14 => ?_
     refine vc_region ?_
     refine vo_move_pv rfl rfl ?_
     refine vo_fieldAddr_ptr rfl rfl Try.underlying25 rfl inf23 (by rw [sz23]; decide) ?_
     try simp only [Nat.zero_add]
     refine vo_load_var rfl rfl rfl Try.underlying23 rfl rfl ?_
     refine vo_len_pv rfl rfl Try.underlying23 ?_
     refine vo_binI rfl rfl rfl rfl trivial ?_
     refine vo_nil ?_
     refine hK14 _ ?_
     refine vc_cond rfl (fun hc4 => ?_) (fun hc4 => ?_)
     ·try simp only [zq0, zq1, zq2, zq3, zq4, zq5, zq6, zq7, zq8, zq9, zqa, zqb, zqc, zqd, zqe, zqf] at hc4
      have hak := getD_all (p := fun l : List Int => l.length ≤ 7) ha2 [] (by simp) k
      have hrk := getD_all (p := fun l : List Int => l.length ≤ 7) hr2 [] (by simp) k
      have hml := mkReal_len X k
      refine vc_skip ?_
      refine hK13 _ ?_
      refine vc_seq fun K15 hK15 => ?_
      refine vc_block ?_
      refine vc_drawB [14, 16] (by kernel_rfl) ?_
      change VLB [14, 16] _ _ _ 17 _ _ _
      refine vb_light0 0 rfl rfl rfl (by kernel_rfl) (by kernel_rfl) (by kernel_rfl) (wnt_none rfl) (l0_fieldAddr_ptr rfl Try.underlying25 rfl inf23 (by rw [sz23]; decide)) ?_
      try simp only [Nat.zero_add]
      refine vb_light 1 [0, 2, 3, 4, 5, 6, 7, 8, 9, 10, 11, 12, 13] rfl rfl rfl (by kernel_rfl) (by kernel_rfl) (by kernel_rfl) (by kernel_rfl) (by kernel_rfl) (wnt_none rfl) (lb_load_var hC rfl rfl rfl rfl Try.underlying23 rfl rfl) ?_
      refine vb_light0 2 rfl rfl rfl (by kernel_rfl) (by kernel_rfl) (by kernel_rfl) (wnt_none rfl) (l0_fieldAddr_ptr rfl Try.underlying25 rfl inf23 (by rw [sz23]; decide)) ?_
      try simp only [Nat.zero_add]
      refine vb_light 3 [0, 1, 2, 4, 7, 8, 9, 10, 11] rfl rfl rfl (by kernel_rfl) (by kernel_rfl) (by kernel_rfl) (by kernel_rfl) (by kernel_rfl) (wnt_none rfl) (lb_load_var hC rfl rfl rfl rfl Try.underlying23 rfl rfl) ?_
      refine vb_light0 4 rfl rfl rfl (by kernel_rfl) (by kernel_rfl) (by kernel_rfl) (wnt_none rfl) (l0_move_pv rfl) ?_
      refine vb_light0 5 rfl rfl rfl (by kernel_rfl) (by kernel_rfl) (by kernel_rfl) (wnt_none rfl) (l0_index_pv (.sl none 1 []) rfl rfl E23.und inf28 sz28 sd sd) ?_
      simp only [Int.toNat_natCast, Int.toNat_zero, getD_ints, getD_intss, getD_bools, getD_bytes, PV.cells, getD_ops, getD_pairs, getD_insts, getD_attrs, getD_attrss, getD_objs, getD_ordP]
      refine vb_light 6 [0, 1, 2, 3, 4, 5, 7, 8, 9, 10, 11] rfl rfl rfl (by kernel_rfl) (by kernel_rfl) (by kernel_rfl) (by kernel_rfl) (by kernel_rfl) (wnt_none rfl) (lb_load_adr hC rfl rfl Try.underlying28 rfl) ?_
      refine vb_light0 7 rfl rfl rfl (by kernel_rfl) (by kernel_rfl) (by kernel_rfl) (wnt_none rfl) (l0_fieldAddr_ptr rfl Try.underlying25 rfl inf23 (by rw [sz23]; decide)) ?_
      try simp only [Nat.zero_add]
      refine vb_light 8 [0, 1, 2, 3, 4, 5, 6, 7, 9] rfl rfl rfl (by kernel_rfl) (by kernel_rfl) (by kernel_rfl) (by kernel_rfl) (by kernel_rfl) (wnt_none rfl) (lb_load_var hC rfl rfl rfl rfl Try.underlying23 rfl rfl) ?_
      refine vb_light0 9 rfl rfl rfl (by kernel_rfl) (by kernel_rfl) (by kernel_rfl) (wnt_none rfl) (l0_move_pv rfl) ?_
      refine vb_light0 10 rfl rfl rfl (by kernel_rfl) (by kernel_rfl) (by kernel_rfl) (wnt_none rfl) (l0_index_pv (.sl none 1 []) rfl rfl E23.und inf28 sz28 sd sd) ?_
      simp only [Int.toNat_natCast, Int.toNat_zero, getD_ints, getD_intss, getD_bools, getD_bytes, PV.cells, getD_ops, getD_pairs, getD_insts, getD_attrs, getD_attrss, getD_objs, getD_ordP]
      refine vb_light 11 [0, 1, 2, 3, 4, 5, 6, 7, 8, 9, 10] rfl rfl rfl (by kernel_rfl) (by kernel_rfl) (by kernel_rfl) (by kernel_rfl) (by kernel_rfl) (wnt_none rfl) (lb_load_adr hC rfl rfl Try.underlying28 rfl) ?_
      refine vb_any1 12 (by kernel_rfl) ?_
      refine sb_call 12 [] hC rfl rfl (wnt_none rfl) Try.func18 rfl rfl rfl rfl rfl rfl rfl (join_sat (a := X.real.getD k []) (b := X.abs.getD k []) (by omega) (by omega)) ?_
      rintro _ _ ⟨nlj, rfl, rfl⟩
      refine ⟨Nat.le_of_ble_eq_true rfl, ⟨rfl, rfl, rfl, rfl⟩, .inl rfl, ?_⟩
      refine vb_stM ?_
      refine vb_expose 4 (by omega) rfl ?_
      refine vb_stM ?_
      refine vb_weaken 52 rfl ?_
      refine vb_stM ?_
      refine vb_ext 13 rfl (by kernel_rfl) rfl (xt_buildSlice E23 rfl rfl rfl rfl) ?_
      refine vb_stM ?_
      refine vb_one 14 rfl (by kernel_rfl) rfl ?_
      refine vo_append E23 rfl (by omega) rfl rfl rfl sd sd ?_
      refine vo_stM ?_
      try simp only [app_ints, app_intss, app_bools, app_intss, List.nil_append]
      refine vo_done ⟨rfl, ?_⟩
      refine vb_light0 15 rfl rfl rfl (by kernel_rfl) (by kernel_rfl) (by kernel_rfl) (wnt_none rfl) (l0_fieldAddr_ptr rfl Try.underlying25 rfl inf23 (by rw [sz23]; decide)) ?_
      try simp only [Nat.zero_add]
      refine vb_one 16 rfl (by kernel_rfl) rfl ?_
      refine vo_store_varG rfl rfl rfl rfl inf23 sz23 rfl ?_
      refine vo_stM ?_
      refine vo_done ⟨rfl, ?_⟩
      refine vb_nil (by kernel_rfl) ?_
      refine hK15 _ ?_
      refine vc_region ?_
      refine vo_move_pv rfl rfl ?_
      refine vo_binI rfl rfl rfl rfl sd ?_
      refine vo_assign_pv rfl rfl ?_
      refine vo_nil ?_
      (try clear hK15); (try clear hK14); (try clear hK13); (try clear hK12); (try clear hK11); (try clear hK10); (try clear hK9); (try clear hK8); (try clear hK7); (try clear hK6); (try clear hK5); (try clear hK4); (try clear hK3); (try clear hK2); (try clear hK1)
      change againE _ _ _ _ _ _ _ _ _ _
      refine againE_mk rfl rfl rfl rfl rfl rfl ⟨_, ?_, k + 1, rfl, ?_, rfl, (rowI_eq (by rw [mkReal_succ]))⟩
      ·omega
      ·omega
     ·try simp only [zq0, zq1, zq2, zq3, zq4, zq5, zq6, zq7, zq8, zq9, zqa, zqb, zqc, zqd, zqe, zqf] at hc4
      have hn1 := madeW_v (by assumption : VWorks X)
      have hn2 := madeW_cm (by assumption : VWorks X)
      refine vc_exit ?_
      refine hK11 _ ?_
      refine vc_seq fun K16 hK16 => ?_
      refine vc_region ?_
      refine vo_load_varG rfl rfl rfl Try.underlying25 rfl inf25 sz25 rfl ?_
      refine vo_stM ?_
      refine vo_call [] Try.func16 rfl rfl rfl rfl rfl rfl rfl (SatAt.wk (args2 := [.pv false (worksP (madeW X))]) (by simp only [List.reverse_cons, List.reverse_nil, List.nil_append, List.cons_append, PV.scal, Bool.false_eq_true, List.map_cons, List.map_nil, SV.wk, PV.wk_agg, PV.wk_sl, PV.wk_int, wk_intsX, Int.toNat_natCast, List.length_map, wk_reps, madeW, show k = X.bases.length by omega]) (implValidWorks_sat (madeW_sk hX))) ?_
      rintro _ _ ⟨rfl, rfl⟩
      refine ⟨Nat.le_of_ble_eq_true rfl, ⟨rfl, rfl, rfl, rfl⟩, .inr ⟨rfl, rfl⟩, ?_⟩
      refine vo_stM ?_
      refine vo_move_pv rfl rfl ?_
      refine vo_split 58 rfl (fun hg5 => ?_) (fun hg5 => ?_)
      ·try simp only [zq0, zq1, zq2, zq3, zq4, zq5, zq6, zq7, zq8, zq9, zqa, zqb, zqc, zqd, zqe, zqf] at hg5
       refine vo_guard_on rfl rfl rfl ?_
       refine vo_load_varG rfl rfl rfl Try.underlying25 rfl inf25 sz25 rfl ?_
       refine vo_stM ?_
       refine vo_guard_on rfl rfl rfl ?_
       refine vo_call [] Try.func19 rfl rfl rfl rfl rfl rfl rfl (SatAt.wk (args2 := [.pv false (worksP (madeW X)), i64 0]) (by simp only [List.reverse_cons, List.reverse_nil, List.nil_append, List.cons_append, PV.scal, Bool.false_eq_true, List.map_cons, List.map_nil, SV.wk, PV.wk_agg, PV.wk_sl, PV.wk_int, wk_intsX, Int.toNat_natCast, List.length_map, wk_reps, madeW, show k = X.bases.length by omega]) (implCanMake_sat (madeW_sk hX))) ?_
       rintro _ _ ⟨rfl, rfl⟩
       refine ⟨Nat.le_of_ble_eq_true rfl, ⟨rfl, rfl, rfl, rfl⟩, .inr ⟨rfl, rfl⟩, ?_⟩
       refine vo_stM ?_
       refine vo_pick_t rfl rfl ?_
       refine vo_assign_pv rfl rfl ?_
       refine vo_nil ?_
       refine hK16 _ ?_
       refine vc_ret ?_
       (try clear hK16); (try clear hK15); (try clear hK14); (try clear hK13); (try clear hK12); (try clear hK11); (try clear hK10); (try clear hK9); (try clear hK8); (try clear hK7); (try clear hK6); (try clear hK5); (try clear hK4); (try clear hK3); (try clear hK2); (try clear hK1)
       change retQ _ _ _ _ _
       refine retQ_sel [] (srows := []) (.inr rfl) hC rfl rfl rfl rfl rfl rfl rfl ?_
       first | exact ⟨rfl, rfl⟩ | (exfalso; simp_all; done) | (exfalso; omega) | (refine ⟨(congrArg (fun b => [bo b]) (?_ : _ = true) : [bo _] = [bo true]), rfl⟩; first | simp_all | (simp; omega))
      ·try simp only [zq0, zq1, zq2, zq3, zq4, zq5, zq6, zq7, zq8, zq9, zqa, zqb, zqc, zqd, zqe, zqf] at hg5
       exact absurd hn1 hg5
    ·refine sb_ext 7 rfl rfl (xt_alloc Z25) ?_
     refine vb_stM ?_
     refine vb_any1 5 (by kernel_rfl) ?_
     refine sb_extG 5 rfl rfl (wnt_none rfl) (xt_make E23 rfl rfl sd sd sd) ?_
     refine vb_light0 6 rfl rfl rfl (by kernel_rfl) (by kernel_rfl) (by kernel_rfl) (wnt_none rfl) (l0_buildG S25n rfl rfl) ?_
     refine vb_stM ?_
     refine vb_one 8 rfl (by kernel_rfl) rfl ?_
     refine vo_store_varG rfl rfl rfl rfl inf25 sz25 rfl ?_
     refine vo_stM ?_
     refine vo_done ⟨rfl, ?_⟩
     refine vb_nil (by kernel_rfl) ?_
     refine hK10 _ ?_
     refine vc_seq fun K17 hK17 => ?_
     refine vc_seq fun K18 hK18 => ?_
     refine vc_region ?_
     refine vo_assign_pv rfl rfl ?_
     refine vo_nil ?_
     refine hK18 _ ?_
     refine vc_block ?_
     refine vc_own_cell 1 2 E23 rfl rfl ?_
     refine vc_stM ?_
     refine vc_stM ?_
     refine vc_loopE [3, 5] [6] [3] _ _ (fun mz vs rs => ∃ (k : Nat), mz = X.bases.length - k ∧ (k ≤ X.bases.length) ∧ vs = [i64 k] ∧ rs = [Row.own 28 1 none true ((mkReal X k).map ints)]) (X.bases.length) rfl rfl (le_len hC rfl) ⟨rfl, rfl, rfl⟩ rfl ⟨0, rfl, (Nat.zero_le _), rfl, rfl⟩ ?_
     rintro mz vs rs - - ⟨k, rfl, hk, rfl, rfl⟩
     refine vc_stM ?_
     refine vc_seq fun K19 hK19 => ?_
     refine vc_seq fun K20 hK20 => ?_
     refine vc_region ?_
     refine vo_move_pv rfl rfl ?_
     refine vo_fieldAddr_ptr rfl rfl Try.underlying25 rfl inf23 (by rw [sz23]; decide) ?_
     try simp only [Nat.zero_add]
     refine vo_load_var rfl rfl rfl Try.underlying23 rfl rfl ?_
     refine vo_len_pv rfl rfl Try.underlying23 ?_
     refine vo_binI rfl rfl rfl rfl trivial ?_
     refine vo_nil ?_
     refine hK20 _ ?_
     refine vc_cond rfl (fun hc6 => ?_) (fun hc6 => ?_)
     ·try simp only [zq0, zq1, zq2, zq3, zq4, zq5, zq6, zq7, zq8, zq9, zqa, zqb, zqc, zqd, zqe, zqf] at hc6
      have hak := getD_all (p := fun l : List Int => l.length ≤ 7) ha2 [] (by simp) k
      have hrk := getD_all (p := fun l : List Int => l.length ≤ 7) hr2 [] (by simp) k
      have hml := mkReal_len X k
      refine vc_skip ?_
      refine hK19 _ ?_
      refine vc_seq fun K21 hK21 => ?_
      refine vc_block ?_
      refine vc_drawB [14, 16] (by kernel_rfl) ?_
      change VLB [14, 16] _ _ _ 17 _ _ _
      refine vb_light0 0 rfl rfl rfl (by kernel_rfl) (by kernel_rfl) (by kernel_rfl) (wnt_none rfl) (l0_fieldAddr_ptr rfl Try.underlying25 rfl inf23 (by rw [sz23]; decide)) ?_
      try simp only [Nat.zero_add]
      refine vb_light 1 [0, 2, 3, 4, 5, 6, 7, 8, 9, 10, 11, 12, 13] rfl rfl rfl (by kernel_rfl) (by kernel_rfl) (by kernel_rfl) (by kernel_rfl) (by kernel_rfl) (wnt_none rfl) (lb_load_var hC rfl rfl rfl rfl Try.underlying23 rfl rfl) ?_
      refine vb_light0 2 rfl rfl rfl (by kernel_rfl) (by kernel_rfl) (by kernel_rfl) (wnt_none rfl) (l0_fieldAddr_ptr rfl Try.underlying25 rfl inf23 (by rw [sz23]; decide)) ?_
      try simp only [Nat.zero_add]
      refine vb_light 3 [0, 1, 2, 4, 7, 8, 9, 10, 11] rfl rfl rfl (by kernel_rfl) (by kernel_rfl) (by kernel_rfl) (by kernel_rfl) (by kernel_rfl) (wnt_none rfl) (lb_load_var hC rfl rfl rfl rfl Try.underlying23 rfl rfl) ?_
      refine vb_light0 4 rfl rfl rfl (by kernel_rfl) (by kernel_rfl) (by kernel_rfl) (wnt_none rfl) (l0_move_pv rfl) ?_
      refine vb_light0 5 rfl rfl rfl (by kernel_rfl) (by kernel_rfl) (by kernel_rfl) (wnt_none rfl) (l0_index_pv (.sl none 1 []) rfl rfl E23.und inf28 sz28 sd sd) ?_
      simp only [Int.toNat_natCast, Int.toNat_zero, getD_ints, getD_intss, getD_bools, getD_bytes, PV.cells, getD_ops, getD_pairs, getD_insts, getD_attrs, getD_attrss, getD_objs, getD_ordP]
      refine vb_light 6 [0, 1, 2, 3, 4, 5, 7, 8, 9, 10, 11] rfl rfl rfl (by kernel_rfl) (by kernel_rfl) (by kernel_rfl) (by kernel_rfl) (by kernel_rfl) (wnt_none rfl) (lb_load_adr hC rfl rfl Try.underlying28 rfl) ?_
      refine vb_light0 7 rfl rfl rfl (by kernel_rfl) (by kernel_rfl) (by kernel_rfl) (wnt_none rfl) (l0_fieldAddr_ptr rfl Try.underlying25 rfl inf23 (by rw [sz23]; decide)) ?_
      try simp only [Nat.zero_add]
      refine vb_light 8 [0, 1, 2, 3, 4, 5, 6, 7, 9] rfl rfl rfl (by kernel_rfl) (by kernel_rfl) (by kernel_rfl) (by kernel_rfl) (by kernel_rfl) (wnt_none rfl) (lb_load_var hC rfl rfl rfl rfl Try.underlying23 rfl rfl) ?_
      refine vb_light0 9 rfl rfl rfl (by kernel_rfl) (by kernel_rfl) (by kernel_rfl) (wnt_none rfl) (l0_move_pv rfl) ?_
      refine vb_light0 10 rfl rfl rfl (by kernel_rfl) (by kernel_rfl) (by kernel_rfl) (wnt_none rfl) (l0_index_pv (.sl none 1 []) rfl rfl E23.und inf28 sz28 sd sd) ?_
      simp only [Int.toNat_natCast, Int.toNat_zero, getD_ints, getD_intss, getD_bools, getD_bytes, PV.cells, getD_ops, getD_pairs, getD_insts, getD_attrs, getD_attrss, getD_objs, getD_ordP]
      refine vb_light 11 [0, 1, 2, 3, 4, 5, 6, 7, 8, 9, 10] rfl rfl rfl (by kernel_rfl) (by kernel_rfl) (by kernel_rfl) (by kernel_rfl) (by kernel_rfl) (wnt_none rfl) (lb_load_adr hC rfl rfl Try.underlying28 rfl) ?_
      refine vb_any1 12 (by kernel_rfl) ?_
      refine sb_call 12 [] hC rfl rfl (wnt_none rfl) Try.func18 rfl rfl rfl rfl rfl rfl rfl (join_sat (a := X.real.getD k []) (b := X.abs.getD k []) (by omega) (by omega)) ?_
      rintro _ _ ⟨nlj, rfl, rfl⟩
      refine ⟨Nat.le_of_ble_eq_true rfl, ⟨rfl, rfl, rfl, rfl⟩, .inl rfl, ?_⟩
      refine vb_stM ?_
      refine vb_expose 4 (by omega) rfl ?_
      refine vb_stM ?_
      refine vb_weaken 52 rfl ?_
      refine vb_stM ?_
      refine vb_ext 13 rfl (by kernel_rfl) rfl (xt_buildSlice E23 rfl rfl rfl rfl) ?_
      refine vb_stM ?_
      refine vb_one 14 rfl (by kernel_rfl) rfl ?_
      refine vo_append E23 rfl (by omega) rfl rfl rfl sd sd ?_
      refine vo_stM ?_
      try simp only [app_ints, app_intss, app_bools, app_intss, List.nil_append]
      refine vo_done ⟨rfl, ?_⟩
      refine vb_light0 15 rfl rfl rfl (by kernel_rfl) (by kernel_rfl) (by kernel_rfl) (wnt_none rfl) (l0_fieldAddr_ptr rfl Try.underlying25 rfl inf23 (by rw [sz23]; decide)) ?_
      try simp only [Nat.zero_add]
      refine vb_one 16 rfl (by kernel_rfl) rfl ?_
      refine vo_store_varG rfl rfl rfl rfl inf23 sz23 rfl ?_
      refine vo_stM ?_
      refine vo_done ⟨rfl, ?_⟩
      refine vb_nil (by kernel_rfl) ?_
      refine hK21 _ ?_
      refine vc_region ?_
      refine vo_move_pv rfl rfl ?_
      refine vo_binI rfl rfl rfl rfl sd ?_
      refine vo_assign_pv rfl rfl ?_
      refine vo_nil ?_
      (try clear hK21); (try clear hK20); (try clear hK19); (try clear hK18); (try clear hK17); (try clear hK16); (try clear hK15); (try clear hK14); (try clear hK13); (try clear hK12); (try clear hK11); (try clear hK10); (try clear hK9); (try clear hK8); (try clear hK7); (try clear hK6); (try clear hK5); (try clear hK4); (try clear hK3); (try clear hK2); (try clear hK1)
      change againE _ _ _ _ _ _ _ _ _ _
      refine againE_mk rfl rfl rfl rfl rfl rfl ⟨_, ?_, k + 1, rfl, ?_, rfl, (rowI_eq (by rw [mkReal_succ]))⟩
      ·omega
      ·omega
     ·try simp only [zq0, zq1, zq2, zq3, zq4, zq5, zq6, zq7, zq8, zq9, zqa, zqb, zqc, zqd, zqe, zqf] at hc6
      have hn1 := madeW_v (by assumption : VWorks X)
      have hn2 := madeW_cm (by assumption : VWorks X)
      refine vc_exit ?_
      refine hK17 _ ?_
      refine vc_seq fun K22 hK22 => ?_
      refine vc_region ?_
      refine vo_load_varG rfl rfl rfl Try.underlying25 rfl inf25 sz25 rfl ?_
      refine vo_stM ?_
      refine vo_call [] Try.func16 rfl rfl rfl rfl rfl rfl rfl (SatAt.wk (args2 := [.pv false (worksP (madeW X))]) (by simp only [List.reverse_cons, List.reverse_nil, List.nil_append, List.cons_append, PV.scal, Bool.false_eq_true, List.map_cons, List.map_nil, SV.wk, PV.wk_agg, PV.wk_sl, PV.wk_int, wk_intsX, Int.toNat_natCast, List.length_map, wk_reps, madeW, show k = X.bases.length by omega]) (implValidWorks_sat (madeW_sk hX))) ?_
      rintro _ _ ⟨rfl, rfl⟩
      refine ⟨Nat.le_of_ble_eq_true rfl, ⟨rfl, rfl, rfl, rfl⟩, .inr ⟨rfl, rfl⟩, ?_⟩
      refine vo_stM ?_
      refine vo_move_pv rfl rfl ?_
      refine vo_split 58 rfl (fun hg7 => ?_) (fun hg7 => ?_)
      ·try simp only [zq0, zq1, zq2, zq3, zq4, zq5, zq6, zq7, zq8, zq9, zqa, zqb, zqc, zqd, zqe, zqf] at hg7
       refine vo_guard_on rfl rfl rfl ?_
       refine vo_load_varG rfl rfl rfl Try.underlying25 rfl inf25 sz25 rfl ?_
       refine vo_stM ?_
       refine vo_guard_on rfl rfl rfl ?_
       refine vo_call [] Try.func19 rfl rfl rfl rfl rfl rfl rfl (SatAt.wk (args2 := [.pv false (worksP (madeW X)), i64 0]) (by simp only [List.reverse_cons, List.reverse_nil, List.nil_append, List.cons_append, PV.scal, Bool.false_eq_true, List.map_cons, List.map_nil, SV.wk, PV.wk_agg, PV.wk_sl, PV.wk_int, wk_intsX, Int.toNat_natCast, List.length_map, wk_reps, madeW, show k = X.bases.length by omega]) (implCanMake_sat (madeW_sk hX))) ?_
       rintro _ _ ⟨rfl, rfl⟩
       refine ⟨Nat.le_of_ble_eq_true rfl, ⟨rfl, rfl, rfl, rfl⟩, .inr ⟨rfl, rfl⟩, ?_⟩
       refine vo_stM ?_
       refine vo_pick_t rfl rfl ?_
       refine vo_assign_pv rfl rfl ?_
       refine vo_nil ?_
       refine hK22 _ ?_
       refine vc_ret ?_
       (try clear hK22); (try clear hK21); (try clear hK20); (try clear hK19); (try clear hK18); (try clear hK17); (try clear hK16); (try clear hK15); (try clear hK14); (try clear hK13); (try clear hK12); (try clear hK11); (try clear hK10); (try clear hK9); (try clear hK8); (try clear hK7); (try clear hK6); (try clear hK5); (try clear hK4); (try clear hK3); (try clear hK2); (try clear hK1)
       change retQ _ _ _ _ _
       refine retQ_sel [] (srows := []) (.inr rfl) hC rfl rfl rfl rfl rfl rfl rfl ?_
       first | exact ⟨rfl, rfl⟩ | (exfalso; simp_all; done) | (exfalso; omega) | (refine ⟨(congrArg (fun b => [bo b]) (?_ : _ = true) : [bo _] = [bo true]), rfl⟩; first | simp_all | (simp; omega))
      ·try simp only [zq0, zq1, zq2, zq3, zq4, zq5, zq6, zq7, zq8, zq9, zqa, zqb, zqc, zqd, zqe, zqf] at hg7
       exact absurd hn1 hg7


end Go.Vl
