/- Part 6 of the texts that the proof of FnNamesOf is built on. -/
import Derived.Test.YtdkgldahahggfaaVl5
namespace Go.Vl
set_option linter.unusedVariables false
set_option linter.unusedSimpArgs false
open Go.Proofs
theorem S27n : StInfo Try.prog 27 [(0, 1), (1, 1), (2, 1)] [(.sl (some true) 1 []), (.sl (some true) 1 []), (.sl (some true) 2 [])] := by
  refine ⟨⟨_, Try.underlying27⟩, #[(.slice none 0 0), (.slice none 0 0), (.slice none 0 0)], fun l => by kernel_rfl, fun w G => .agg _ _ rfl ?_ ?_⟩
  · intro j c h
    match j, h with
    | 0, h => cases h; rfl
    | 1, h => cases h; rfl
    | 2, h => cases h; rfl
  · intro j c u h hu
    match j, h, hu with
    | 0, h, hu => cases h; cases hu; exact .nilsl _ _ (by decide)
    | 1, h, hu => cases h; cases hu; exact .nilsl _ _ (by decide)
    | 2, h, hu => cases h; cases hu; exact .nilsl _ _ (by decide)
theorem S42n : StInfo Try.prog 42 [(0, 1), (1, 1)] [(.int .i64 0), (.sl (some true) 2 [])] := by
  refine ⟨⟨_, Try.underlying42⟩, #[(.int .i64 0), (.slice none 0 0)], fun l => by kernel_rfl, fun w G => .agg _ _ rfl ?_ ?_⟩
  · intro j c h
    match j, h with
    | 0, h => cases h; rfl
    | 1, h => cases h; rfl
  · intro j c u h hu
    match j, h, hu with
    | 0, h, hu => cases h; cases hu; exact .int _ _
    | 1, h, hu => cases h; cases hu; exact .nilsl _ _ (by decide)

theorem plain_attrs (l : List AttrM) : plainX (l.map attrP) := by
  intro x hx c hc
  obtain ⟨a, _, rfl⟩ := List.mem_map.1 hx
  simp [PV.cells] at hc
  rcases hc with rfl | rfl | rfl <;> rfl
theorem plain_pairsX (l : List (Int × Int)) : plainX (l.map pairP) := by
  intro x hx c hc
  obtain ⟨a, _, rfl⟩ := List.mem_map.1 hx
  simp [PV.cells] at hc
  rcases hc with rfl | rfl <;> rfl
def smallW (w : WorldM) : Prop := (1 ≤ w.bases.length ∧ w.bases.length ≤ 9 ∧ ∀ l ∈ w.bases, l.length ≤ 3) ∧ (w.attrs.length = w.bases.length ∧ ∀ l ∈ w.attrs, l.length ≤ 3) ∧ w.objs.length ≤ 3 ∧ ∀ o ∈ w.objs, o.pairs.length ≤ 3
theorem app_all {α : Type} {p : α → Prop} {l : List α} {x : α} (h : ∀ y ∈ l, p y) (hx : p x) : ∀ y ∈ l ++ [x], p y := by
  intro y hy
  rcases List.mem_append.1 hy with h1 | h1
  · exact h y h1
  · rw [List.mem_singleton.1 h1]; exact hx
theorem app_attrs (l : List AttrM) (a : AttrM) : l.map attrP ++ [attrP a] = (l ++ [a]).map attrP := by simp
theorem app_attrss (l : List (List AttrM)) (a : List AttrM) : l.map attrsP ++ [.sl none 3 (a.map attrP)] = (l ++ [a]).map attrsP := by simp
theorem app_objs (l : List ObjM) (a : Int) (ps : List (Int × Int)) : l.map objP ++ [.agg [.int .i64 a, .sl none 2 (ps.map pairP)]] = (l ++ [(⟨a, ps⟩ : ObjM)]).map objP := by simp
theorem app_pairsX (l : List (Int × Int)) (a b : Int) : l.map pairP ++ [.agg [.int .i64 a, .int .i64 b]] = (l ++ [(a, b)]).map pairP := by simp

theorem someAttr_sat {nl : Option Bool} {c : List (Fin 256)} {p : Nat} (hc : c.length ≤ 2000) (hp : p < 999000) : SatAt Try.prog 150 [.ptr 0 0 0 0] [rdr nl c p] (fun res rows => ∃ (a : AttrM), res = [.pv true (attrP a)] ∧ rows = [rdr nl c (p + 3)]) := by
 refine sat_entry_G (rs := [(2, some (31, 3))]) Try.func150 rfl rfl (Nat.le_of_ble_eq_true rfl) (Nat.le_of_ble_eq_true rfl) (resTs1 ⟨_, _, Try.underlying31, rfl, inf31, sz31⟩) fun C hC => ?_
 rw [Try.ntmps150]
 replace hC : C.nb = 1 := hC
 refine vc_seq fun K1 hK1 => ?_
 refine vc_region ?_
 refine vo_alloc Z31 rfl ?_
 refine vo_stM ?_
 refine vo_nil ?_
 refine hK1 _ ?_
 refine vc_seq fun K2 hK2 => ?_
 refine vc_region ?_
 refine vo_move_ptr rfl rfl ?_
 refine vo_call [0] Try.func72 rfl rfl rfl rfl rfl rfl rfl (pick_sat hc (by omega)) ?_
 rintro _ _ ⟨x4, ⟨hx40, hx41⟩, rfl, rfl⟩
 refine ⟨Nat.le_of_ble_eq_true rfl, ⟨rfl, rfl, rfl, rfl⟩, .inl rfl, ?_⟩
 refine vo_stM ?_
 refine vo_move_ptr rfl rfl ?_
 refine vo_buildSlice E34 rfl rfl rfl rfl rfl ?_
 refine vo_stM ?_
 refine vo_expose 2 (by omega) rfl ?_
 refine vo_stM ?_
 refine vo_weaken 6 rfl ?_
 refine vo_stM ?_
 refine vo_call [0] Try.func99 rfl rfl rfl rfl rfl rfl rfl (one_sat (list := [_,_,_,_,_,_,_,_]) hc (by omega) (by simp) (by simp)) ?_
 rintro _ _ ⟨y7, hy7, rfl, rfl⟩
 refine ⟨Nat.le_of_ble_eq_true rfl, ⟨rfl, rfl, rfl, rfl⟩, .inl rfl, ?_⟩
 refine vo_stM ?_
 refine vo_move_ptr rfl rfl ?_
 refine vo_call [0] Try.func72 rfl rfl rfl rfl rfl rfl rfl (pick_sat hc (by omega)) ?_
 rintro _ _ ⟨x9, ⟨hx90, hx91⟩, rfl, rfl⟩
 refine ⟨Nat.le_of_ble_eq_true rfl, ⟨rfl, rfl, rfl, rfl⟩, .inl rfl, ?_⟩
 refine vo_stM ?_
 refine vo_build S31 rfl rfl rfl ?_
 refine vo_stM ?_
 refine vo_store_varS rfl rfl rfl inf31 sz31 rfl ?_
 refine vo_stM ?_
 refine vo_nil ?_
 refine hK2 _ ?_
 refine vc_ret ?_
 change retQ _ _ _ _ _
 refine retQ_sel [] (srows := []) (.inr rfl) hC rfl rfl rfl rfl rfl rfl rfl ?_
 exact ⟨⟨x4, y7, x9⟩, rfl, rfl⟩


theorem someWorld_sat {nl : Option Bool} {c : List (Fin 256)} {p : Nat} (hc : c.length ≤ 2000) (hp : p < 990000) : SatAt Try.prog 135 [.ptr 0 0 0 0] [rdr nl c p] (fun res rows => ∃ (W : WorldM) (q : Nat) (f : Bool), (smallW W ∧ q ≤ p + 400) ∧ res = [.ag [.pv f (.sl none 1 (W.bases.map ints)), .ref 1, .ref 2]] ∧ rows = [rdr nl c q, .tree 52 1 none none (W.attrs.map attrsP), .tree 42 2 none none (W.objs.map objP)]) := by
 refine sat_entry_G (rs := [(2, some (27, 3))]) Try.func135 rfl rfl (Nat.le_of_ble_eq_true rfl) (Nat.le_of_ble_eq_true rfl) (resTs1 ⟨_, _, Try.underlying27, rfl, inf27, sz27⟩) fun C hC => ?_
 rw [Try.ntmps135]
 replace hC : C.nb = 1 := hC
 refine vc_seq fun K1 hK1 => ?_
 refine vc_region ?_
 refine vo_alloc Z27 rfl ?_
 refine vo_stM ?_
 refine vo_nil ?_
 refine hK1 _ ?_
 refine vc_seq fun K2 hK2 => ?_
 refine vc_region ?_
 refine vo_move_ptr rfl rfl ?_
 refine vo_call [0] Try.func149 rfl rfl rfl rfl rfl rfl rfl (goodBasesX_sat hc (by omega)) ?_
 rintro _ _ ⟨B, q0, f0, nl0, ⟨hB1, hB2, hB3, hB4⟩, rfl, rfl⟩
 refine ⟨Nat.le_of_ble_eq_true rfl, ⟨rfl, rfl, rfl, rfl⟩, .inl rfl, ?_⟩
 refine vo_stM ?_
 refine vo_weaken 13 rfl ?_
 refine vo_stM ?_
 refine vo_buildG S27n rfl rfl rfl ?_
 refine vo_stM ?_
 refine vo_alloc Z27 rfl ?_
 refine vo_stM ?_
 refine vo_store_varG rfl rfl rfl rfl inf27 sz27 rfl ?_
 refine vo_stM ?_
 refine vo_nil ?_
 refine hK2 _ ?_
 refine vc_seq fun K3 hK3 => ?_
 refine vc_seq fun K4 hK4 => ?_
 refine vc_region ?_
 refine vo_assign_pv rfl rfl ?_
 refine vo_nil ?_
 refine hK4 _ ?_
 refine vc_block ?_
 refine vc_own_cell 2 1 E24 rfl rfl ?_
 refine vc_stM ?_
 refine vc_totree 3 rfl ((by intro x hx; cases hx)) ?_
 refine vc_stM ?_
 refine vc_weaktree 3 rfl ?_
 refine vc_stM ?_
 refine vc_stM ?_
 refine vc_loopE [0, 2, 3] [4] [0, 3] _ _ (fun mz vs rs => ∃ (k : Nat) (A : List (List AttrM)) (q : Nat), mz = B.length - k ∧ ((k ≤ B.length ∧ A.length = k ∧ q ≤ q0 + 20 * k)) ∧ ((∀ l ∈ A, l.length ≤ 3)) ∧ vs = [i64 k] ∧ rs = [rdr nl c q, Row.tree 52 1 none none (A.map attrsP)]) (B.length) rfl rfl (le_len hC rfl) ⟨rfl, rfl, rfl⟩ rfl ⟨0, [], q0, rfl, (by simp), (by simp), rfl, rfl⟩ ?_
 rintro mz vs rs - - ⟨k, A, q, rfl, hk, hA, rfl, rfl⟩
 refine vc_stM ?_
 refine vc_seq fun K5 hK5 => ?_
 refine vc_seq fun K6 hK6 => ?_
 refine vc_region ?_
 refine vo_move_pv rfl rfl ?_
 refine vo_fieldAddr_ptr rfl rfl Try.underlying27 rfl inf23 (by rw [sz23]; decide) ?_
 try simp only [Nat.zero_add]
 refine vo_load_var rfl rfl rfl Try.underlying23 rfl rfl ?_
 refine vo_len_pv rfl rfl Try.underlying23 ?_
 refine vo_binI rfl rfl rfl rfl trivial ?_
 refine vo_nil ?_
 refine hK6 _ ?_
 refine vc_cond rfl (fun hc1 => ?_) (fun hc1 => ?_)
 ·try simp only [zq0, zq1, zq2, zq3, zq4, zq5, zq6, zq7, zq8, zq9, zqa, zqb, zqc, zqd, zqe, zqf] at hc1
  refine vc_skip ?_
  refine hK5 _ ?_
  refine vc_seq fun K7 hK7 => ?_
  refine vc_block ?_
  refine vc_seq fun K8 hK8 => ?_
  refine vc_region ?_
  refine vo_buildSlice E52 rfl rfl rfl rfl rfl ?_
  refine vo_stM ?_
  refine vo_assign_ref rfl rfl ?_
  refine vo_nil ?_
  refine hK8 _ ?_
  refine vc_seq fun K9 hK9 => ?_
  refine vc_seq fun K10 hK10 => ?_
  refine vc_region ?_
  refine vo_move_ptr rfl rfl ?_
  refine vo_buildSlice E34 rfl rfl rfl rfl rfl ?_
  refine vo_stM ?_
  refine vo_expose 5 (by omega) rfl ?_
  refine vo_stM ?_
  refine vo_weaken 24 rfl ?_
  refine vo_stM ?_
  refine vo_call [0] Try.func99 rfl rfl rfl rfl rfl rfl rfl (one_sat (list := [_,_,_,_]) hc (by omega) (by simp) (by simp)) ?_
  rintro _ _ ⟨y25, hy25, rfl, rfl⟩
  refine ⟨Nat.le_of_ble_eq_true rfl, ⟨rfl, rfl, rfl, rfl⟩, .inl rfl, ?_⟩
  refine vo_stM ?_
  refine vo_assign_pv rfl rfl ?_
  refine vo_nil ?_
  refine hK10 _ ?_
  refine vc_block ?_
  refine vc_stM ?_
  refine vc_loopE [0, 2, 3, 4] [5, 6] [0, 4] _ _ (fun mz vs rs => ∃ (n : Int) (L : List AttrM) (q2 : Nat), mz = n.toNat ∧ ((0 ≤ n ∧ L.length + n ≤ 3 ∧ q2 + 4 * n ≤ q + 15)) ∧ vs = [.ref 4, i64 n] ∧ rs = [rdr nl c q2, Row.own 31 3 (some false) true (L.map attrP)]) (y25.toNat) rfl rfl (le_len hC rfl) ⟨rfl, rfl, rfl⟩ rfl ⟨y25, [], q + 1, rfl, (by simp at hy25; simp; omega), rfl, rfl⟩ ?_
  rintro mz vs rs - - ⟨n, L, q2, rfl, hn, rfl, rfl⟩
  refine vc_stM ?_
  refine vc_seq fun K11 hK11 => ?_
  refine vc_seq fun K12 hK12 => ?_
  refine vc_region ?_
  refine vo_move_pv rfl rfl ?_
  refine vo_binI rfl rfl rfl rfl trivial ?_
  refine vo_nil ?_
  refine hK12 _ ?_
  refine vc_cond rfl (fun hc2 => ?_) (fun hc2 => ?_)
  ·try simp only [zq0, zq1, zq2, zq3, zq4, zq5, zq6, zq7, zq8, zq9, zqa, zqb, zqc, zqd, zqe, zqf] at hc2
   refine vc_skip ?_
   refine hK11 _ ?_
   refine vc_seq fun K13 hK13 => ?_
   refine vc_block ?_
   refine vc_seq fun K14 hK14 => ?_
   refine vc_region ?_
   refine vo_move_ptr rfl rfl ?_
   refine vo_call [0] Try.func150 rfl rfl rfl rfl rfl rfl rfl (someAttr_sat hc (by omega)) ?_
   rintro _ _ ⟨a, rfl, rfl⟩
   refine ⟨Nat.le_of_ble_eq_true rfl, ⟨rfl, rfl, rfl, rfl⟩, .inl rfl, ?_⟩
   refine vo_stM ?_
   refine vo_alloc Z31 rfl ?_
   refine vo_stM ?_
   refine vo_store_varS rfl rfl rfl inf31 sz31 rfl ?_
   refine vo_stM ?_
   refine vo_nil ?_
   refine hK14 _ ?_
   refine vc_seq fun K15 hK15 => ?_
   refine vc_region ?_
   refine vo_move_ref rfl rfl ?_
   refine vo_fieldAddr_ptr rfl rfl Try.underlying31 rfl inf3 (by rw [sz3]; decide) ?_
   try simp only [Nat.zero_add]
   refine vo_load_var rfl rfl rfl Try.underlying3 rfl rfl ?_
   refine vo_call0 Try.func112 rfl rfl rfl rfl (attrAt_sat (by omega)) ?_
   rintro _ _ ⟨rfl, rfl⟩
   refine ⟨rfl, rfl, .inr rfl, ?_⟩
   refine vo_stM ?_
   refine vo_binI rfl rfl rfl rfl trivial ?_
   refine vo_nil ?_
   refine hK15 _ ?_
   refine vc_cond rfl (fun hc3 => ?_) (fun hc3 => ?_)
   ·try simp only [zq0, zq1, zq2, zq3, zq4, zq5, zq6, zq7, zq8, zq9, zqa, zqb, zqc, zqd, zqe, zqf] at hc3
    refine vc_region ?_
    refine vo_move_ref rfl rfl ?_
    refine vo_load_varS rfl rfl rfl Try.underlying31 rfl inf31 sz31 rfl rfl ?_
    refine vo_buildSlice E52 rfl rfl rfl rfl rfl ?_
    refine vo_stM ?_
    refine vo_append E52 rfl (by omega) rfl rfl rfl sd sd ?_
    refine vo_stM ?_
    try simp only [app_ints, app_intss, app_bools, app_attrs, app_attrss, app_objs, app_pairsX, List.nil_append]
    refine vo_assign_ref rfl rfl ?_
    refine vo_nil ?_
    refine hK13 _ ?_
    refine vc_region ?_
    refine vo_move_pv rfl rfl ?_
    refine vo_binI rfl rfl rfl rfl sd ?_
    refine vo_assign_pv rfl rfl ?_
    refine vo_nil ?_
    change againE _ _ _ _ _ _ _ _ _ _
    refine againE_mk rfl rfl rfl rfl rfl rfl ⟨_, ?_, n - 1, L ++ [a], _, rfl, ?_, rfl, rfl⟩
    ·omega
    ·rw [List.length_append, List.length_singleton]; omega
   ·try simp only [zq0, zq1, zq2, zq3, zq4, zq5, zq6, zq7, zq8, zq9, zqa, zqb, zqc, zqd, zqe, zqf] at hc3
    refine vc_skip ?_
    refine hK13 _ ?_
    refine vc_region ?_
    refine vo_move_pv rfl rfl ?_
    refine vo_binI rfl rfl rfl rfl sd ?_
    refine vo_assign_pv rfl rfl ?_
    refine vo_nil ?_
    change againE _ _ _ _ _ _ _ _ _ _
    refine againE_mk rfl rfl rfl rfl rfl rfl ⟨_, ?_, n - 1, L, _, rfl, ?_, rfl, rfl⟩
    ·omega
    ·omega
  ·try simp only [zq0, zq1, zq2, zq3, zq4, zq5, zq6, zq7, zq8, zq9, zqa, zqb, zqc, zqd, zqe, zqf] at hc2
   refine vc_exit ?_
   refine hK9 _ ?_
   refine vc_region ?_
   refine vo_fieldAddr_ptr rfl rfl Try.underlying27 rfl inf24 (by rw [sz24]; decide) ?_
   try simp only [Nat.zero_add]
   refine vo_load_var rfl rfl rfl Try.underlying24 rfl rfl ?_
   refine vo_move_ref rfl rfl ?_
   refine vo_totree 4 rfl ((by first | exact plain_attrs _ | exact plain_pairsX _)) ?_
   refine vo_stM ?_
   refine vo_weaktree 4 rfl ?_
   refine vo_stM ?_
   refine vo_build_treeG (p := .sl _ _ _) E24 rfl rfl rfl rfl rfl rfl rfl hC rfl (by first | decide | simp [refsOf]) ?_
   refine vo_stM ?_
   refine vo_append_treeG E24 rfl (by omega) (by omega) rfl rfl rfl rfl rfl sd sd sd ?_
   refine vo_stM ?_
   try simp only [app_ints, app_intss, app_bools, app_attrs, app_attrss, app_objs, app_pairsX, List.nil_append]
   refine vo_fieldAddr_ptr rfl rfl Try.underlying27 rfl inf24 (by rw [sz24]; decide) ?_
   try simp only [Nat.zero_add]
   refine vo_store_varG rfl rfl rfl rfl inf24 sz24 rfl ?_
   refine vo_stM ?_
   refine vo_nil ?_
   refine hK7 _ ?_
   refine vc_region ?_
   refine vo_move_pv rfl rfl ?_
   refine vo_binI rfl rfl rfl rfl sd ?_
   refine vo_assign_pv rfl rfl ?_
   refine vo_nil ?_
   change againE _ _ _ _ _ _ _ _ _ _
   refine againE_mk rfl rfl rfl rfl rfl rfl ⟨_, ?_, k + 1, A ++ [L], q2, rfl, ?_, ?_, rfl, rfl⟩
   ·omega
   ·refine ⟨by omega, ?_, by omega⟩; rw [List.length_append, List.length_singleton]; omega
   ·exact app_all hA (by omega)
 ·try simp only [zq0, zq1, zq2, zq3, zq4, zq5, zq6, zq7, zq8, zq9, zqa, zqb, zqc, zqd, zqe, zqf] at hc1
  refine vc_exit ?_
  refine hK3 _ ?_
  refine vc_seq fun K16 hK16 => ?_
  refine vc_seq fun K17 hK17 => ?_
  refine vc_region ?_
  refine vo_move_ptr rfl rfl ?_
  refine vo_buildSlice E34 rfl rfl rfl rfl rfl ?_
  refine vo_stM ?_
  refine vo_expose 4 (by omega) rfl ?_
  refine vo_stM ?_
  refine vo_weaken 48 rfl ?_
  refine vo_stM ?_
  refine vo_call [0] Try.func99 rfl rfl rfl rfl rfl rfl rfl (one_sat (list := [_,_,_,_]) hc (by omega) (by simp) (by simp)) ?_
  rintro _ _ ⟨y49, hy49, rfl, rfl⟩
  refine ⟨Nat.le_of_ble_eq_true rfl, ⟨rfl, rfl, rfl, rfl⟩, .inl rfl, ?_⟩
  refine vo_stM ?_
  refine vo_assign_pv rfl rfl ?_
  refine vo_nil ?_
  refine hK17 _ ?_
  refine vc_block ?_
  refine vc_own_cell 2 2 E25 rfl rfl ?_
  refine vc_stM ?_
  refine vc_totree 5 rfl ((by intro x hx; cases hx)) ?_
  refine vc_stM ?_
  refine vc_weaktree 5 rfl ?_
  refine vc_stM ?_
  refine vc_stM ?_
  refine vc_loopE [0, 2, 3] [8] [0, 5] _ _ (fun mz vs rs => ∃ (n : Int) (O : List ObjM) (q3 : Nat), mz = n.toNat ∧ ((0 ≤ n ∧ O.length + n ≤ 3 ∧ q3 + 20 * n ≤ q + 100)) ∧ ((∀ o ∈ O, o.pairs.length ≤ 3)) ∧ vs = [i64 n] ∧ rs = [rdr nl c q3, Row.tree 42 2 none none (O.map objP)]) (y49.toNat) rfl rfl (le_len hC rfl) ⟨rfl, rfl, rfl⟩ rfl ⟨y49, [], q + 1, rfl, (by simp at hy49; simp; omega), (by simp), rfl, rfl⟩ ?_
  rintro mz vs rs - - ⟨n, O, q3, rfl, hn3, hO, rfl, rfl⟩
  refine vc_stM ?_
  refine vc_seq fun K18 hK18 => ?_
  refine vc_seq fun K19 hK19 => ?_
  refine vc_region ?_
  refine vo_move_pv rfl rfl ?_
  refine vo_binI rfl rfl rfl rfl trivial ?_
  refine vo_nil ?_
  refine hK19 _ ?_
  refine vc_cond rfl (fun hc4 => ?_) (fun hc4 => ?_)
  ·try simp only [zq0, zq1, zq2, zq3, zq4, zq5, zq6, zq7, zq8, zq9, zqa, zqb, zqc, zqd, zqe, zqf] at hc4
   refine vc_skip ?_
   refine hK18 _ ?_
   refine vc_seq fun K20 hK20 => ?_
   refine vc_block ?_
   refine vc_seq fun K21 hK21 => ?_
   refine vc_drawB [14] (by kernel_rfl) ?_
   change VLB [14] _ _ _ 15 _ _ _
   refine vb_light0 0 rfl rfl rfl (by kernel_rfl) (by kernel_rfl) (by kernel_rfl) (wnt_none rfl) (l0_move_ptr rfl) ?_
   refine vb_light0 1 rfl rfl rfl (by kernel_rfl) (by kernel_rfl) (by kernel_rfl) (wnt_none rfl) (l0_fieldAddr_ptr rfl Try.underlying27 rfl inf23 (by rw [sz23]; decide)) ?_
   try simp only [Nat.zero_add]
   refine vb_light 2 [0, 1, 5, 6, 7, 8, 9, 13] rfl rfl rfl (by kernel_rfl) (by kernel_rfl) (by kernel_rfl) (by kernel_rfl) (by kernel_rfl) (wnt_none rfl) (lb_load_var hC rfl rfl rfl rfl Try.underlying23 rfl rfl) ?_
   refine vb_light0 3 rfl rfl rfl (by kernel_rfl) (by kernel_rfl) (by kernel_rfl) (wnt_none rfl) (l0_len_pv rfl Try.underlying23) ?_
   refine vb_light0 4 rfl rfl rfl (by kernel_rfl) (by kernel_rfl) (by kernel_rfl) (wnt_none rfl) (l0_binI rfl rfl rfl sd) ?_
   refine vb_light0 5 rfl rfl rfl (by kernel_rfl) (by kernel_rfl) (by kernel_rfl) (wnt_none rfl) (l0_move_ptr rfl) ?_
   refine vb_light0 6 rfl rfl rfl (by kernel_rfl) (by kernel_rfl) (by kernel_rfl) (wnt_none rfl) (l0_fieldAddr_ptr rfl Try.underlying27 rfl inf23 (by rw [sz23]; decide)) ?_
   try simp only [Nat.zero_add]
   refine vb_light 7 [0, 1, 2, 3, 4, 5, 6, 13] rfl rfl rfl (by kernel_rfl) (by kernel_rfl) (by kernel_rfl) (by kernel_rfl) (by kernel_rfl) (wnt_none rfl) (lb_load_var hC rfl rfl rfl rfl Try.underlying23 rfl rfl) ?_
   refine vb_light0 8 rfl rfl rfl (by kernel_rfl) (by kernel_rfl) (by kernel_rfl) (wnt_none rfl) (l0_len_pv rfl Try.underlying23) ?_
   refine vb_any2 9 13 (by kernel_rfl) ?_ ?_
   ·refine sb_call 9 [0] hC rfl rfl (wnt_none rfl) Try.func72 rfl rfl rfl rfl rfl rfl rfl (pick_sat hc (by omega)) ?_
    rintro _ _ ⟨x63, ⟨hx630, hx631⟩, rfl, rfl⟩
    refine ⟨Nat.le_of_ble_eq_true rfl, ⟨rfl, rfl, rfl, rfl⟩, .inl rfl, ?_⟩
    refine vb_stM ?_
    refine vb_any2 10 13 (by kernel_rfl) ?_ ?_
    ·refine sb_ext 10 rfl rfl (xt_buildSlice E34 rfl rfl rfl rfl) ?_
     refine vb_stM ?_
     refine vb_expose 6 (by omega) rfl ?_
     refine vb_stM ?_
     refine vb_weaken 64 rfl ?_
     refine vb_stM ?_
     refine vb_any2 11 13 (by kernel_rfl) ?_ ?_
     ·refine sb_call 11 [0] hC rfl rfl (wnt_none rfl) Try.func99 rfl rfl rfl rfl rfl rfl rfl (one_sat (list := [_,_]) hc (by omega) (by simp) (by simp)) ?_
      rintro _ _ ⟨y65, hy65, rfl, rfl⟩
      refine ⟨Nat.le_of_ble_eq_true rfl, ⟨rfl, rfl, rfl, rfl⟩, .inl rfl, ?_⟩
      refine vb_stM ?_
      refine vb_light0 12 rfl rfl rfl (by kernel_rfl) (by kernel_rfl) (by kernel_rfl) (wnt_none rfl) (l0_buildG S42n rfl rfl) ?_
      refine vb_stM ?_
      refine vb_ext 13 rfl (by kernel_rfl) rfl (xt_alloc Z42) ?_
      refine vb_stM ?_
      refine vb_one 14 rfl (by kernel_rfl) rfl ?_
      refine vo_store_varG rfl rfl rfl rfl inf42 sz42 rfl ?_
      refine vo_stM ?_
      refine vo_done ⟨rfl, ?_⟩
      refine vb_nil (by kernel_rfl) ?_
      refine hK21 _ ?_
      refine vc_seq fun K22 hK22 => ?_
      refine vc_seq fun K23 hK23 => ?_
      refine vc_region ?_
      refine vo_move_ptr rfl rfl ?_
      refine vo_buildSlice E34 rfl rfl rfl rfl rfl ?_
      refine vo_stM ?_
      refine vo_expose 8 (by omega) rfl ?_
      refine vo_stM ?_
      refine vo_weaken 68 rfl ?_
      refine vo_stM ?_
      refine vo_call [0] Try.func99 rfl rfl rfl rfl rfl rfl rfl (one_sat (list := [_,_,_,_]) hc (by omega) (by simp) (by simp)) ?_
      rintro _ _ ⟨y69, hy69, rfl, rfl⟩
      refine ⟨Nat.le_of_ble_eq_true rfl, ⟨rfl, rfl, rfl, rfl⟩, .inl rfl, ?_⟩
      refine vo_stM ?_
      refine vo_assign_pv rfl rfl ?_
      refine vo_nil ?_
      refine hK23 _ ?_
      refine vc_block ?_
      refine vc_own_cell 7 1 E40 rfl rfl ?_
      refine vc_stM ?_
      refine vc_stM ?_
      refine vc_loopE [0, 2, 3, 8, 9] [10] [0, 9] _ _ (fun mz vs rs => ∃ (n4 : Int) (Pq : List (Int × Int)) (q4 : Nat), mz = n4.toNat ∧ ((0 ≤ n4 ∧ Pq.length + n4 ≤ 3 ∧ q4 + 3 * n4 ≤ q3 + 15)) ∧ vs = [i64 n4] ∧ rs = [rdr nl c q4, Row.own 44 2 none true (Pq.map pairP)]) (y69.toNat) rfl rfl (le_len hC rfl) ⟨rfl, rfl, rfl⟩ rfl ⟨y69, [], _, rfl, (by simp at hy69; simp; omega), rfl, rfl⟩ ?_
      rintro mz vs rs - - ⟨n4, Pq, q4, rfl, hn4, rfl, rfl⟩
      refine vc_stM ?_
      refine vc_seq fun K24 hK24 => ?_
      refine vc_seq fun K25 hK25 => ?_
      refine vc_region ?_
      refine vo_move_pv rfl rfl ?_
      refine vo_binI rfl rfl rfl rfl trivial ?_
      refine vo_nil ?_
      refine hK25 _ ?_
      refine vc_cond rfl (fun hc5 => ?_) (fun hc5 => ?_)
      ·try simp only [zq0, zq1, zq2, zq3, zq4, zq5, zq6, zq7, zq8, zq9, zqa, zqb, zqc, zqd, zqe, zqf] at hc5
       refine vc_skip ?_
       refine hK24 _ ?_
       refine vc_seq fun K26 hK26 => ?_
       refine vc_block ?_
       refine vc_seq fun K27 hK27 => ?_
       refine vc_region ?_
       refine vo_move_ptr rfl rfl ?_
       refine vo_call [0] Try.func72 rfl rfl rfl rfl rfl rfl rfl (pick_sat hc (by omega)) ?_
       rintro _ _ ⟨x75, ⟨hx750, hx751⟩, rfl, rfl⟩
       refine ⟨Nat.le_of_ble_eq_true rfl, ⟨rfl, rfl, rfl, rfl⟩, .inl rfl, ?_⟩
       refine vo_stM ?_
       refine vo_assign_pv rfl rfl ?_
       refine vo_nil ?_
       refine hK27 _ ?_
       refine vc_seq fun K28 hK28 => ?_
       refine vc_region ?_
       refine vo_fieldAddr_ptr rfl rfl Try.underlying42 rfl inf40 (by rw [sz40]; decide) ?_
       try simp only [Nat.zero_add]
       refine vo_load_var rfl rfl rfl Try.underlying40 rfl rfl ?_
       refine vo_move_pv rfl rfl ?_
       refine vo_call0 Try.func107 rfl rfl rfl rfl (pairAt_sat (by omega)) ?_
       rintro _ _ ⟨rfl, rfl⟩
       refine ⟨rfl, rfl, .inr rfl, ?_⟩
       refine vo_stM ?_
       refine vo_binI rfl rfl rfl rfl trivial ?_
       refine vo_nil ?_
       refine hK28 _ ?_
       refine vc_cond rfl (fun hc6 => ?_) (fun hc6 => ?_)
       ·try simp only [zq0, zq1, zq2, zq3, zq4, zq5, zq6, zq7, zq8, zq9, zqa, zqb, zqc, zqd, zqe, zqf] at hc6
        refine vc_drawB [7, 9] (by kernel_rfl) ?_
        change VLB [7, 9] _ _ _ 10 _ _ _
        refine vb_light0 0 rfl rfl rfl (by kernel_rfl) (by kernel_rfl) (by kernel_rfl) (wnt_none rfl) (l0_fieldAddr_ptr rfl Try.underlying42 rfl inf40 (by rw [sz40]; decide)) ?_
        try simp only [Nat.zero_add]
        refine vb_light 1 [0, 2, 3, 4, 5, 6] rfl rfl rfl (by kernel_rfl) (by kernel_rfl) (by kernel_rfl) (by kernel_rfl) (by kernel_rfl) (wnt_none rfl) (lb_load_var hC rfl rfl rfl rfl Try.underlying40 rfl rfl) ?_
        refine vb_light0 2 rfl rfl rfl (by kernel_rfl) (by kernel_rfl) (by kernel_rfl) (wnt_none rfl) (l0_move_pv rfl) ?_
        refine vb_light0 3 rfl rfl rfl (by kernel_rfl) (by kernel_rfl) (by kernel_rfl) (wnt_none rfl) (l0_move_ptr rfl) ?_
        refine vb_any1 4 (by kernel_rfl) ?_
        refine sb_call 4 [0] hC rfl rfl (wnt_none rfl) Try.func72 rfl rfl rfl rfl rfl rfl rfl (pick_sat hc (by omega)) ?_
        rintro _ _ ⟨x85, ⟨hx850, hx851⟩, rfl, rfl⟩
        refine ⟨Nat.le_of_ble_eq_true rfl, ⟨rfl, rfl, rfl, rfl⟩, .inl rfl, ?_⟩
        refine vb_stM ?_
        refine vb_light0 5 rfl rfl rfl (by kernel_rfl) (by kernel_rfl) (by kernel_rfl) (wnt_none rfl) (l0_build S44 rfl rfl) ?_
        refine vb_stM ?_
        refine vb_ext 6 rfl (by kernel_rfl) rfl (xt_buildSlice E40 rfl rfl rfl rfl) ?_
        refine vb_stM ?_
        refine vb_one 7 rfl (by kernel_rfl) rfl ?_
        refine vo_append E40 rfl (by omega) rfl rfl rfl sd sd ?_
        refine vo_stM ?_
        try simp only [app_ints, app_intss, app_bools, app_attrs, app_attrss, app_objs, app_pairsX, List.nil_append]
        refine vo_done ⟨rfl, ?_⟩
        refine vb_light0 8 rfl rfl rfl (by kernel_rfl) (by kernel_rfl) (by kernel_rfl) (wnt_none rfl) (l0_fieldAddr_ptr rfl Try.underlying42 rfl inf40 (by rw [sz40]; decide)) ?_
        try simp only [Nat.zero_add]
        refine vb_one 9 rfl (by kernel_rfl) rfl ?_
        refine vo_store_varG rfl rfl rfl rfl inf40 sz40 rfl ?_
        refine vo_stM ?_
        refine vo_done ⟨rfl, ?_⟩
        refine vb_nil (by kernel_rfl) ?_
        refine hK26 _ ?_
        refine vc_region ?_
        refine vo_move_pv rfl rfl ?_
        refine vo_binI rfl rfl rfl rfl sd ?_
        refine vo_assign_pv rfl rfl ?_
        refine vo_nil ?_
        change againE _ _ _ _ _ _ _ _ _ _
        refine againE_mk rfl rfl rfl rfl rfl rfl ⟨_, ?_, n4 - 1, Pq ++ [(x75, x85)], _, rfl, ?_, rfl, rfl⟩
        ·omega
        ·rw [List.length_append, List.length_singleton]; omega
       ·try simp only [zq0, zq1, zq2, zq3, zq4, zq5, zq6, zq7, zq8, zq9, zqa, zqb, zqc, zqd, zqe, zqf] at hc6
        refine vc_skip ?_
        refine hK26 _ ?_
        refine vc_region ?_
        refine vo_move_pv rfl rfl ?_
        refine vo_binI rfl rfl rfl rfl sd ?_
        refine vo_assign_pv rfl rfl ?_
        refine vo_nil ?_
        change againE _ _ _ _ _ _ _ _ _ _
        refine againE_mk rfl rfl rfl rfl rfl rfl ⟨_, ?_, n4 - 1, Pq, _, rfl, ?_, rfl, rfl⟩
        ·omega
        ·omega
      ·try simp only [zq0, zq1, zq2, zq3, zq4, zq5, zq6, zq7, zq8, zq9, zqa, zqb, zqc, zqd, zqe, zqf] at hc5
       refine vc_exit ?_
       refine hK22 _ ?_
       refine vc_region ?_
       refine vo_fieldAddr_ptr rfl rfl Try.underlying27 rfl inf25 (by rw [sz25]; decide) ?_
       try simp only [Nat.zero_add]
       refine vo_load_var rfl rfl rfl Try.underlying25 rfl rfl ?_
       refine vo_load_varG rfl rfl rfl Try.underlying42 rfl inf42 sz42 rfl ?_
       refine vo_stM ?_
       refine vo_totree 9 rfl ((by first | exact plain_attrs _ | exact plain_pairsX _)) ?_
       refine vo_stM ?_
       refine vo_weaktree 9 rfl ?_
       refine vo_stM ?_
       refine vo_build_treeG (p := .agg _) E25 rfl rfl rfl rfl rfl rfl rfl hC rfl (by first | decide | simp [refsOf]) ?_
       refine vo_stM ?_
       refine vo_append_treeG E25 rfl (by omega) (by omega) rfl rfl rfl rfl rfl sd sd sd ?_
       refine vo_stM ?_
       try simp only [app_ints, app_intss, app_bools, app_attrs, app_attrss, app_objs, app_pairsX, List.nil_append]
       refine vo_fieldAddr_ptr rfl rfl Try.underlying27 rfl inf25 (by rw [sz25]; decide) ?_
       try simp only [Nat.zero_add]
       refine vo_store_varG rfl rfl rfl rfl inf25 sz25 rfl ?_
       refine vo_stM ?_
       refine vo_nil ?_
       refine hK20 _ ?_
       refine vc_region ?_
       refine vo_move_pv rfl rfl ?_
       refine vo_binI rfl rfl rfl rfl sd ?_
       refine vo_assign_pv rfl rfl ?_
       refine vo_nil ?_
       change againE _ _ _ _ _ _ _ _ _ _
       refine againE_mk rfl rfl rfl rfl rfl rfl ⟨_, ?_, n - 1, O ++ [⟨y65, Pq⟩], q4, rfl, ?_, ?_, rfl, rfl⟩
       ·omega
       ·rw [List.length_append, List.length_singleton]; omega
       ·exact app_all hO (by show Pq.length ≤ 3; omega)
     ·refine sb_ext 13 rfl rfl (xt_alloc Z42) ?_
      refine vb_stM ?_
      refine vb_any1 11 (by kernel_rfl) ?_
      refine sb_call 11 [0] hC rfl rfl (wnt_none rfl) Try.func99 rfl rfl rfl rfl rfl rfl rfl (one_sat (list := [_,_]) hc (by omega) (by simp) (by simp)) ?_
      rintro _ _ ⟨y65, hy65, rfl, rfl⟩
      refine ⟨Nat.le_of_ble_eq_true rfl, ⟨rfl, rfl, rfl, rfl⟩, .inl rfl, ?_⟩
      refine vb_stM ?_
      refine vb_light0 12 rfl rfl rfl (by kernel_rfl) (by kernel_rfl) (by kernel_rfl) (wnt_none rfl) (l0_buildG S42n rfl rfl) ?_
      refine vb_stM ?_
      refine vb_one 14 rfl (by kernel_rfl) rfl ?_
      refine vo_store_varG rfl rfl rfl rfl inf42 sz42 rfl ?_
      refine vo_stM ?_
      refine vo_done ⟨rfl, ?_⟩
      refine vb_nil (by kernel_rfl) ?_
      refine hK21 _ ?_
      refine vc_seq fun K29 hK29 => ?_
      refine vc_seq fun K30 hK30 => ?_
      refine vc_region ?_
      refine vo_move_ptr rfl rfl ?_
      refine vo_buildSlice E34 rfl rfl rfl rfl rfl ?_
      refine vo_stM ?_
      refine vo_expose 8 (by omega) rfl ?_
      refine vo_stM ?_
      refine vo_weaken 68 rfl ?_
      refine vo_stM ?_
      refine vo_call [0] Try.func99 rfl rfl rfl rfl rfl rfl rfl (one_sat (list := [_,_,_,_]) hc (by omega) (by simp) (by simp)) ?_
      rintro _ _ ⟨y69, hy69, rfl, rfl⟩
      refine ⟨Nat.le_of_ble_eq_true rfl, ⟨rfl, rfl, rfl, rfl⟩, .inl rfl, ?_⟩
      refine vo_stM ?_
      refine vo_assign_pv rfl rfl ?_
      refine vo_nil ?_
      refine hK30 _ ?_
      refine vc_block ?_
      refine vc_own_cell 7 1 E40 rfl rfl ?_
      refine vc_stM ?_
      refine vc_stM ?_
      refine vc_loopE [0, 2, 3, 8, 9] [10] [0, 9] _ _ (fun mz vs rs => ∃ (n4 : Int) (Pq : List (Int × Int)) (q4 : Nat), mz = n4.toNat ∧ ((0 ≤ n4 ∧ Pq.length + n4 ≤ 3 ∧ q4 + 3 * n4 ≤ q3 + 15)) ∧ vs = [i64 n4] ∧ rs = [rdr nl c q4, Row.own 44 2 none true (Pq.map pairP)]) (y69.toNat) rfl rfl (le_len hC rfl) ⟨rfl, rfl, rfl⟩ rfl ⟨y69, [], _, rfl, (by simp at hy69; simp; omega), rfl, rfl⟩ ?_
      rintro mz vs rs - - ⟨n4, Pq, q4, rfl, hn4, rfl, rfl⟩
      refine vc_stM ?_
      refine vc_seq fun K31 hK31 => ?_
      refine vc_seq fun K32 hK32 => ?_
      refine vc_region ?_
      refine vo_move_pv rfl rfl ?_
      refine vo_binI rfl rfl rfl rfl trivial ?_
      refine vo_nil ?_
      refine hK32 _ ?_
      refine vc_cond rfl (fun hc7 => ?_) (fun hc7 => ?_)
      ·try simp only [zq0, zq1, zq2, zq3, zq4, zq5, zq6, zq7, zq8, zq9, zqa, zqb, zqc, zqd, zqe, zqf] at hc7
       refine vc_skip ?_
       refine hK31 _ ?_
       refine vc_seq fun K33 hK33 => ?_
       refine vc_block ?_
       refine vc_seq fun K34 hK34 => ?_
       refine vc_region ?_
       refine vo_move_ptr rfl rfl ?_
       refine vo_call [0] Try.func72 rfl rfl rfl rfl rfl rfl rfl (pick_sat hc (by omega)) ?_
       rintro _ _ ⟨x75, ⟨hx750, hx751⟩, rfl, rfl⟩
       refine ⟨Nat.le_of_ble_eq_true rfl, ⟨rfl, rfl, rfl, rfl⟩, .inl rfl, ?_⟩
       refine vo_stM ?_
       refine vo_assign_pv rfl rfl ?_
       refine vo_nil ?_
       refine hK34 _ ?_
       refine vc_seq fun K35 hK35 => ?_
       refine vc_region ?_
       refine vo_fieldAddr_ptr rfl rfl Try.underlying42 rfl inf40 (by rw [sz40]; decide) ?_
       try simp only [Nat.zero_add]
       refine vo_load_var rfl rfl rfl Try.underlying40 rfl rfl ?_
       refine vo_move_pv rfl rfl ?_
       refine vo_call0 Try.func107 rfl rfl rfl rfl (pairAt_sat (by omega)) ?_
       rintro _ _ ⟨rfl, rfl⟩
       refine ⟨rfl, rfl, .inr rfl, ?_⟩
       refine vo_stM ?_
       refine vo_binI rfl rfl rfl rfl trivial ?_
       refine vo_nil ?_
       refine hK35 _ ?_
       refine vc_cond rfl (fun hc8 => ?_) (fun hc8 => ?_)
       ·try simp only [zq0, zq1, zq2, zq3, zq4, zq5, zq6, zq7, zq8, zq9, zqa, zqb, zqc, zqd, zqe, zqf] at hc8
        refine vc_drawB [7, 9] (by kernel_rfl) ?_
        change VLB [7, 9] _ _ _ 10 _ _ _
        refine vb_light0 0 rfl rfl rfl (by kernel_rfl) (by kernel_rfl) (by kernel_rfl) (wnt_none rfl) (l0_fieldAddr_ptr rfl Try.underlying42 rfl inf40 (by rw [sz40]; decide)) ?_
        try simp only [Nat.zero_add]
        refine vb_light 1 [0, 2, 3, 4, 5, 6] rfl rfl rfl (by kernel_rfl) (by kernel_rfl) (by kernel_rfl) (by kernel_rfl) (by kernel_rfl) (wnt_none rfl) (lb_load_var hC rfl rfl rfl rfl Try.underlying40 rfl rfl) ?_
        refine vb_light0 2 rfl rfl rfl (by kernel_rfl) (by kernel_rfl) (by kernel_rfl) (wnt_none rfl) (l0_move_pv rfl) ?_
        refine vb_light0 3 rfl rfl rfl (by kernel_rfl) (by kernel_rfl) (by kernel_rfl) (wnt_none rfl) (l0_move_ptr rfl) ?_
        refine vb_any1 4 (by kernel_rfl) ?_
        refine sb_call 4 [0] hC rfl rfl (wnt_none rfl) Try.func72 rfl rfl rfl rfl rfl rfl rfl (pick_sat hc (by omega)) ?_
        rintro _ _ ⟨x85, ⟨hx850, hx851⟩, rfl, rfl⟩
        refine ⟨Nat.le_of_ble_eq_true rfl, ⟨rfl, rfl, rfl, rfl⟩, .inl rfl, ?_⟩
        refine vb_stM ?_
        refine vb_light0 5 rfl rfl rfl (by kernel_rfl) (by kernel_rfl) (by kernel_rfl) (wnt_none rfl) (l0_build S44 rfl rfl) ?_
        refine vb_stM ?_
        refine vb_ext 6 rfl (by kernel_rfl) rfl (xt_buildSlice E40 rfl rfl rfl rfl) ?_
        refine vb_stM ?_
        refine vb_one 7 rfl (by kernel_rfl) rfl ?_
        refine vo_append E40 rfl (by omega) rfl rfl rfl sd sd ?_
        refine vo_stM ?_
        try simp only [app_ints, app_intss, app_bools, app_attrs, app_attrss, app_objs, app_pairsX, List.nil_append]
        refine vo_done ⟨rfl, ?_⟩
        refine vb_light0 8 rfl rfl rfl (by kernel_rfl) (by kernel_rfl) (by kernel_rfl) (wnt_none rfl) (l0_fieldAddr_ptr rfl Try.underlying42 rfl inf40 (by rw [sz40]; decide)) ?_
        try simp only [Nat.zero_add]
        refine vb_one 9 rfl (by kernel_rfl) rfl ?_
        refine vo_store_varG rfl rfl rfl rfl inf40 sz40 rfl ?_
        refine vo_stM ?_
        refine vo_done ⟨rfl, ?_⟩
        refine vb_nil (by kernel_rfl) ?_
        refine hK33 _ ?_
        refine vc_region ?_
        refine vo_move_pv rfl rfl ?_
        refine vo_binI rfl rfl rfl rfl sd ?_
        refine vo_assign_pv rfl rfl ?_
        refine vo_nil ?_
        change againE _ _ _ _ _ _ _ _ _ _
        refine againE_mk rfl rfl rfl rfl rfl rfl ⟨_, ?_, n4 - 1, Pq ++ [(x75, x85)], _, rfl, ?_, rfl, rfl⟩
        ·omega
        ·rw [List.length_append, List.length_singleton]; omega
       ·try simp only [zq0, zq1, zq2, zq3, zq4, zq5, zq6, zq7, zq8, zq9, zqa, zqb, zqc, zqd, zqe, zqf] at hc8
        refine vc_skip ?_
        refine hK33 _ ?_
        refine vc_region ?_
        refine vo_move_pv rfl rfl ?_
        refine vo_binI rfl rfl rfl rfl sd ?_
        refine vo_assign_pv rfl rfl ?_
        refine vo_nil ?_
        change againE _ _ _ _ _ _ _ _ _ _
        refine againE_mk rfl rfl rfl rfl rfl rfl ⟨_, ?_, n4 - 1, Pq, _, rfl, ?_, rfl, rfl⟩
        ·omega
        ·omega
      ·try simp only [zq0, zq1, zq2, zq3, zq4, zq5, zq6, zq7, zq8, zq9, zqa, zqb, zqc, zqd, zqe, zqf] at hc7
       refine vc_exit ?_
       refine hK29 _ ?_
       refine vc_region ?_
       refine vo_fieldAddr_ptr rfl rfl Try.underlying27 rfl inf25 (by rw [sz25]; decide) ?_
       try simp only [Nat.zero_add]
       refine vo_load_var rfl rfl rfl Try.underlying25 rfl rfl ?_
       refine vo_load_varG rfl rfl rfl Try.underlying42 rfl inf42 sz42 rfl ?_
       refine vo_stM ?_
       refine vo_totree 9 rfl ((by first | exact plain_attrs _ | exact plain_pairsX _)) ?_
       refine vo_stM ?_
       refine vo_weaktree 9 rfl ?_
       refine vo_stM ?_
       refine vo_build_treeG (p := .agg _) E25 rfl rfl rfl rfl rfl rfl rfl hC rfl (by first | decide | simp [refsOf]) ?_
       refine vo_stM ?_
       refine vo_append_treeG E25 rfl (by omega) (by omega) rfl rfl rfl rfl rfl sd sd sd ?_
       refine vo_stM ?_
       try simp only [app_ints, app_intss, app_bools, app_attrs, app_attrss, app_objs, app_pairsX, List.nil_append]
       refine vo_fieldAddr_ptr rfl rfl Try.underlying27 rfl inf25 (by rw [sz25]; decide) ?_
       try simp only [Nat.zero_add]
       refine vo_store_varG rfl rfl rfl rfl inf25 sz25 rfl ?_
       refine vo_stM ?_
       refine vo_nil ?_
       refine hK20 _ ?_
       refine vc_region ?_
       refine vo_move_pv rfl rfl ?_
       refine vo_binI rfl rfl rfl rfl sd ?_
       refine vo_assign_pv rfl rfl ?_
       refine vo_nil ?_
       change againE _ _ _ _ _ _ _ _ _ _
       refine againE_mk rfl rfl rfl rfl rfl rfl ⟨_, ?_, n - 1, O ++ [⟨y65, Pq⟩], q4, rfl, ?_, ?_, rfl, rfl⟩
       ·omega
       ·rw [List.length_append, List.length_singleton]; omega
       ·exact app_all hO (by show Pq.length ≤ 3; omega)
    ·refine sb_ext 13 rfl rfl (xt_alloc Z42) ?_
     refine vb_stM ?_
     refine vb_ext 10 rfl (by kernel_rfl) rfl (xt_buildSlice E34 rfl rfl rfl rfl) ?_
     refine vb_stM ?_
     refine vb_expose 7 (by omega) rfl ?_
     refine vb_stM ?_
     refine vb_weaken 64 rfl ?_
     refine vb_stM ?_
     refine vb_any1 11 (by kernel_rfl) ?_
     refine sb_call 11 [0] hC rfl rfl (wnt_none rfl) Try.func99 rfl rfl rfl rfl rfl rfl rfl (one_sat (list := [_,_]) hc (by omega) (by simp) (by simp)) ?_
     rintro _ _ ⟨y65, hy65, rfl, rfl⟩
     refine ⟨Nat.le_of_ble_eq_true rfl, ⟨rfl, rfl, rfl, rfl⟩, .inl rfl, ?_⟩
     refine vb_stM ?_
     refine vb_light0 12 rfl rfl rfl (by kernel_rfl) (by kernel_rfl) (by kernel_rfl) (wnt_none rfl) (l0_buildG S42n rfl rfl) ?_
     refine vb_stM ?_
     refine vb_one 14 rfl (by kernel_rfl) rfl ?_
     refine vo_store_varG rfl rfl rfl rfl inf42 sz42 rfl ?_
     refine vo_stM ?_
     refine vo_done ⟨rfl, ?_⟩
     refine vb_nil (by kernel_rfl) ?_
     refine hK21 _ ?_
     refine vc_seq fun K36 hK36 => ?_
     refine vc_seq fun K37 hK37 => ?_
     refine vc_region ?_
     refine vo_move_ptr rfl rfl ?_
     refine vo_buildSlice E34 rfl rfl rfl rfl rfl ?_
     refine vo_stM ?_
     refine vo_expose 8 (by omega) rfl ?_
     refine vo_stM ?_
     refine vo_weaken 68 rfl ?_
     refine vo_stM ?_
     refine vo_call [0] Try.func99 rfl rfl rfl rfl rfl rfl rfl (one_sat (list := [_,_,_,_]) hc (by omega) (by simp) (by simp)) ?_
     rintro _ _ ⟨y69, hy69, rfl, rfl⟩
     refine ⟨Nat.le_of_ble_eq_true rfl, ⟨rfl, rfl, rfl, rfl⟩, .inl rfl, ?_⟩
     refine vo_stM ?_
     refine vo_assign_pv rfl rfl ?_
     refine vo_nil ?_
     refine hK37 _ ?_
     refine vc_block ?_
     refine vc_own_cell 6 1 E40 rfl rfl ?_
     refine vc_stM ?_
     refine vc_stM ?_
     refine vc_loopE [0, 2, 3, 8, 9] [10] [0, 9] _ _ (fun mz vs rs => ∃ (n4 : Int) (Pq : List (Int × Int)) (q4 : Nat), mz = n4.toNat ∧ ((0 ≤ n4 ∧ Pq.length + n4 ≤ 3 ∧ q4 + 3 * n4 ≤ q3 + 15)) ∧ vs = [i64 n4] ∧ rs = [rdr nl c q4, Row.own 44 2 none true (Pq.map pairP)]) (y69.toNat) rfl rfl (le_len hC rfl) ⟨rfl, rfl, rfl⟩ rfl ⟨y69, [], _, rfl, (by simp at hy69; simp; omega), rfl, rfl⟩ ?_
     rintro mz vs rs - - ⟨n4, Pq, q4, rfl, hn4, rfl, rfl⟩
     refine vc_stM ?_
     refine vc_seq fun K38 hK38 => ?_
     refine vc_seq fun K39 hK39 => ?_
     refine vc_region ?_
     refine vo_move_pv rfl rfl ?_
     refine vo_binI rfl rfl rfl rfl trivial ?_
     refine vo_nil ?_
     refine hK39 _ ?_
     refine vc_cond rfl (fun hc9 => ?_) (fun hc9 => ?_)
     ·try simp only [zq0, zq1, zq2, zq3, zq4, zq5, zq6, zq7, zq8, zq9, zqa, zqb, zqc, zqd, zqe, zqf] at hc9
      refine vc_skip ?_
      refine hK38 _ ?_
      refine vc_seq fun K40 hK40 => ?_
      refine vc_block ?_
      refine vc_seq fun K41 hK41 => ?_
      refine vc_region ?_
      refine vo_move_ptr rfl rfl ?_
      refine vo_call [0] Try.func72 rfl rfl rfl rfl rfl rfl rfl (pick_sat hc (by omega)) ?_
      rintro _ _ ⟨x75, ⟨hx750, hx751⟩, rfl, rfl⟩
      refine ⟨Nat.le_of_ble_eq_true rfl, ⟨rfl, rfl, rfl, rfl⟩, .inl rfl, ?_⟩
      refine vo_stM ?_
      refine vo_assign_pv rfl rfl ?_
      refine vo_nil ?_
      refine hK41 _ ?_
      refine vc_seq fun K42 hK42 => ?_
      refine vc_region ?_
      refine vo_fieldAddr_ptr rfl rfl Try.underlying42 rfl inf40 (by rw [sz40]; decide) ?_
      try simp only [Nat.zero_add]
      refine vo_load_var rfl rfl rfl Try.underlying40 rfl rfl ?_
      refine vo_move_pv rfl rfl ?_
      refine vo_call0 Try.func107 rfl rfl rfl rfl (pairAt_sat (by omega)) ?_
      rintro _ _ ⟨rfl, rfl⟩
      refine ⟨rfl, rfl, .inr rfl, ?_⟩
      refine vo_stM ?_
      refine vo_binI rfl rfl rfl rfl trivial ?_
      refine vo_nil ?_
      refine hK42 _ ?_
      refine vc_cond rfl (fun hc10 => ?_) (fun hc10 => ?_)
      ·try simp only [zq0, zq1, zq2, zq3, zq4, zq5, zq6, zq7, zq8, zq9, zqa, zqb, zqc, zqd, zqe, zqf] at hc10
       refine vc_drawB [7, 9] (by kernel_rfl) ?_
       change VLB [7, 9] _ _ _ 10 _ _ _
       refine vb_light0 0 rfl rfl rfl (by kernel_rfl) (by kernel_rfl) (by kernel_rfl) (wnt_none rfl) (l0_fieldAddr_ptr rfl Try.underlying42 rfl inf40 (by rw [sz40]; decide)) ?_
       try simp only [Nat.zero_add]
       refine vb_light 1 [0, 2, 3, 4, 5, 6] rfl rfl rfl (by kernel_rfl) (by kernel_rfl) (by kernel_rfl) (by kernel_rfl) (by kernel_rfl) (wnt_none rfl) (lb_load_var hC rfl rfl rfl rfl Try.underlying40 rfl rfl) ?_
       refine vb_light0 2 rfl rfl rfl (by kernel_rfl) (by kernel_rfl) (by kernel_rfl) (wnt_none rfl) (l0_move_pv rfl) ?_
       refine vb_light0 3 rfl rfl rfl (by kernel_rfl) (by kernel_rfl) (by kernel_rfl) (wnt_none rfl) (l0_move_ptr rfl) ?_
       refine vb_any1 4 (by kernel_rfl) ?_
       refine sb_call 4 [0] hC rfl rfl (wnt_none rfl) Try.func72 rfl rfl rfl rfl rfl rfl rfl (pick_sat hc (by omega)) ?_
       rintro _ _ ⟨x85, ⟨hx850, hx851⟩, rfl, rfl⟩
       refine ⟨Nat.le_of_ble_eq_true rfl, ⟨rfl, rfl, rfl, rfl⟩, .inl rfl, ?_⟩
       refine vb_stM ?_
       refine vb_light0 5 rfl rfl rfl (by kernel_rfl) (by kernel_rfl) (by kernel_rfl) (wnt_none rfl) (l0_build S44 rfl rfl) ?_
       refine vb_stM ?_
       refine vb_ext 6 rfl (by kernel_rfl) rfl (xt_buildSlice E40 rfl rfl rfl rfl) ?_
       refine vb_stM ?_
       refine vb_one 7 rfl (by kernel_rfl) rfl ?_
       refine vo_append E40 rfl (by omega) rfl rfl rfl sd sd ?_
       refine vo_stM ?_
       try simp only [app_ints, app_intss, app_bools, app_attrs, app_attrss, app_objs, app_pairsX, List.nil_append]
       refine vo_done ⟨rfl, ?_⟩
       refine vb_light0 8 rfl rfl rfl (by kernel_rfl) (by kernel_rfl) (by kernel_rfl) (wnt_none rfl) (l0_fieldAddr_ptr rfl Try.underlying42 rfl inf40 (by rw [sz40]; decide)) ?_
       try simp only [Nat.zero_add]
       refine vb_one 9 rfl (by kernel_rfl) rfl ?_
       refine vo_store_varG rfl rfl rfl rfl inf40 sz40 rfl ?_
       refine vo_stM ?_
       refine vo_done ⟨rfl, ?_⟩
       refine vb_nil (by kernel_rfl) ?_
       refine hK40 _ ?_
       refine vc_region ?_
       refine vo_move_pv rfl rfl ?_
       refine vo_binI rfl rfl rfl rfl sd ?_
       refine vo_assign_pv rfl rfl ?_
       refine vo_nil ?_
       change againE _ _ _ _ _ _ _ _ _ _
       refine againE_mk rfl rfl rfl rfl rfl rfl ⟨_, ?_, n4 - 1, Pq ++ [(x75, x85)], _, rfl, ?_, rfl, rfl⟩
       ·omega
       ·rw [List.length_append, List.length_singleton]; omega
      ·try simp only [zq0, zq1, zq2, zq3, zq4, zq5, zq6, zq7, zq8, zq9, zqa, zqb, zqc, zqd, zqe, zqf] at hc10
       refine vc_skip ?_
       refine hK40 _ ?_
       refine vc_region ?_
       refine vo_move_pv rfl rfl ?_
       refine vo_binI rfl rfl rfl rfl sd ?_
       refine vo_assign_pv rfl rfl ?_
       refine vo_nil ?_
       change againE _ _ _ _ _ _ _ _ _ _
       refine againE_mk rfl rfl rfl rfl rfl rfl ⟨_, ?_, n4 - 1, Pq, _, rfl, ?_, rfl, rfl⟩
       ·omega
       ·omega
     ·try simp only [zq0, zq1, zq2, zq3, zq4, zq5, zq6, zq7, zq8, zq9, zqa, zqb, zqc, zqd, zqe, zqf] at hc9
      refine vc_exit ?_
      refine hK36 _ ?_
      refine vc_region ?_
      refine vo_fieldAddr_ptr rfl rfl Try.underlying27 rfl inf25 (by rw [sz25]; decide) ?_
      try simp only [Nat.zero_add]
      refine vo_load_var rfl rfl rfl Try.underlying25 rfl rfl ?_
      refine vo_load_varG rfl rfl rfl Try.underlying42 rfl inf42 sz42 rfl ?_
      refine vo_stM ?_
      refine vo_totree 9 rfl ((by first | exact plain_attrs _ | exact plain_pairsX _)) ?_
      refine vo_stM ?_
      refine vo_weaktree 9 rfl ?_
      refine vo_stM ?_
      refine vo_build_treeG (p := .agg _) E25 rfl rfl rfl rfl rfl rfl rfl hC rfl (by first | decide | simp [refsOf]) ?_
      refine vo_stM ?_
      refine vo_append_treeG E25 rfl (by omega) (by omega) rfl rfl rfl rfl rfl sd sd sd ?_
      refine vo_stM ?_
      try simp only [app_ints, app_intss, app_bools, app_attrs, app_attrss, app_objs, app_pairsX, List.nil_append]
      refine vo_fieldAddr_ptr rfl rfl Try.underlying27 rfl inf25 (by rw [sz25]; decide) ?_
      try simp only [Nat.zero_add]
      refine vo_store_varG rfl rfl rfl rfl inf25 sz25 rfl ?_
      refine vo_stM ?_
      refine vo_nil ?_
      refine hK20 _ ?_
      refine vc_region ?_
      refine vo_move_pv rfl rfl ?_
      refine vo_binI rfl rfl rfl rfl sd ?_
      refine vo_assign_pv rfl rfl ?_
      refine vo_nil ?_
      change againE _ _ _ _ _ _ _ _ _ _
      refine againE_mk rfl rfl rfl rfl rfl rfl ⟨_, ?_, n - 1, O ++ [⟨y65, Pq⟩], q4, rfl, ?_, ?_, rfl, rfl⟩
      ·omega
      ·rw [List.length_append, List.length_singleton]; omega
      ·exact app_all hO (by show Pq.length ≤ 3; omega)
   ·refine sb_ext 13 rfl rfl (xt_alloc Z42) ?_
    refine vb_stM ?_
    refine vb_any1 9 (by kernel_rfl) ?_
    refine sb_call 9 [0] hC rfl rfl (wnt_none rfl) Try.func72 rfl rfl rfl rfl rfl rfl rfl (pick_sat hc (by omega)) ?_
    rintro _ _ ⟨x63, ⟨hx630, hx631⟩, rfl, rfl⟩
    refine ⟨Nat.le_of_ble_eq_true rfl, ⟨rfl, rfl, rfl, rfl⟩, .inl rfl, ?_⟩
    refine vb_stM ?_
    refine vb_ext 10 rfl (by kernel_rfl) rfl (xt_buildSlice E34 rfl rfl rfl rfl) ?_
    refine vb_stM ?_
    refine vb_expose 7 (by omega) rfl ?_
    refine vb_stM ?_
    refine vb_weaken 64 rfl ?_
    refine vb_stM ?_
    refine vb_any1 11 (by kernel_rfl) ?_
    refine sb_call 11 [0] hC rfl rfl (wnt_none rfl) Try.func99 rfl rfl rfl rfl rfl rfl rfl (one_sat (list := [_,_]) hc (by omega) (by simp) (by simp)) ?_
    rintro _ _ ⟨y65, hy65, rfl, rfl⟩
    refine ⟨Nat.le_of_ble_eq_true rfl, ⟨rfl, rfl, rfl, rfl⟩, .inl rfl, ?_⟩
    refine vb_stM ?_
    refine vb_light0 12 rfl rfl rfl (by kernel_rfl) (by kernel_rfl) (by kernel_rfl) (wnt_none rfl) (l0_buildG S42n rfl rfl) ?_
    refine vb_stM ?_
    refine vb_one 14 rfl (by kernel_rfl) rfl ?_
    refine vo_store_varG rfl rfl rfl rfl inf42 sz42 rfl ?_
    refine vo_stM ?_
    refine vo_done ⟨rfl, ?_⟩
    refine vb_nil (by kernel_rfl) ?_
    refine hK21 _ ?_
    refine vc_seq fun K43 hK43 => ?_
    refine vc_seq fun K44 hK44 => ?_
    refine vc_region ?_
    refine vo_move_ptr rfl rfl ?_
    refine vo_buildSlice E34 rfl rfl rfl rfl rfl ?_
    refine vo_stM ?_
    refine vo_expose 8 (by omega) rfl ?_
    refine vo_stM ?_
    refine vo_weaken 68 rfl ?_
    refine vo_stM ?_
    refine vo_call [0] Try.func99 rfl rfl rfl rfl rfl rfl rfl (one_sat (list := [_,_,_,_]) hc (by omega) (by simp) (by simp)) ?_
    rintro _ _ ⟨y69, hy69, rfl, rfl⟩
    refine ⟨Nat.le_of_ble_eq_true rfl, ⟨rfl, rfl, rfl, rfl⟩, .inl rfl, ?_⟩
    refine vo_stM ?_
    refine vo_assign_pv rfl rfl ?_
    refine vo_nil ?_
    refine hK44 _ ?_
    refine vc_block ?_
    refine vc_own_cell 6 1 E40 rfl rfl ?_
    refine vc_stM ?_
    refine vc_stM ?_
    refine vc_loopE [0, 2, 3, 8, 9] [10] [0, 9] _ _ (fun mz vs rs => ∃ (n4 : Int) (Pq : List (Int × Int)) (q4 : Nat), mz = n4.toNat ∧ ((0 ≤ n4 ∧ Pq.length + n4 ≤ 3 ∧ q4 + 3 * n4 ≤ q3 + 15)) ∧ vs = [i64 n4] ∧ rs = [rdr nl c q4, Row.own 44 2 none true (Pq.map pairP)]) (y69.toNat) rfl rfl (le_len hC rfl) ⟨rfl, rfl, rfl⟩ rfl ⟨y69, [], _, rfl, (by simp at hy69; simp; omega), rfl, rfl⟩ ?_
    rintro mz vs rs - - ⟨n4, Pq, q4, rfl, hn4, rfl, rfl⟩
    refine vc_stM ?_
    refine vc_seq fun K45 hK45 => ?_
    refine vc_seq fun K46 hK46 => ?_
    refine vc_region ?_
    refine vo_move_pv rfl rfl ?_
    refine vo_binI rfl rfl rfl rfl trivial ?_
    refine vo_nil ?_
    refine hK46 _ ?_
    refine vc_cond rfl (fun hc11 => ?_) (fun hc11 => ?_)
    ·try simp only [zq0, zq1, zq2, zq3, zq4, zq5, zq6, zq7, zq8, zq9, zqa, zqb, zqc, zqd, zqe, zqf] at hc11
     refine vc_skip ?_
     refine hK45 _ ?_
     refine vc_seq fun K47 hK47 => ?_
     refine vc_block ?_
     refine vc_seq fun K48 hK48 => ?_
     refine vc_region ?_
     refine vo_move_ptr rfl rfl ?_
     refine vo_call [0] Try.func72 rfl rfl rfl rfl rfl rfl rfl (pick_sat hc (by omega)) ?_
     rintro _ _ ⟨x75, ⟨hx750, hx751⟩, rfl, rfl⟩
     refine ⟨Nat.le_of_ble_eq_true rfl, ⟨rfl, rfl, rfl, rfl⟩, .inl rfl, ?_⟩
     refine vo_stM ?_
     refine vo_assign_pv rfl rfl ?_
     refine vo_nil ?_
     refine hK48 _ ?_
     refine vc_seq fun K49 hK49 => ?_
     refine vc_region ?_
     refine vo_fieldAddr_ptr rfl rfl Try.underlying42 rfl inf40 (by rw [sz40]; decide) ?_
     try simp only [Nat.zero_add]
     refine vo_load_var rfl rfl rfl Try.underlying40 rfl rfl ?_
     refine vo_move_pv rfl rfl ?_
     refine vo_call0 Try.func107 rfl rfl rfl rfl (pairAt_sat (by omega)) ?_
     rintro _ _ ⟨rfl, rfl⟩
     refine ⟨rfl, rfl, .inr rfl, ?_⟩
     refine vo_stM ?_
     refine vo_binI rfl rfl rfl rfl trivial ?_
     refine vo_nil ?_
     refine hK49 _ ?_
     refine vc_cond rfl (fun hc12 => ?_) (fun hc12 => ?_)
     ·try simp only [zq0, zq1, zq2, zq3, zq4, zq5, zq6, zq7, zq8, zq9, zqa, zqb, zqc, zqd, zqe, zqf] at hc12
      refine vc_drawB [7, 9] (by kernel_rfl) ?_
      change VLB [7, 9] _ _ _ 10 _ _ _
      refine vb_light0 0 rfl rfl rfl (by kernel_rfl) (by kernel_rfl) (by kernel_rfl) (wnt_none rfl) (l0_fieldAddr_ptr rfl Try.underlying42 rfl inf40 (by rw [sz40]; decide)) ?_
      try simp only [Nat.zero_add]
      refine vb_light 1 [0, 2, 3, 4, 5, 6] rfl rfl rfl (by kernel_rfl) (by kernel_rfl) (by kernel_rfl) (by kernel_rfl) (by kernel_rfl) (wnt_none rfl) (lb_load_var hC rfl rfl rfl rfl Try.underlying40 rfl rfl) ?_
      refine vb_light0 2 rfl rfl rfl (by kernel_rfl) (by kernel_rfl) (by kernel_rfl) (wnt_none rfl) (l0_move_pv rfl) ?_
      refine vb_light0 3 rfl rfl rfl (by kernel_rfl) (by kernel_rfl) (by kernel_rfl) (wnt_none rfl) (l0_move_ptr rfl) ?_
      refine vb_any1 4 (by kernel_rfl) ?_
      refine sb_call 4 [0] hC rfl rfl (wnt_none rfl) Try.func72 rfl rfl rfl rfl rfl rfl rfl (pick_sat hc (by omega)) ?_
      rintro _ _ ⟨x85, ⟨hx850, hx851⟩, rfl, rfl⟩
      refine ⟨Nat.le_of_ble_eq_true rfl, ⟨rfl, rfl, rfl, rfl⟩, .inl rfl, ?_⟩
      refine vb_stM ?_
      refine vb_light0 5 rfl rfl rfl (by kernel_rfl) (by kernel_rfl) (by kernel_rfl) (wnt_none rfl) (l0_build S44 rfl rfl) ?_
      refine vb_stM ?_
      refine vb_ext 6 rfl (by kernel_rfl) rfl (xt_buildSlice E40 rfl rfl rfl rfl) ?_
      refine vb_stM ?_
      refine vb_one 7 rfl (by kernel_rfl) rfl ?_
      refine vo_append E40 rfl (by omega) rfl rfl rfl sd sd ?_
      refine vo_stM ?_
      try simp only [app_ints, app_intss, app_bools, app_attrs, app_attrss, app_objs, app_pairsX, List.nil_append]
      refine vo_done ⟨rfl, ?_⟩
      refine vb_light0 8 rfl rfl rfl (by kernel_rfl) (by kernel_rfl) (by kernel_rfl) (wnt_none rfl) (l0_fieldAddr_ptr rfl Try.underlying42 rfl inf40 (by rw [sz40]; decide)) ?_
      try simp only [Nat.zero_add]
      refine vb_one 9 rfl (by kernel_rfl) rfl ?_
      refine vo_store_varG rfl rfl rfl rfl inf40 sz40 rfl ?_
      refine vo_stM ?_
      refine vo_done ⟨rfl, ?_⟩
      refine vb_nil (by kernel_rfl) ?_
      refine hK47 _ ?_
      refine vc_region ?_
      refine vo_move_pv rfl rfl ?_
      refine vo_binI rfl rfl rfl rfl sd ?_
      refine vo_assign_pv rfl rfl ?_
      refine vo_nil ?_
      change againE _ _ _ _ _ _ _ _ _ _
      refine againE_mk rfl rfl rfl rfl rfl rfl ⟨_, ?_, n4 - 1, Pq ++ [(x75, x85)], _, rfl, ?_, rfl, rfl⟩
      ·omega
      ·rw [List.length_append, List.length_singleton]; omega
     ·try simp only [zq0, zq1, zq2, zq3, zq4, zq5, zq6, zq7, zq8, zq9, zqa, zqb, zqc, zqd, zqe, zqf] at hc12
      refine vc_skip ?_
      refine hK47 _ ?_
      refine vc_region ?_
      refine vo_move_pv rfl rfl ?_
      refine vo_binI rfl rfl rfl rfl sd ?_
      refine vo_assign_pv rfl rfl ?_
      refine vo_nil ?_
      change againE _ _ _ _ _ _ _ _ _ _
      refine againE_mk rfl rfl rfl rfl rfl rfl ⟨_, ?_, n4 - 1, Pq, _, rfl, ?_, rfl, rfl⟩
      ·omega
      ·omega
    ·try simp only [zq0, zq1, zq2, zq3, zq4, zq5, zq6, zq7, zq8, zq9, zqa, zqb, zqc, zqd, zqe, zqf] at hc11
     refine vc_exit ?_
     refine hK43 _ ?_
     refine vc_region ?_
     refine vo_fieldAddr_ptr rfl rfl Try.underlying27 rfl inf25 (by rw [sz25]; decide) ?_
     try simp only [Nat.zero_add]
     refine vo_load_var rfl rfl rfl Try.underlying25 rfl rfl ?_
     refine vo_load_varG rfl rfl rfl Try.underlying42 rfl inf42 sz42 rfl ?_
     refine vo_stM ?_
     refine vo_totree 9 rfl ((by first | exact plain_attrs _ | exact plain_pairsX _)) ?_
     refine vo_stM ?_
     refine vo_weaktree 9 rfl ?_
     refine vo_stM ?_
     refine vo_build_treeG (p := .agg _) E25 rfl rfl rfl rfl rfl rfl rfl hC rfl (by first | decide | simp [refsOf]) ?_
     refine vo_stM ?_
     refine vo_append_treeG E25 rfl (by omega) (by omega) rfl rfl rfl rfl rfl sd sd sd ?_
     refine vo_stM ?_
     try simp only [app_ints, app_intss, app_bools, app_attrs, app_attrss, app_objs, app_pairsX, List.nil_append]
     refine vo_fieldAddr_ptr rfl rfl Try.underlying27 rfl inf25 (by rw [sz25]; decide) ?_
     try simp only [Nat.zero_add]
     refine vo_store_varG rfl rfl rfl rfl inf25 sz25 rfl ?_
     refine vo_stM ?_
     refine vo_nil ?_
     refine hK20 _ ?_
     refine vc_region ?_
     refine vo_move_pv rfl rfl ?_
     refine vo_binI rfl rfl rfl rfl sd ?_
     refine vo_assign_pv rfl rfl ?_
     refine vo_nil ?_
     change againE _ _ _ _ _ _ _ _ _ _
     refine againE_mk rfl rfl rfl rfl rfl rfl ⟨_, ?_, n - 1, O ++ [⟨y65, Pq⟩], q4, rfl, ?_, ?_, rfl, rfl⟩
     ·omega
     ·rw [List.length_append, List.length_singleton]; omega
     ·exact app_all hO (by show Pq.length ≤ 3; omega)
  ·try simp only [zq0, zq1, zq2, zq3, zq4, zq5, zq6, zq7, zq8, zq9, zqa, zqb, zqc, zqd, zqe, zqf] at hc4
   refine vc_exit ?_
   refine hK16 _ ?_
   refine vc_seq fun K50 hK50 => ?_
   refine vc_region ?_
   refine vo_load_varG rfl rfl rfl Try.underlying27 rfl inf27 sz27 rfl ?_
   refine vo_stM ?_
   refine vo_store_varG rfl rfl rfl rfl inf27 sz27 rfl ?_
   refine vo_stM ?_
   refine vo_nil ?_
   refine hK50 _ ?_
   refine vc_ret ?_
   change retQ _ _ _ _ _
   refine retQ_sel [3, 5] (srows := [_, _]) (.inr rfl) hC rfl rfl rfl rfl rfl rfl rfl ?_
   exact ⟨⟨B, A, O⟩, _, _, ⟨⟨⟨by omega, by omega, hB3⟩, ⟨by show A.length = B.length; omega, hA⟩, by show O.length ≤ 3; omega, hO⟩, by omega⟩, rfl, rfl⟩

end Go.Vl

/- Cells of rows whose slices are their own: a plain one is written; a slice in one is lent to a function, which may write it. -/
namespace Go.Vl
set_option linter.unusedVariables false
set_option linter.unusedSimpArgs false
open Go.RowKit

theorem fits_set {p p' c : PV} {e o : Nat} (hf : p.fits e) (hc : c.isAgg = false) (hp' : p'.cells = p.cells.set o c) : p'.fits e := by
  refine ⟨by rw [hp', List.length_set]; exact hf.1, fun j d hd => ?_⟩
  rw [hp', List.getElem?_set] at hd
  split at hd
  · split at hd
    · cases hd; exact hc
    · cases hd
  · exact hf.2 j d hd

section
variable {P : Program} {C : Ctx} {Q : Go.Exit → St → Prop} {s : St} {ops : Array Oper} {rest : List Oper} {t : Nat} {ty : TypeId} {pos : String} {af : Array Edge}

end
end Go.Vl

/- More for such statements: what is taken out of a row; nil cells of rows. -/
namespace Go.Vl
set_option linter.unusedVariables false
set_option linter.unusedSimpArgs false
open Go.RowKit
section
variable {late : List Nat} {P : Program} {C : Ctx} {ops : Array Oper} {K : St → Prop} {s : St} {n : Nat} {listed : Array Bool}
theorem sb_light (i : Nat) {o : Oper} {t : Nat} {sv : SV} (hi : ops[i]? = some o) (hd : o.dst = some t) (ht : Nat.blt t s.n = true) (hw : Wnt C ops s o true)
    (hl : LtB P C s { o with guard := none } sv) (next : VLB late P C ops n (listed.setIfInBounds i true) K (s.put t sv)) : StepB late P C ops n listed K s i := by
  intro m a w hs
  obtain ⟨v, hrun, hv⟩ := hl m a w hs
  have hy : yieldsB (lentB C) P ops o v a w := .inl ⟨hw m a w hs, hrun⟩
  refine hy.op hi ⟨.inl (ExtB.refl _ w), ?_⟩
  rw [hd]
  exact next m _ _ (hs.put (blt_lt ht) hv)

/-- An operation that leaves all memory as it is, or makes new: what is told of it is not known at once. -/
def XtE (P : Program) (C : Ctx) (s : St) (o : Oper) (α : Type) (s1 : α → St) (sv : SV) : Prop :=
  ∀ m a w, SimM C s m a w → ∃ x v w' m', (execOp a.eval o).run P w = .ok (.value v) w' ∧ SimM C (s1 x) m' a w' ∧ RS w' (Gd C (s1 x).rows m' w') m' (s1 x).rows.length sv v ∧ ExtW w w'
theorem sb_extE (i : Nat) {α : Type} {s1 : α → St} {t : Nat} {op : Op} {ty : TypeId} {pos : String} {af : Array Edge} {sv : SV} (hi : ops[i]? = some ⟨some t, op, ty, pos, af, none⟩) (ht : ∀ x, Nat.blt t (s1 x).n = true)
    (hx : XtE P C s ⟨some t, op, ty, pos, af, none⟩ α s1 sv) (next : ∀ x, VLB late P C ops n (listed.setIfInBounds i true) K ((s1 x).put t sv)) : StepB late P C ops n listed K s i := by
  intro m a w hs
  obtain ⟨x, v, w', m', h1, h2, h3, h4⟩ := hx m a w hs
  unfold wpOp
  simp only [hi]
  have hw : Region.wanted ⟨some t, op, ty, pos, af, none⟩ (yielded ops a.tmps) = true := by simp [Region.wanted]
  rw [if_pos hw]
  left
  unfold Oper.wp
  rw [h1, Oper.upon_value]
  exact ⟨.inl h4.toB, next x m' _ _ (h2.put (blt_lt (ht x)) h3)⟩
end
section
variable {P : Program} {C : Ctx} {Q : Go.Exit → St → Prop} {s : St} {ops : Array Oper} {rest : List Oper} {t : Nat} {ty : TypeId} {pos : String} {af : Array Edge}
theorem xt_load_take1 {x : Operand} {T id R i e' : Nat} {nl nl' : Option Bool} {xs ys : List PV} {D : TypeDesc} (hx : getO s.env x = .ptr id 1 i 0) (hrow : s.rows[id]? = some (.tree R 1 nl none xs)) (hnb : C.nb ≤ id)
    (hT : P.underlying T = some D) (hD : (match D with | .struct _ | .array _ _ => true | _ => false) = false) (hget : xs[i]? = some (.sl nl' e' ys)) :
    XtE P C s ⟨some t, .load T x, ty, pos, af, none⟩ TypeId (fun Rf => ⟨s.n, s.env, s.rows.set id (.tree R 1 nl none (xs.set i .gone)) ++ [.tree Rf e' nl' none ys]⟩) (.ref s.rows.length) := by
  intro m a w hs
  obtain ⟨b, vals, Sf, hv, hb, hown, hf, hcell, hr, hd, hn, hz, hS, h1, h2, hw, _⟩ := hs.elemT hx hrow hget
  obtain ⟨Rf, m', hs', hG, hmv, hnew⟩ := hs.takeRow hnb hrow hget rfl hown hr hd hn hz hS h1 h2 hw
  have hi : i < xs.length := (List.getElem?_eq_some_iff.1 hget).1
  have hlt : i * 1 + 0 < xs.length * 1 := by omega
  have hvl : vals.length = xs.length * 1 := hown.1
  have hu : vals[i * 1 + 0]? = some (vals.getD (i * 1 + 0) undef) := by rw [List.getD_eq_getElem?_getD, List.getElem?_eq_getElem (by omega)]; rfl
  have hcl := hcell _ hlt
  rw [hu] at hcl
  refine ⟨Rf 0, vals.getD (i * 1 + 0) undef, w, m', ?_, hs', ?_, ExtW.refl w⟩
  · have hagg := isAgg_false hT hD w
    simp only [Nat.mul_one, Nat.add_zero] at hcl hv
    simp [execOp, Instr.loadAt, hv, Instr.sureAddr, loadVar, hagg, load, Sem.run, hcl]
  · obtain ⟨g1, g2⟩ := hnew 0 0 rfl
    rw [Nat.add_zero] at g1 g2
    show RS _ _ _ _ (.ref s.rows.length) _
    rw [← g1]
    exact .ref _ g2

theorem TP.nil_any {w : World} {e : Nat} {v : Value} {S : Nat → Prop} (h : TP w (.sl (some true) e []) v S) (e2 : Nat) : TP w (.sl none e2 []) v S := by
  cases h with
  | scal _ _ _ hsc => simp [PV.scal] at hsc
  | sl t e nl xs v vals Sf S hown h1 h2 hw hr hd hn hz hS =>
    have hv := h1 rfl
    subst hv
    have hE : ∀ b, ¬ S b := fun b hb => by
      rcases (hS b).1 hb with h | ⟨q, h⟩
      · simp [blk] at h
      · exact hz q b (by simp) h
    refine .sl t e2 none [] _ [] (fun _ _ => False) S ⟨by simp, .inl ⟨rfl, rfl⟩⟩ (fun h => by cases h) (fun h => by cases h) (fun i x hx => by simp at hx) (fun i x j c u hx => by simp at hx) (fun _ _ _ h => h.elim) (fun _ _ h => h.elim) (fun _ _ _ h => h) (fun b => ⟨fun h => (hE b h).elim, fun h => h.elim (fun h => by simp [blk] at h) (fun ⟨_, h⟩ => h.elim)⟩)

/-- A nil cell of a row is a slice without elements. -/
theorem SimM.nilcell {m : Nat → MV} {a : Act} {w : World} (hs : SimM C s m a w) (id i o e2 : Nat) {R e e' : Nat} {nl : Option Bool} {xs : List PV} {p p' : PV} (hrow : s.rows[id]? = some (.tree R e nl none xs)) (hget : xs[i]? = some p) (hc : p.cells[o]? = some (.sl (some true) e' []))
    (hp' : p'.cells = p.cells.set o (.sl none e2 [])) : SimM C ⟨s.n, s.env, s.rows.set id (.tree R e nl none (xs.set i p'))⟩ m a w := by
  have hlid : liveAt s.rows id := ⟨_, hrow, rfl⟩
  refine hs.storeRow (w' := w) hlid (bo := none) (fun b h => by cases h) (grown_refl w) _ (fun hG => ?_)
  have := (hs.rows id _ hrow).mono hG (Nat.le_refl _) (fun _ _ => rfl) (fun _ _ _ => rfl)
  generalize m id = mv at this ⊢
  have hi : i < xs.length := (List.getElem?_eq_some_iff.1 hget).1
  cases this with
  | tree mv t' e nl h xs vals Sf hown h1 h2 hw hr hd hn hz hS hkn =>
    have hf := hw i p hget
    have ho : o < e := by rw [← hf.1]; exact (List.getElem?_eq_some_iff.1 hc).1
    refine .tree _ _ e nl none (xs.set i p') vals Sf (by rw [List.length_set]; exact hown) h1 h2 (fun k z hz9 => ?_) (fun k z j d u hz9 hd9 hu => .inl ?_) hd hn (by rw [List.length_set]; exact hz) hS (fun _ _ h => by cases h)
    · rw [List.getElem?_set] at hz9
      split at hz9
      · cases hz9; exact fits_set hf rfl hp'
      · exact hw k z hz9
    · by_cases hkj : k = i ∧ j = o
      · obtain ⟨rfl, rfl⟩ := hkj
        rw [List.getElem?_set_self hi] at hz9
        cases hz9
        rw [hp', List.getElem?_set_self (by rw [hf.1]; exact ho)] at hd9
        cases hd9
        exact (hr k p j _ u hget hc hu).tp.nil_any e2
      · have key : ∃ z0, xs[k]? = some z0 ∧ z0.cells[j]? = some d := by
          rw [List.getElem?_set] at hz9
          split at hz9
          · rename_i e1
            subst e1
            cases hz9
            refine ⟨p, hget, ?_⟩
            rw [hp', List.getElem?_set_ne (fun e => hkj ⟨rfl, e.symm⟩)] at hd9
            exact hd9
          · exact ⟨z, hz9, hd9⟩
        obtain ⟨z0, g1, g2⟩ := key
        exact (hr k z0 j d u g1 g2 hu).tp
theorem vo_nilcell {l : List Oper} (id i o e2 : Nat) {R e e' : Nat} {nl : Option Bool} {xs : List PV} {p p' : PV} (hrow : s.rows[id]? = some (.tree R e nl none xs)) (hget : xs[i]? = some p) (hc : p.cells[o]? = some (.sl (some true) e' []))
    (hp' : p'.cells = p.cells.set o (.sl none e2 [])) (next : VO P C ops l Q ⟨s.n, s.env, s.rows.set id (.tree R e nl none (xs.set i p'))⟩) : VO P C ops l Q s :=
  fun a w ⟨m, hs⟩ => next a w ⟨m, hs.nilcell id i o e2 hrow hget hc hp'⟩
end
section
variable {late : List Nat} {P : Program} {C : Ctx} {ops : Array Oper} {K : St → Prop} {s : St} {n : Nat} {listed : Array Bool}
theorem vb_treeown (id : Nat) (hnb : C.nb ≤ id) {el e : Nat} {nl : Option Bool} {xs : List PV} (hrow : s.rows[id]? = some (.tree el e nl none xs))
    (next : VLB late P C ops n listed K ⟨s.n, s.env, s.rows.set id (.own el e nl false xs)⟩) : VLB late P C ops n listed K s :=
  fun m a w hs => next _ a w (hs.treeown id hnb hrow)
end
end Go.Vl

/- Numbers that are written into the cells of lists, one by one (pure). -/
namespace Go.Vl
set_option linter.unusedVariables false
set_option linter.unusedSimpArgs false

def mkS {α : Type} (f : Int → α → α) (g : Int → α → Int) : Int → List α → List α
  | _, [] => []
  | k, x :: r => f k x :: mkS f g (g k x) r
def mkN {α : Type} (g : Int → α → Int) : Int → List α → Int
  | k, [] => k
  | k, x :: r => mkN g (g k x) r
section
variable {α : Type} {f : Int → α → α} {g : Int → α → Int}
theorem getP {fp : α → PV} {L : List α} {i : Nat} (d : α) (h : i < L.length) : (L.map fp)[i]? = some (fp (L.getD i d)) := by
  simp [List.getD, List.getElem?_eq_getElem h]
end
end Go.Vl
namespace Go.Vl
end Go.Vl

namespace Go.Vl
set_option linter.unusedVariables false
set_option linter.unusedSimpArgs false
open Go.Proofs

def medW (w : WorldM) : Prop := (1 ≤ w.bases.length ∧ w.bases.length ≤ 9 ∧ ∀ l ∈ w.bases, l.length ≤ 3) ∧ (w.attrs.length ≤ 10 ∧ ∀ l ∈ w.attrs, l.length ≤ 4) ∧ w.objs.length ≤ 4 ∧ ∀ o ∈ w.objs, o.pairs.length ≤ 3
theorem medW.sw {w : WorldM} (h : medW w) : SW w := by
  obtain ⟨⟨_, h1, h2⟩, ⟨h3, h4⟩, h5, h6⟩ := h
  exact ⟨⟨by omega, fun l hl => by have := h2 l hl; omega⟩, ⟨by omega, fun l hl => by have := h4 l hl; omega⟩, by omega, fun o ho => by have := h6 o ho; unfold SO; omega⟩
theorem attrs_at0 {A : List (List AttrM)} (h : 0 < A.length) : (A.map attrsP)[0]? = some (.sl none 3 ((A.getD 0 []).map attrP)) := getP [] h
theorem app_attrs3 (l : List AttrM) (a b c : Int) : l.map attrP ++ [.agg [.int .i64 a, .int .i64 b, .int .i64 c]] = (l ++ [(⟨a, b, c⟩ : AttrM)]).map attrP := by simp
theorem set_attrss (l : List (List AttrM)) (i : Nat) (a : List AttrM) : (l.map attrsP).set i (.sl none 3 (a.map attrP)) = (l.set i a).map attrsP := by simp [List.map_set]
theorem get_endP {α : Type} (f : α → PV) (l : List α) (x : PV) : (l.map f ++ [x])[l.length]? = some x := by simp
theorem set_endO (l : List ObjM) (a : Int) (x : PV) : (l.map objP ++ [x]).set l.length (.agg [.int .i64 a, .sl none 2 []]) = (l ++ [(⟨a, []⟩ : ObjM)]).map objP := by
  rw [List.set_append_right _ _ (by simp)]; simp
theorem set_endA (l : List (List AttrM)) (x : PV) : (l.map attrsP ++ [x]).set l.length (.sl none 3 []) = (l ++ [([] : List AttrM)]).map attrsP := by
  rw [List.set_append_right _ _ (by simp)]; simp
theorem set_all {α : Type} {p : α → Prop} {l : List α} {x : α} (h : ∀ y ∈ l, p y) (hx : p x) (i : Nat) : ∀ y ∈ l.set i x, p y := by
  intro y hy
  rcases List.mem_or_eq_of_mem_set hy with h1 | h1
  · exact h y h1
  · rw [h1]; exact hx
theorem med1 {W : WorldM} (hb : 1 ≤ W.bases.length ∧ W.bases.length ≤ 9 ∧ ∀ l ∈ W.bases, l.length ≤ 3) (ha1 : W.attrs.length ≤ 9) (ha2 : ∀ l ∈ W.attrs, l.length ≤ 3) (ho1 : W.objs.length ≤ 3) (ho2 : ∀ o ∈ W.objs, o.pairs.length ≤ 3) (y : Int) :
    medW ⟨W.bases, W.attrs.set 0 (W.attrs.getD 0 [] ++ [⟨y, 1, 0⟩]), W.objs⟩ ∧ medW ⟨W.bases, W.attrs, W.objs ++ [⟨y, []⟩]⟩ ∧ medW ⟨W.bases, W.attrs ++ [[]], W.objs⟩ ∧ medW ⟨W.bases, W.attrs, W.objs⟩ := by
  refine ⟨⟨hb, ⟨by rw [List.length_set]; omega, set_all (fun l hl => Nat.le_succ_of_le (ha2 l hl)) (by rw [List.length_append, List.length_singleton]; have := getD_all (p := fun l : List AttrM => l.length ≤ 3) ha2 [] (by simp) 0; omega) 0⟩, Nat.le_succ_of_le ho1, ho2⟩,
    ⟨hb, ⟨by show W.attrs.length ≤ 10; omega, fun l hl => Nat.le_succ_of_le (ha2 l hl)⟩, by rw [List.length_append, List.length_singleton]; omega, app_all ho2 (by simp)⟩,
    ⟨hb, ⟨by rw [List.length_append, List.length_singleton]; omega, app_all (fun l hl => Nat.le_succ_of_le (ha2 l hl)) (by simp)⟩, Nat.le_succ_of_le ho1, ho2⟩,
    ⟨hb, ⟨by show W.attrs.length ≤ 10; omega, fun l hl => Nat.le_succ_of_le (ha2 l hl)⟩, Nat.le_succ_of_le ho1, ho2⟩⟩
theorem plain_nilO (a : Int) : plainX [.agg [.int .i64 a, .sl (some true) 2 []]] := by
  intro x hx c hc
  rw [List.mem_singleton] at hx; subst hx
  simp [PV.cells] at hc
  rcases hc with rfl | rfl <;> rfl
theorem plain_nil1 : plainX [.sl (some true) 0 []] := by
  intro x hx c hc
  rw [List.mem_singleton] at hx; subst hx
  simp [PV.cells] at hc; subst hc; rfl
set_option maxHeartbeats 4000000 in
theorem anyWorld_sat {nl : Option Bool} {c : List (Fin 256)} {p : Nat} (hc : c.length ≤ 2000) (hp : p < 989000) : SatAt Try.prog 98 [.ptr 0 0 0 0] [rdr nl c p] (fun res rows => ∃ (W : WorldM) (q : Nat) (f : Bool), (medW W ∧ q ≤ p + 420) ∧ res = [.pv f (worldP W)] ∧ rows = [rdr nl c q]) := by
 refine sat_entry_G (rs := [(2, some (27, 3))]) Try.func98 rfl rfl (Nat.le_of_ble_eq_true rfl) (Nat.le_of_ble_eq_true rfl) (resTs1 ⟨_, _, Try.underlying27, rfl, inf27, sz27⟩) fun C hC => ?_
 rw [Try.ntmps98]
 replace hC : C.nb = 1 := hC
 refine vc_seq fun K1 hK1 => ?_
 refine vc_region ?_
 refine vo_alloc Z27 rfl ?_
 refine vo_stM ?_
 refine vo_nil ?_
 refine hK1 _ ?_
 refine vc_seq fun K2 hK2 => ?_
 refine vc_region ?_
 refine vo_move_ptr rfl rfl ?_
 refine vo_call [0] Try.func135 rfl rfl rfl rfl rfl rfl rfl (someWorld_sat hc (by omega)) ?_
 rintro _ _ ⟨W, q, f, ⟨⟨⟨hb1, hb2, hb3⟩, ⟨ha1, ha2⟩, ho1, ho2⟩, hq⟩, rfl, rfl⟩
 refine ⟨Nat.le_of_ble_eq_true rfl, ⟨rfl, rfl, rfl, rfl⟩, .inl rfl, ?_⟩
 refine vo_stM ?_
 refine vo_alloc Z27 rfl ?_
 refine vo_stM ?_
 refine vo_store_varG rfl rfl rfl rfl inf27 sz27 rfl ?_
 refine vo_stM ?_
 refine vo_nil ?_
 refine hK2 _ ?_
 refine vc_seq fun K3 hK3 => ?_
 refine vc_seq fun K4 hK4 => ?_
 refine vc_region ?_
 refine vo_move_ptr rfl rfl ?_
 refine vo_call [0] Try.func72 rfl rfl rfl rfl rfl rfl rfl (pick_sat hc (by omega)) ?_
 rintro _ _ ⟨x7, ⟨hx70, hx71⟩, rfl, rfl⟩
 refine ⟨Nat.le_of_ble_eq_true rfl, ⟨rfl, rfl, rfl, rfl⟩, .inl rfl, ?_⟩
 refine vo_stM ?_
 refine vo_nil ?_
 refine hK4 _ ?_
 refine vc_block ?_
 refine vc_seq fun K5 hK5 => ?_
 refine vc_region ?_
 refine vo_binI rfl rfl rfl rfl trivial ?_
 refine vo_assign_pv rfl rfl ?_
 refine vo_nil ?_
 refine hK5 _ ?_
 refine vc_cond rfl (fun hc1 => ?_) (fun hc1 => ?_)
 ·try simp only [zq0, zq1, zq2, zq3, zq4, zq5, zq6, zq7, zq8, zq9, zqa, zqb, zqc, zqd, zqe, zqf] at hc1
  have hat0 : (W.attrs.getD 0 []).length ≤ 3 := getD_all (p := fun l : List AttrM => l.length ≤ 3) ha2 [] (by simp) 0
  refine vc_drawB [11, 13] (by kernel_rfl) ?_
  change VLB [11, 13] _ _ _ 14 _ _ _
  refine vb_light0 0 rfl rfl rfl (by kernel_rfl) (by kernel_rfl) (by kernel_rfl) (wnt_none rfl) (l0_fieldAddr_ptr rfl Try.underlying27 rfl inf24 (by rw [sz24]; decide)) ?_
  try simp only [Nat.zero_add]
  refine vb_light0 2 rfl rfl rfl (by kernel_rfl) (by kernel_rfl) (by kernel_rfl) (wnt_none rfl) (l0_fieldAddr_ptr rfl Try.underlying27 rfl inf24 (by rw [sz24]; decide)) ?_
  try simp only [Nat.zero_add]
  refine vb_light 3 [0, 1, 2, 6, 7, 8, 9, 10] rfl rfl rfl (by kernel_rfl) (by kernel_rfl) (by kernel_rfl) (by kernel_rfl) (by kernel_rfl) (wnt_none rfl) (lb_load_var hC rfl rfl rfl rfl Try.underlying24 rfl rfl) ?_
  refine vb_light0 4 rfl rfl rfl (by kernel_rfl) (by kernel_rfl) (by kernel_rfl) (wnt_none rfl) (l0_index_ref rfl rfl rfl E24.und inf52 sz52 sd sd) ?_
  try simp only [Int.toNat_natCast]
  refine vb_light0 6 rfl rfl rfl (by kernel_rfl) (by kernel_rfl) (by kernel_rfl) (wnt_none rfl) (l0_move_ptr rfl) ?_
  refine vb_any3 1 5 7 (by kernel_rfl) ?_ ?_ ?_
  ·refine sb_light 1 rfl rfl rfl (wnt_none rfl) (lb_load_var hC rfl rfl rfl rfl Try.underlying24 rfl rfl) ?_
   refine vb_any2 5 7 (by kernel_rfl) ?_ ?_
   ·refine sb_extE 5 rfl (fun _ => rfl) (xt_load_take1 rfl rfl (by omega) Try.underlying52 rfl (attrs_at0 (by omega))) fun Rf15 => ?_
    refine vb_stM ?_
    refine vb_treeown 5 (by omega) rfl ?_
    refine vb_stM ?_
    refine vb_ext 7 rfl (by kernel_rfl) rfl (xt_buildSlice E34 rfl rfl rfl rfl) ?_
    refine vb_stM ?_
    refine vb_expose 6 (by omega) rfl ?_
    refine vb_stM ?_
    refine vb_weaken 17 rfl ?_
    refine vb_stM ?_
    refine vb_any1 8 (by kernel_rfl) ?_
    refine sb_call 8 [0] hC rfl rfl (wnt_none rfl) Try.func99 rfl rfl rfl rfl rfl rfl rfl (one_sat (list := [_,_]) hc (by omega) (by simp) (by simp)) ?_
    rintro _ _ ⟨y18, hy18, rfl, rfl⟩
    refine ⟨Nat.le_of_ble_eq_true rfl, ⟨rfl, rfl, rfl, rfl⟩, .inl rfl, ?_⟩
    refine vb_stM ?_
    refine vb_light0 9 rfl rfl rfl (by kernel_rfl) (by kernel_rfl) (by kernel_rfl) (wnt_none rfl) (l0_build S31 rfl rfl) ?_
    refine vb_stM ?_
    refine vb_ext 10 rfl (by kernel_rfl) rfl (xt_buildSlice E52 rfl rfl rfl rfl) ?_
    refine vb_stM ?_
    refine vb_one 11 rfl (by kernel_rfl) rfl ?_
    refine vo_appendU E52 rfl (by omega) rfl rfl rfl sd sd fun Rt5 => ?_
    refine vo_stM ?_
    try simp only [app_ints, app_intss, app_bools, app_attrs3]
    refine vo_done ⟨rfl, ?_⟩
    refine vb_light0 12 rfl rfl rfl (by kernel_rfl) (by kernel_rfl) (by kernel_rfl) (wnt_none rfl) (l0_index_ref rfl rfl rfl E24.und inf52 sz52 sd sd) ?_
    try simp only [Int.toNat_natCast]
    refine vb_one 13 rfl (by kernel_rfl) rfl ?_
    refine vo_totree 5 rfl ((by first | exact plain_nilO _ | exact plain_nil1 | exact plain_attrs _ | exact plain_pairsX _)) ?_
    refine vo_stM ?_
    refine vo_weaktree 5 rfl ?_
    refine vo_stM ?_
    refine vo_put (p := .sl _ _ _) rfl rfl rfl rfl rfl rfl rfl hC rfl (by first | decide | simp [refsOf]) inf52 sz52 sd ?_
    refine vo_stM ?_
    try simp only [List.set_set, set_attrss]
    refine vo_done ⟨rfl, ?_⟩
    refine vb_nil (by kernel_rfl) ?_
    refine hK3 _ ?_
    refine vc_seq fun K6 hK6 => ?_
    refine vc_region ?_
    refine vo_load_varG rfl rfl rfl Try.underlying27 rfl inf27 sz27 rfl ?_
    refine vo_stM ?_
    refine vo_store_varG rfl rfl rfl rfl inf27 sz27 rfl ?_
    refine vo_stM ?_
    refine vo_nil ?_
    refine hK6 _ ?_
    refine vc_treeown 2 (by omega) rfl ?_
    refine vc_stM ?_
    refine vc_expose 2 (by omega) rfl ?_
    refine vc_stM ?_
    refine vc_treeown 3 (by omega) rfl ?_
    refine vc_stM ?_
    refine vc_expose 3 (by omega) rfl ?_
    refine vc_stM ?_
    refine vc_ret ?_
    change retQ _ _ _ _ _
    refine retQ_sel [] (srows := []) (.inr rfl) hC rfl rfl rfl rfl rfl rfl rfl ?_
    have hM := fun y => med1 ⟨hb1, hb2, hb3⟩ (by omega) ha2 ho1 ho2 y
    first
     | exact ⟨_, _, _, ⟨(hM y18).1, by omega⟩, rfl, rfl⟩
     | exact ⟨_, _, _, ⟨(hM y29).2.1, by omega⟩, rfl, rfl⟩
     | exact ⟨_, _, _, ⟨(hM 0).2.2.1, by omega⟩, rfl, rfl⟩
     | exact ⟨_, _, _, ⟨(hM 0).2.2.2, by omega⟩, rfl, rfl⟩
   ·refine sb_ext 7 rfl rfl (xt_buildSlice E34 rfl rfl rfl rfl) ?_
    refine vb_stM ?_
    refine vb_expose 5 (by omega) rfl ?_
    refine vb_stM ?_
    refine vb_weaken 17 rfl ?_
    refine vb_stM ?_
    refine vb_any2 5 8 (by kernel_rfl) ?_ ?_
    ·refine sb_extE 5 rfl (fun _ => rfl) (xt_load_take1 rfl rfl (by omega) Try.underlying52 rfl (attrs_at0 (by omega))) fun Rf15 => ?_
     refine vb_stM ?_
     refine vb_treeown 6 (by omega) rfl ?_
     refine vb_stM ?_
     refine vb_any1 8 (by kernel_rfl) ?_
     refine sb_call 8 [0] hC rfl rfl (wnt_none rfl) Try.func99 rfl rfl rfl rfl rfl rfl rfl (one_sat (list := [_,_]) hc (by omega) (by simp) (by simp)) ?_
     rintro _ _ ⟨y18, hy18, rfl, rfl⟩
     refine ⟨Nat.le_of_ble_eq_true rfl, ⟨rfl, rfl, rfl, rfl⟩, .inl rfl, ?_⟩
     refine vb_stM ?_
     refine vb_light0 9 rfl rfl rfl (by kernel_rfl) (by kernel_rfl) (by kernel_rfl) (wnt_none rfl) (l0_build S31 rfl rfl) ?_
     refine vb_stM ?_
     refine vb_ext 10 rfl (by kernel_rfl) rfl (xt_buildSlice E52 rfl rfl rfl rfl) ?_
     refine vb_stM ?_
     refine vb_one 11 rfl (by kernel_rfl) rfl ?_
     refine vo_appendU E52 rfl (by omega) rfl rfl rfl sd sd fun Rt6 => ?_
     refine vo_stM ?_
     try simp only [app_ints, app_intss, app_bools, app_attrs3]
     refine vo_done ⟨rfl, ?_⟩
     refine vb_light0 12 rfl rfl rfl (by kernel_rfl) (by kernel_rfl) (by kernel_rfl) (wnt_none rfl) (l0_index_ref rfl rfl rfl E24.und inf52 sz52 sd sd) ?_
     try simp only [Int.toNat_natCast]
     refine vb_one 13 rfl (by kernel_rfl) rfl ?_
     refine vo_totree 6 rfl ((by first | exact plain_nilO _ | exact plain_nil1 | exact plain_attrs _ | exact plain_pairsX _)) ?_
     refine vo_stM ?_
     refine vo_weaktree 6 rfl ?_
     refine vo_stM ?_
     refine vo_put (p := .sl _ _ _) rfl rfl rfl rfl rfl rfl rfl hC rfl (by first | decide | simp [refsOf]) inf52 sz52 sd ?_
     refine vo_stM ?_
     try simp only [List.set_set, set_attrss]
     refine vo_done ⟨rfl, ?_⟩
     refine vb_nil (by kernel_rfl) ?_
     refine hK3 _ ?_
     refine vc_seq fun K7 hK7 => ?_
     refine vc_region ?_
     refine vo_load_varG rfl rfl rfl Try.underlying27 rfl inf27 sz27 rfl ?_
     refine vo_stM ?_
     refine vo_store_varG rfl rfl rfl rfl inf27 sz27 rfl ?_
     refine vo_stM ?_
     refine vo_nil ?_
     refine hK7 _ ?_
     refine vc_treeown 2 (by omega) rfl ?_
     refine vc_stM ?_
     refine vc_expose 2 (by omega) rfl ?_
     refine vc_stM ?_
     refine vc_treeown 3 (by omega) rfl ?_
     refine vc_stM ?_
     refine vc_expose 3 (by omega) rfl ?_
     refine vc_stM ?_
     refine vc_ret ?_
     change retQ _ _ _ _ _
     refine retQ_sel [] (srows := []) (.inr rfl) hC rfl rfl rfl rfl rfl rfl rfl ?_
     have hM := fun y => med1 ⟨hb1, hb2, hb3⟩ (by omega) ha2 ho1 ho2 y
     first
      | exact ⟨_, _, _, ⟨(hM y18).1, by omega⟩, rfl, rfl⟩
      | exact ⟨_, _, _, ⟨(hM y29).2.1, by omega⟩, rfl, rfl⟩
      | exact ⟨_, _, _, ⟨(hM 0).2.2.1, by omega⟩, rfl, rfl⟩
      | exact ⟨_, _, _, ⟨(hM 0).2.2.2, by omega⟩, rfl, rfl⟩
    ·refine sb_call 8 [0] hC rfl rfl (wnt_none rfl) Try.func99 rfl rfl rfl rfl rfl rfl rfl (one_sat (list := [_,_]) hc (by omega) (by simp) (by simp)) ?_
     rintro _ _ ⟨y18, hy18, rfl, rfl⟩
     refine ⟨Nat.le_of_ble_eq_true rfl, ⟨rfl, rfl, rfl, rfl⟩, .inl rfl, ?_⟩
     refine vb_stM ?_
     refine vb_light0 9 rfl rfl rfl (by kernel_rfl) (by kernel_rfl) (by kernel_rfl) (wnt_none rfl) (l0_build S31 rfl rfl) ?_
     refine vb_stM ?_
     refine vb_any2 5 10 (by kernel_rfl) ?_ ?_
     ·refine sb_extE 5 rfl (fun _ => rfl) (xt_load_take1 rfl rfl (by omega) Try.underlying52 rfl (attrs_at0 (by omega))) fun Rf15 => ?_
      refine vb_stM ?_
      refine vb_treeown 6 (by omega) rfl ?_
      refine vb_stM ?_
      refine vb_ext 10 rfl (by kernel_rfl) rfl (xt_buildSlice E52 rfl rfl rfl rfl) ?_
      refine vb_stM ?_
      refine vb_one 11 rfl (by kernel_rfl) rfl ?_
      refine vo_appendU E52 rfl (by omega) rfl rfl rfl sd sd fun Rt7 => ?_
      refine vo_stM ?_
      try simp only [app_ints, app_intss, app_bools, app_attrs3]
      refine vo_done ⟨rfl, ?_⟩
      refine vb_light0 12 rfl rfl rfl (by kernel_rfl) (by kernel_rfl) (by kernel_rfl) (wnt_none rfl) (l0_index_ref rfl rfl rfl E24.und inf52 sz52 sd sd) ?_
      try simp only [Int.toNat_natCast]
      refine vb_one 13 rfl (by kernel_rfl) rfl ?_
      refine vo_totree 6 rfl ((by first | exact plain_nilO _ | exact plain_nil1 | exact plain_attrs _ | exact plain_pairsX _)) ?_
      refine vo_stM ?_
      refine vo_weaktree 6 rfl ?_
      refine vo_stM ?_
      refine vo_put (p := .sl _ _ _) rfl rfl rfl rfl rfl rfl rfl hC rfl (by first | decide | simp [refsOf]) inf52 sz52 sd ?_
      refine vo_stM ?_
      try simp only [List.set_set, set_attrss]
      refine vo_done ⟨rfl, ?_⟩
      refine vb_nil (by kernel_rfl) ?_
      refine hK3 _ ?_
      refine vc_seq fun K8 hK8 => ?_
      refine vc_region ?_
      refine vo_load_varG rfl rfl rfl Try.underlying27 rfl inf27 sz27 rfl ?_
      refine vo_stM ?_
      refine vo_store_varG rfl rfl rfl rfl inf27 sz27 rfl ?_
      refine vo_stM ?_
      refine vo_nil ?_
      refine hK8 _ ?_
      refine vc_treeown 2 (by omega) rfl ?_
      refine vc_stM ?_
      refine vc_expose 2 (by omega) rfl ?_
      refine vc_stM ?_
      refine vc_treeown 3 (by omega) rfl ?_
      refine vc_stM ?_
      refine vc_expose 3 (by omega) rfl ?_
      refine vc_stM ?_
      refine vc_ret ?_
      change retQ _ _ _ _ _
      refine retQ_sel [] (srows := []) (.inr rfl) hC rfl rfl rfl rfl rfl rfl rfl ?_
      have hM := fun y => med1 ⟨hb1, hb2, hb3⟩ (by omega) ha2 ho1 ho2 y
      first
       | exact ⟨_, _, _, ⟨(hM y18).1, by omega⟩, rfl, rfl⟩
       | exact ⟨_, _, _, ⟨(hM y29).2.1, by omega⟩, rfl, rfl⟩
       | exact ⟨_, _, _, ⟨(hM 0).2.2.1, by omega⟩, rfl, rfl⟩
       | exact ⟨_, _, _, ⟨(hM 0).2.2.2, by omega⟩, rfl, rfl⟩
     ·refine sb_ext 10 rfl rfl (xt_buildSlice E52 rfl rfl rfl rfl) ?_
      refine vb_stM ?_
      refine vb_any1 5 (by kernel_rfl) ?_
      refine sb_extE 5 rfl (fun _ => rfl) (xt_load_take1 rfl rfl (by omega) Try.underlying52 rfl (attrs_at0 (by omega))) fun Rf15 => ?_
      refine vb_stM ?_
      refine vb_treeown 7 (by omega) rfl ?_
      refine vb_stM ?_
      refine vb_one 11 rfl (by kernel_rfl) rfl ?_
      refine vo_appendU E52 rfl (by omega) rfl rfl rfl sd sd fun Rt8 => ?_
      refine vo_stM ?_
      try simp only [app_ints, app_intss, app_bools, app_attrs3]
      refine vo_done ⟨rfl, ?_⟩
      refine vb_light0 12 rfl rfl rfl (by kernel_rfl) (by kernel_rfl) (by kernel_rfl) (wnt_none rfl) (l0_index_ref rfl rfl rfl E24.und inf52 sz52 sd sd) ?_
      try simp only [Int.toNat_natCast]
      refine vb_one 13 rfl (by kernel_rfl) rfl ?_
      refine vo_totree 7 rfl ((by first | exact plain_nilO _ | exact plain_nil1 | exact plain_attrs _ | exact plain_pairsX _)) ?_
      refine vo_stM ?_
      refine vo_weaktree 7 rfl ?_
      refine vo_stM ?_
      refine vo_put (p := .sl _ _ _) rfl rfl rfl rfl rfl rfl rfl hC rfl (by first | decide | simp [refsOf]) inf52 sz52 sd ?_
      refine vo_stM ?_
      try simp only [List.set_set, set_attrss]
      refine vo_done ⟨rfl, ?_⟩
      refine vb_nil (by kernel_rfl) ?_
      refine hK3 _ ?_
      refine vc_seq fun K9 hK9 => ?_
      refine vc_region ?_
      refine vo_load_varG rfl rfl rfl Try.underlying27 rfl inf27 sz27 rfl ?_
      refine vo_stM ?_
      refine vo_store_varG rfl rfl rfl rfl inf27 sz27 rfl ?_
      refine vo_stM ?_
      refine vo_nil ?_
      refine hK9 _ ?_
      refine vc_treeown 2 (by omega) rfl ?_
      refine vc_stM ?_
      refine vc_expose 2 (by omega) rfl ?_
      refine vc_stM ?_
      refine vc_treeown 3 (by omega) rfl ?_
      refine vc_stM ?_
      refine vc_expose 3 (by omega) rfl ?_
      refine vc_stM ?_
      refine vc_ret ?_
      change retQ _ _ _ _ _
      refine retQ_sel [] (srows := []) (.inr rfl) hC rfl rfl rfl rfl rfl rfl rfl ?_
      have hM := fun y => med1 ⟨hb1, hb2, hb3⟩ (by omega) ha2 ho1 ho2 y
      first
       | exact ⟨_, _, _, ⟨(hM y18).1, by omega⟩, rfl, rfl⟩
       | exact ⟨_, _, _, ⟨(hM y29).2.1, by omega⟩, rfl, rfl⟩
       | exact ⟨_, _, _, ⟨(hM 0).2.2.1, by omega⟩, rfl, rfl⟩
       | exact ⟨_, _, _, ⟨(hM 0).2.2.2, by omega⟩, rfl, rfl⟩
  ·refine sb_extE 5 rfl (fun _ => rfl) (xt_load_take1 rfl rfl (by omega) Try.underlying52 rfl (attrs_at0 (by omega))) fun Rf15 => ?_
   refine vb_stM ?_
   refine vb_treeown 5 (by omega) rfl ?_
   refine vb_stM ?_
   refine vb_any2 1 7 (by kernel_rfl) ?_ ?_
   ·refine sb_light 1 rfl rfl rfl (wnt_none rfl) (lb_load_var hC rfl rfl rfl rfl Try.underlying24 rfl rfl) ?_
    refine vb_ext 7 rfl (by kernel_rfl) rfl (xt_buildSlice E34 rfl rfl rfl rfl) ?_
    refine vb_stM ?_
    refine vb_expose 6 (by omega) rfl ?_
    refine vb_stM ?_
    refine vb_weaken 17 rfl ?_
    refine vb_stM ?_
    refine vb_any1 8 (by kernel_rfl) ?_
    refine sb_call 8 [0] hC rfl rfl (wnt_none rfl) Try.func99 rfl rfl rfl rfl rfl rfl rfl (one_sat (list := [_,_]) hc (by omega) (by simp) (by simp)) ?_
    rintro _ _ ⟨y18, hy18, rfl, rfl⟩
    refine ⟨Nat.le_of_ble_eq_true rfl, ⟨rfl, rfl, rfl, rfl⟩, .inl rfl, ?_⟩
    refine vb_stM ?_
    refine vb_light0 9 rfl rfl rfl (by kernel_rfl) (by kernel_rfl) (by kernel_rfl) (wnt_none rfl) (l0_build S31 rfl rfl) ?_
    refine vb_stM ?_
    refine vb_ext 10 rfl (by kernel_rfl) rfl (xt_buildSlice E52 rfl rfl rfl rfl) ?_
    refine vb_stM ?_
    refine vb_one 11 rfl (by kernel_rfl) rfl ?_
    refine vo_appendU E52 rfl (by omega) rfl rfl rfl sd sd fun Rt9 => ?_
    refine vo_stM ?_
    try simp only [app_ints, app_intss, app_bools, app_attrs3]
    refine vo_done ⟨rfl, ?_⟩
    refine vb_light0 12 rfl rfl rfl (by kernel_rfl) (by kernel_rfl) (by kernel_rfl) (wnt_none rfl) (l0_index_ref rfl rfl rfl E24.und inf52 sz52 sd sd) ?_
    try simp only [Int.toNat_natCast]
    refine vb_one 13 rfl (by kernel_rfl) rfl ?_
    refine vo_totree 5 rfl ((by first | exact plain_nilO _ | exact plain_nil1 | exact plain_attrs _ | exact plain_pairsX _)) ?_
    refine vo_stM ?_
    refine vo_weaktree 5 rfl ?_
    refine vo_stM ?_
    refine vo_put (p := .sl _ _ _) rfl rfl rfl rfl rfl rfl rfl hC rfl (by first | decide | simp [refsOf]) inf52 sz52 sd ?_
    refine vo_stM ?_
    try simp only [List.set_set, set_attrss]
    refine vo_done ⟨rfl, ?_⟩
    refine vb_nil (by kernel_rfl) ?_
    refine hK3 _ ?_
    refine vc_seq fun K10 hK10 => ?_
    refine vc_region ?_
    refine vo_load_varG rfl rfl rfl Try.underlying27 rfl inf27 sz27 rfl ?_
    refine vo_stM ?_
    refine vo_store_varG rfl rfl rfl rfl inf27 sz27 rfl ?_
    refine vo_stM ?_
    refine vo_nil ?_
    refine hK10 _ ?_
    refine vc_treeown 2 (by omega) rfl ?_
    refine vc_stM ?_
    refine vc_expose 2 (by omega) rfl ?_
    refine vc_stM ?_
    refine vc_treeown 3 (by omega) rfl ?_
    refine vc_stM ?_
    refine vc_expose 3 (by omega) rfl ?_
    refine vc_stM ?_
    refine vc_ret ?_
    change retQ _ _ _ _ _
    refine retQ_sel [] (srows := []) (.inr rfl) hC rfl rfl rfl rfl rfl rfl rfl ?_
    have hM := fun y => med1 ⟨hb1, hb2, hb3⟩ (by omega) ha2 ho1 ho2 y
    first
     | exact ⟨_, _, _, ⟨(hM y18).1, by omega⟩, rfl, rfl⟩
     | exact ⟨_, _, _, ⟨(hM y29).2.1, by omega⟩, rfl, rfl⟩
     | exact ⟨_, _, _, ⟨(hM 0).2.2.1, by omega⟩, rfl, rfl⟩
     | exact ⟨_, _, _, ⟨(hM 0).2.2.2, by omega⟩, rfl, rfl⟩
   ·refine sb_ext 7 rfl rfl (xt_buildSlice E34 rfl rfl rfl rfl) ?_
    refine vb_stM ?_
    refine vb_expose 6 (by omega) rfl ?_
    refine vb_stM ?_
    refine vb_weaken 17 rfl ?_
    refine vb_stM ?_
    refine vb_any2 1 8 (by kernel_rfl) ?_ ?_
    ·refine sb_light 1 rfl rfl rfl (wnt_none rfl) (lb_load_var hC rfl rfl rfl rfl Try.underlying24 rfl rfl) ?_
     refine vb_any1 8 (by kernel_rfl) ?_
     refine sb_call 8 [0] hC rfl rfl (wnt_none rfl) Try.func99 rfl rfl rfl rfl rfl rfl rfl (one_sat (list := [_,_]) hc (by omega) (by simp) (by simp)) ?_
     rintro _ _ ⟨y18, hy18, rfl, rfl⟩
     refine ⟨Nat.le_of_ble_eq_true rfl, ⟨rfl, rfl, rfl, rfl⟩, .inl rfl, ?_⟩
     refine vb_stM ?_
     refine vb_light0 9 rfl rfl rfl (by kernel_rfl) (by kernel_rfl) (by kernel_rfl) (wnt_none rfl) (l0_build S31 rfl rfl) ?_
     refine vb_stM ?_
     refine vb_ext 10 rfl (by kernel_rfl) rfl (xt_buildSlice E52 rfl rfl rfl rfl) ?_
     refine vb_stM ?_
     refine vb_one 11 rfl (by kernel_rfl) rfl ?_
     refine vo_appendU E52 rfl (by omega) rfl rfl rfl sd sd fun Rt10 => ?_
     refine vo_stM ?_
     try simp only [app_ints, app_intss, app_bools, app_attrs3]
     refine vo_done ⟨rfl, ?_⟩
     refine vb_light0 12 rfl rfl rfl (by kernel_rfl) (by kernel_rfl) (by kernel_rfl) (wnt_none rfl) (l0_index_ref rfl rfl rfl E24.und inf52 sz52 sd sd) ?_
     try simp only [Int.toNat_natCast]
     refine vb_one 13 rfl (by kernel_rfl) rfl ?_
     refine vo_totree 5 rfl ((by first | exact plain_nilO _ | exact plain_nil1 | exact plain_attrs _ | exact plain_pairsX _)) ?_
     refine vo_stM ?_
     refine vo_weaktree 5 rfl ?_
     refine vo_stM ?_
     refine vo_put (p := .sl _ _ _) rfl rfl rfl rfl rfl rfl rfl hC rfl (by first | decide | simp [refsOf]) inf52 sz52 sd ?_
     refine vo_stM ?_
     try simp only [List.set_set, set_attrss]
     refine vo_done ⟨rfl, ?_⟩
     refine vb_nil (by kernel_rfl) ?_
     refine hK3 _ ?_
     refine vc_seq fun K11 hK11 => ?_
     refine vc_region ?_
     refine vo_load_varG rfl rfl rfl Try.underlying27 rfl inf27 sz27 rfl ?_
     refine vo_stM ?_
     refine vo_store_varG rfl rfl rfl rfl inf27 sz27 rfl ?_
     refine vo_stM ?_
     refine vo_nil ?_
     refine hK11 _ ?_
     refine vc_treeown 2 (by omega) rfl ?_
     refine vc_stM ?_
     refine vc_expose 2 (by omega) rfl ?_
     refine vc_stM ?_
     refine vc_treeown 3 (by omega) rfl ?_
     refine vc_stM ?_
     refine vc_expose 3 (by omega) rfl ?_
     refine vc_stM ?_
     refine vc_ret ?_
     change retQ _ _ _ _ _
     refine retQ_sel [] (srows := []) (.inr rfl) hC rfl rfl rfl rfl rfl rfl rfl ?_
     have hM := fun y => med1 ⟨hb1, hb2, hb3⟩ (by omega) ha2 ho1 ho2 y
     first
      | exact ⟨_, _, _, ⟨(hM y18).1, by omega⟩, rfl, rfl⟩
      | exact ⟨_, _, _, ⟨(hM y29).2.1, by omega⟩, rfl, rfl⟩
      | exact ⟨_, _, _, ⟨(hM 0).2.2.1, by omega⟩, rfl, rfl⟩
      | exact ⟨_, _, _, ⟨(hM 0).2.2.2, by omega⟩, rfl, rfl⟩
    ·refine sb_call 8 [0] hC rfl rfl (wnt_none rfl) Try.func99 rfl rfl rfl rfl rfl rfl rfl (one_sat (list := [_,_]) hc (by omega) (by simp) (by simp)) ?_
     rintro _ _ ⟨y18, hy18, rfl, rfl⟩
     refine ⟨Nat.le_of_ble_eq_true rfl, ⟨rfl, rfl, rfl, rfl⟩, .inl rfl, ?_⟩
     refine vb_stM ?_
     refine vb_light0 9 rfl rfl rfl (by kernel_rfl) (by kernel_rfl) (by kernel_rfl) (wnt_none rfl) (l0_build S31 rfl rfl) ?_
     refine vb_stM ?_
     refine vb_any2 1 10 (by kernel_rfl) ?_ ?_
     ·refine sb_light 1 rfl rfl rfl (wnt_none rfl) (lb_load_var hC rfl rfl rfl rfl Try.underlying24 rfl rfl) ?_
      refine vb_ext 10 rfl (by kernel_rfl) rfl (xt_buildSlice E52 rfl rfl rfl rfl) ?_
      refine vb_stM ?_
      refine vb_one 11 rfl (by kernel_rfl) rfl ?_
      refine vo_appendU E52 rfl (by omega) rfl rfl rfl sd sd fun Rt11 => ?_
      refine vo_stM ?_
      try simp only [app_ints, app_intss, app_bools, app_attrs3]
      refine vo_done ⟨rfl, ?_⟩
      refine vb_light0 12 rfl rfl rfl (by kernel_rfl) (by kernel_rfl) (by kernel_rfl) (wnt_none rfl) (l0_index_ref rfl rfl rfl E24.und inf52 sz52 sd sd) ?_
      try simp only [Int.toNat_natCast]
      refine vb_one 13 rfl (by kernel_rfl) rfl ?_
      refine vo_totree 5 rfl ((by first | exact plain_nilO _ | exact plain_nil1 | exact plain_attrs _ | exact plain_pairsX _)) ?_
      refine vo_stM ?_
      refine vo_weaktree 5 rfl ?_
      refine vo_stM ?_
      refine vo_put (p := .sl _ _ _) rfl rfl rfl rfl rfl rfl rfl hC rfl (by first | decide | simp [refsOf]) inf52 sz52 sd ?_
      refine vo_stM ?_
      try simp only [List.set_set, set_attrss]
      refine vo_done ⟨rfl, ?_⟩
      refine vb_nil (by kernel_rfl) ?_
      refine hK3 _ ?_
      refine vc_seq fun K12 hK12 => ?_
      refine vc_region ?_
      refine vo_load_varG rfl rfl rfl Try.underlying27 rfl inf27 sz27 rfl ?_
      refine vo_stM ?_
      refine vo_store_varG rfl rfl rfl rfl inf27 sz27 rfl ?_
      refine vo_stM ?_
      refine vo_nil ?_
      refine hK12 _ ?_
      refine vc_treeown 2 (by omega) rfl ?_
      refine vc_stM ?_
      refine vc_expose 2 (by omega) rfl ?_
      refine vc_stM ?_
      refine vc_treeown 3 (by omega) rfl ?_
      refine vc_stM ?_
      refine vc_expose 3 (by omega) rfl ?_
      refine vc_stM ?_
      refine vc_ret ?_
      change retQ _ _ _ _ _
      refine retQ_sel [] (srows := []) (.inr rfl) hC rfl rfl rfl rfl rfl rfl rfl ?_
      have hM := fun y => med1 ⟨hb1, hb2, hb3⟩ (by omega) ha2 ho1 ho2 y
      first
       | exact ⟨_, _, _, ⟨(hM y18).1, by omega⟩, rfl, rfl⟩
       | exact ⟨_, _, _, ⟨(hM y29).2.1, by omega⟩, rfl, rfl⟩
       | exact ⟨_, _, _, ⟨(hM 0).2.2.1, by omega⟩, rfl, rfl⟩
       | exact ⟨_, _, _, ⟨(hM 0).2.2.2, by omega⟩, rfl, rfl⟩
     ·refine sb_ext 10 rfl rfl (xt_buildSlice E52 rfl rfl rfl rfl) ?_
      refine vb_stM ?_
      refine vb_any2 1 11 (by kernel_rfl) ?_ ?_
      ·refine sb_light 1 rfl rfl rfl (wnt_none rfl) (lb_load_var hC rfl rfl rfl rfl Try.underlying24 rfl rfl) ?_
       refine vb_one 11 rfl (by kernel_rfl) rfl ?_
       refine vo_appendU E52 rfl (by omega) rfl rfl rfl sd sd fun Rt12 => ?_
       refine vo_stM ?_
       try simp only [app_ints, app_intss, app_bools, app_attrs3]
       refine vo_done ⟨rfl, ?_⟩
       refine vb_light0 12 rfl rfl rfl (by kernel_rfl) (by kernel_rfl) (by kernel_rfl) (wnt_none rfl) (l0_index_ref rfl rfl rfl E24.und inf52 sz52 sd sd) ?_
       try simp only [Int.toNat_natCast]
       refine vb_one 13 rfl (by kernel_rfl) rfl ?_
       refine vo_totree 5 rfl ((by first | exact plain_nilO _ | exact plain_nil1 | exact plain_attrs _ | exact plain_pairsX _)) ?_
       refine vo_stM ?_
       refine vo_weaktree 5 rfl ?_
       refine vo_stM ?_
       refine vo_put (p := .sl _ _ _) rfl rfl rfl rfl rfl rfl rfl hC rfl (by first | decide | simp [refsOf]) inf52 sz52 sd ?_
       refine vo_stM ?_
       try simp only [List.set_set, set_attrss]
       refine vo_done ⟨rfl, ?_⟩
       refine vb_nil (by kernel_rfl) ?_
       refine hK3 _ ?_
       refine vc_seq fun K13 hK13 => ?_
       refine vc_region ?_
       refine vo_load_varG rfl rfl rfl Try.underlying27 rfl inf27 sz27 rfl ?_
       refine vo_stM ?_
       refine vo_store_varG rfl rfl rfl rfl inf27 sz27 rfl ?_
       refine vo_stM ?_
       refine vo_nil ?_
       refine hK13 _ ?_
       refine vc_treeown 2 (by omega) rfl ?_
       refine vc_stM ?_
       refine vc_expose 2 (by omega) rfl ?_
       refine vc_stM ?_
       refine vc_treeown 3 (by omega) rfl ?_
       refine vc_stM ?_
       refine vc_expose 3 (by omega) rfl ?_
       refine vc_stM ?_
       refine vc_ret ?_
       change retQ _ _ _ _ _
       refine retQ_sel [] (srows := []) (.inr rfl) hC rfl rfl rfl rfl rfl rfl rfl ?_
       have hM := fun y => med1 ⟨hb1, hb2, hb3⟩ (by omega) ha2 ho1 ho2 y
       first
        | exact ⟨_, _, _, ⟨(hM y18).1, by omega⟩, rfl, rfl⟩
        | exact ⟨_, _, _, ⟨(hM y29).2.1, by omega⟩, rfl, rfl⟩
        | exact ⟨_, _, _, ⟨(hM 0).2.2.1, by omega⟩, rfl, rfl⟩
        | exact ⟨_, _, _, ⟨(hM 0).2.2.2, by omega⟩, rfl, rfl⟩
      ·refine sb_one 11 rfl (by kernel_rfl) ?_
       refine vo_appendU E52 rfl (by omega) rfl rfl rfl sd sd fun Rt13 => ?_
       refine vo_stM ?_
       try simp only [app_ints, app_intss, app_bools, app_attrs3]
       refine vo_done ⟨rfl, ?_⟩
       refine vb_any1 1 (by kernel_rfl) ?_
       refine sb_light 1 rfl rfl rfl (wnt_none rfl) (lb_load_var hC rfl rfl rfl rfl Try.underlying24 rfl rfl) ?_
       refine vb_light0 12 rfl rfl rfl (by kernel_rfl) (by kernel_rfl) (by kernel_rfl) (wnt_none rfl) (l0_index_ref rfl rfl rfl E24.und inf52 sz52 sd sd) ?_
       try simp only [Int.toNat_natCast]
       refine vb_one 13 rfl (by kernel_rfl) rfl ?_
       refine vo_totree 5 rfl ((by first | exact plain_nilO _ | exact plain_nil1 | exact plain_attrs _ | exact plain_pairsX _)) ?_
       refine vo_stM ?_
       refine vo_weaktree 5 rfl ?_
       refine vo_stM ?_
       refine vo_put (p := .sl _ _ _) rfl rfl rfl rfl rfl rfl rfl hC rfl (by first | decide | simp [refsOf]) inf52 sz52 sd ?_
       refine vo_stM ?_
       try simp only [List.set_set, set_attrss]
       refine vo_done ⟨rfl, ?_⟩
       refine vb_nil (by kernel_rfl) ?_
       refine hK3 _ ?_
       refine vc_seq fun K14 hK14 => ?_
       refine vc_region ?_
       refine vo_load_varG rfl rfl rfl Try.underlying27 rfl inf27 sz27 rfl ?_
       refine vo_stM ?_
       refine vo_store_varG rfl rfl rfl rfl inf27 sz27 rfl ?_
       refine vo_stM ?_
       refine vo_nil ?_
       refine hK14 _ ?_
       refine vc_treeown 2 (by omega) rfl ?_
       refine vc_stM ?_
       refine vc_expose 2 (by omega) rfl ?_
       refine vc_stM ?_
       refine vc_treeown 3 (by omega) rfl ?_
       refine vc_stM ?_
       refine vc_expose 3 (by omega) rfl ?_
       refine vc_stM ?_
       refine vc_ret ?_
       change retQ _ _ _ _ _
       refine retQ_sel [] (srows := []) (.inr rfl) hC rfl rfl rfl rfl rfl rfl rfl ?_
       have hM := fun y => med1 ⟨hb1, hb2, hb3⟩ (by omega) ha2 ho1 ho2 y
       first
        | exact ⟨_, _, _, ⟨(hM y18).1, by omega⟩, rfl, rfl⟩
        | exact ⟨_, _, _, ⟨(hM y29).2.1, by omega⟩, rfl, rfl⟩
        | exact ⟨_, _, _, ⟨(hM 0).2.2.1, by omega⟩, rfl, rfl⟩
        | exact ⟨_, _, _, ⟨(hM 0).2.2.2, by omega⟩, rfl, rfl⟩
  ·refine sb_ext 7 rfl rfl (xt_buildSlice E34 rfl rfl rfl rfl) ?_
   refine vb_stM ?_
   refine vb_expose 5 (by omega) rfl ?_
   refine vb_stM ?_
   refine vb_weaken 17 rfl ?_
   refine vb_stM ?_
   refine vb_any3 1 5 8 (by kernel_rfl) ?_ ?_ ?_
   ·refine sb_light 1 rfl rfl rfl (wnt_none rfl) (lb_load_var hC rfl rfl rfl rfl Try.underlying24 rfl rfl) ?_
    refine vb_any2 5 8 (by kernel_rfl) ?_ ?_
    ·refine sb_extE 5 rfl (fun _ => rfl) (xt_load_take1 rfl rfl (by omega) Try.underlying52 rfl (attrs_at0 (by omega))) fun Rf15 => ?_
     refine vb_stM ?_
     refine vb_treeown 6 (by omega) rfl ?_
     refine vb_stM ?_
     refine vb_any1 8 (by kernel_rfl) ?_
     refine sb_call 8 [0] hC rfl rfl (wnt_none rfl) Try.func99 rfl rfl rfl rfl rfl rfl rfl (one_sat (list := [_,_]) hc (by omega) (by simp) (by simp)) ?_
     rintro _ _ ⟨y18, hy18, rfl, rfl⟩
     refine ⟨Nat.le_of_ble_eq_true rfl, ⟨rfl, rfl, rfl, rfl⟩, .inl rfl, ?_⟩
     refine vb_stM ?_
     refine vb_light0 9 rfl rfl rfl (by kernel_rfl) (by kernel_rfl) (by kernel_rfl) (wnt_none rfl) (l0_build S31 rfl rfl) ?_
     refine vb_stM ?_
     refine vb_ext 10 rfl (by kernel_rfl) rfl (xt_buildSlice E52 rfl rfl rfl rfl) ?_
     refine vb_stM ?_
     refine vb_one 11 rfl (by kernel_rfl) rfl ?_
     refine vo_appendU E52 rfl (by omega) rfl rfl rfl sd sd fun Rt14 => ?_
     refine vo_stM ?_
     try simp only [app_ints, app_intss, app_bools, app_attrs3]
     refine vo_done ⟨rfl, ?_⟩
     refine vb_light0 12 rfl rfl rfl (by kernel_rfl) (by kernel_rfl) (by kernel_rfl) (wnt_none rfl) (l0_index_ref rfl rfl rfl E24.und inf52 sz52 sd sd) ?_
     try simp only [Int.toNat_natCast]
     refine vb_one 13 rfl (by kernel_rfl) rfl ?_
     refine vo_totree 6 rfl ((by first | exact plain_nilO _ | exact plain_nil1 | exact plain_attrs _ | exact plain_pairsX _)) ?_
     refine vo_stM ?_
     refine vo_weaktree 6 rfl ?_
     refine vo_stM ?_
     refine vo_put (p := .sl _ _ _) rfl rfl rfl rfl rfl rfl rfl hC rfl (by first | decide | simp [refsOf]) inf52 sz52 sd ?_
     refine vo_stM ?_
     try simp only [List.set_set, set_attrss]
     refine vo_done ⟨rfl, ?_⟩
     refine vb_nil (by kernel_rfl) ?_
     refine hK3 _ ?_
     refine vc_seq fun K15 hK15 => ?_
     refine vc_region ?_
     refine vo_load_varG rfl rfl rfl Try.underlying27 rfl inf27 sz27 rfl ?_
     refine vo_stM ?_
     refine vo_store_varG rfl rfl rfl rfl inf27 sz27 rfl ?_
     refine vo_stM ?_
     refine vo_nil ?_
     refine hK15 _ ?_
     refine vc_treeown 2 (by omega) rfl ?_
     refine vc_stM ?_
     refine vc_expose 2 (by omega) rfl ?_
     refine vc_stM ?_
     refine vc_treeown 3 (by omega) rfl ?_
     refine vc_stM ?_
     refine vc_expose 3 (by omega) rfl ?_
     refine vc_stM ?_
     refine vc_ret ?_
     change retQ _ _ _ _ _
     refine retQ_sel [] (srows := []) (.inr rfl) hC rfl rfl rfl rfl rfl rfl rfl ?_
     have hM := fun y => med1 ⟨hb1, hb2, hb3⟩ (by omega) ha2 ho1 ho2 y
     first
      | exact ⟨_, _, _, ⟨(hM y18).1, by omega⟩, rfl, rfl⟩
      | exact ⟨_, _, _, ⟨(hM y29).2.1, by omega⟩, rfl, rfl⟩
      | exact ⟨_, _, _, ⟨(hM 0).2.2.1, by omega⟩, rfl, rfl⟩
      | exact ⟨_, _, _, ⟨(hM 0).2.2.2, by omega⟩, rfl, rfl⟩
    ·refine sb_call 8 [0] hC rfl rfl (wnt_none rfl) Try.func99 rfl rfl rfl rfl rfl rfl rfl (one_sat (list := [_,_]) hc (by omega) (by simp) (by simp)) ?_
     rintro _ _ ⟨y18, hy18, rfl, rfl⟩
     refine ⟨Nat.le_of_ble_eq_true rfl, ⟨rfl, rfl, rfl, rfl⟩, .inl rfl, ?_⟩
     refine vb_stM ?_
     refine vb_light0 9 rfl rfl rfl (by kernel_rfl) (by kernel_rfl) (by kernel_rfl) (wnt_none rfl) (l0_build S31 rfl rfl) ?_
     refine vb_stM ?_
     refine vb_any2 5 10 (by kernel_rfl) ?_ ?_
     ·refine sb_extE 5 rfl (fun _ => rfl) (xt_load_take1 rfl rfl (by omega) Try.underlying52 rfl (attrs_at0 (by omega))) fun Rf15 => ?_
      refine vb_stM ?_
      refine vb_treeown 6 (by omega) rfl ?_
      refine vb_stM ?_
      refine vb_ext 10 rfl (by kernel_rfl) rfl (xt_buildSlice E52 rfl rfl rfl rfl) ?_
      refine vb_stM ?_
      refine vb_one 11 rfl (by kernel_rfl) rfl ?_
      refine vo_appendU E52 rfl (by omega) rfl rfl rfl sd sd fun Rt15 => ?_
      refine vo_stM ?_
      try simp only [app_ints, app_intss, app_bools, app_attrs3]
      refine vo_done ⟨rfl, ?_⟩
      refine vb_light0 12 rfl rfl rfl (by kernel_rfl) (by kernel_rfl) (by kernel_rfl) (wnt_none rfl) (l0_index_ref rfl rfl rfl E24.und inf52 sz52 sd sd) ?_
      try simp only [Int.toNat_natCast]
      refine vb_one 13 rfl (by kernel_rfl) rfl ?_
      refine vo_totree 6 rfl ((by first | exact plain_nilO _ | exact plain_nil1 | exact plain_attrs _ | exact plain_pairsX _)) ?_
      refine vo_stM ?_
      refine vo_weaktree 6 rfl ?_
      refine vo_stM ?_
      refine vo_put (p := .sl _ _ _) rfl rfl rfl rfl rfl rfl rfl hC rfl (by first | decide | simp [refsOf]) inf52 sz52 sd ?_
      refine vo_stM ?_
      try simp only [List.set_set, set_attrss]
      refine vo_done ⟨rfl, ?_⟩
      refine vb_nil (by kernel_rfl) ?_
      refine hK3 _ ?_
      refine vc_seq fun K16 hK16 => ?_
      refine vc_region ?_
      refine vo_load_varG rfl rfl rfl Try.underlying27 rfl inf27 sz27 rfl ?_
      refine vo_stM ?_
      refine vo_store_varG rfl rfl rfl rfl inf27 sz27 rfl ?_
      refine vo_stM ?_
      refine vo_nil ?_
      refine hK16 _ ?_
      refine vc_treeown 2 (by omega) rfl ?_
      refine vc_stM ?_
      refine vc_expose 2 (by omega) rfl ?_
      refine vc_stM ?_
      refine vc_treeown 3 (by omega) rfl ?_
      refine vc_stM ?_
      refine vc_expose 3 (by omega) rfl ?_
      refine vc_stM ?_
      refine vc_ret ?_
      change retQ _ _ _ _ _
      refine retQ_sel [] (srows := []) (.inr rfl) hC rfl rfl rfl rfl rfl rfl rfl ?_
      have hM := fun y => med1 ⟨hb1, hb2, hb3⟩ (by omega) ha2 ho1 ho2 y
      first
       | exact ⟨_, _, _, ⟨(hM y18).1, by omega⟩, rfl, rfl⟩
       | exact ⟨_, _, _, ⟨(hM y29).2.1, by omega⟩, rfl, rfl⟩
       | exact ⟨_, _, _, ⟨(hM 0).2.2.1, by omega⟩, rfl, rfl⟩
       | exact ⟨_, _, _, ⟨(hM 0).2.2.2, by omega⟩, rfl, rfl⟩
     ·refine sb_ext 10 rfl rfl (xt_buildSlice E52 rfl rfl rfl rfl) ?_
      refine vb_stM ?_
      refine vb_any1 5 (by kernel_rfl) ?_
      refine sb_extE 5 rfl (fun _ => rfl) (xt_load_take1 rfl rfl (by omega) Try.underlying52 rfl (attrs_at0 (by omega))) fun Rf15 => ?_
      refine vb_stM ?_
      refine vb_treeown 7 (by omega) rfl ?_
      refine vb_stM ?_
      refine vb_one 11 rfl (by kernel_rfl) rfl ?_
      refine vo_appendU E52 rfl (by omega) rfl rfl rfl sd sd fun Rt16 => ?_
      refine vo_stM ?_
      try simp only [app_ints, app_intss, app_bools, app_attrs3]
      refine vo_done ⟨rfl, ?_⟩
      refine vb_light0 12 rfl rfl rfl (by kernel_rfl) (by kernel_rfl) (by kernel_rfl) (wnt_none rfl) (l0_index_ref rfl rfl rfl E24.und inf52 sz52 sd sd) ?_
      try simp only [Int.toNat_natCast]
      refine vb_one 13 rfl (by kernel_rfl) rfl ?_
      refine vo_totree 7 rfl ((by first | exact plain_nilO _ | exact plain_nil1 | exact plain_attrs _ | exact plain_pairsX _)) ?_
      refine vo_stM ?_
      refine vo_weaktree 7 rfl ?_
      refine vo_stM ?_
      refine vo_put (p := .sl _ _ _) rfl rfl rfl rfl rfl rfl rfl hC rfl (by first | decide | simp [refsOf]) inf52 sz52 sd ?_
      refine vo_stM ?_
      try simp only [List.set_set, set_attrss]
      refine vo_done ⟨rfl, ?_⟩
      refine vb_nil (by kernel_rfl) ?_
      refine hK3 _ ?_
      refine vc_seq fun K17 hK17 => ?_
      refine vc_region ?_
      refine vo_load_varG rfl rfl rfl Try.underlying27 rfl inf27 sz27 rfl ?_
      refine vo_stM ?_
      refine vo_store_varG rfl rfl rfl rfl inf27 sz27 rfl ?_
      refine vo_stM ?_
      refine vo_nil ?_
      refine hK17 _ ?_
      refine vc_treeown 2 (by omega) rfl ?_
      refine vc_stM ?_
      refine vc_expose 2 (by omega) rfl ?_
      refine vc_stM ?_
      refine vc_treeown 3 (by omega) rfl ?_
      refine vc_stM ?_
      refine vc_expose 3 (by omega) rfl ?_
      refine vc_stM ?_
      refine vc_ret ?_
      change retQ _ _ _ _ _
      refine retQ_sel [] (srows := []) (.inr rfl) hC rfl rfl rfl rfl rfl rfl rfl ?_
      have hM := fun y => med1 ⟨hb1, hb2, hb3⟩ (by omega) ha2 ho1 ho2 y
      first
       | exact ⟨_, _, _, ⟨(hM y18).1, by omega⟩, rfl, rfl⟩
       | exact ⟨_, _, _, ⟨(hM y29).2.1, by omega⟩, rfl, rfl⟩
       | exact ⟨_, _, _, ⟨(hM 0).2.2.1, by omega⟩, rfl, rfl⟩
       | exact ⟨_, _, _, ⟨(hM 0).2.2.2, by omega⟩, rfl, rfl⟩
   ·refine sb_extE 5 rfl (fun _ => rfl) (xt_load_take1 rfl rfl (by omega) Try.underlying52 rfl (attrs_at0 (by omega))) fun Rf15 => ?_
    refine vb_stM ?_
    refine vb_treeown 6 (by omega) rfl ?_
    refine vb_stM ?_
    refine vb_any2 1 8 (by kernel_rfl) ?_ ?_
    ·refine sb_light 1 rfl rfl rfl (wnt_none rfl) (lb_load_var hC rfl rfl rfl rfl Try.underlying24 rfl rfl) ?_
     refine vb_any1 8 (by kernel_rfl) ?_
     refine sb_call 8 [0] hC rfl rfl (wnt_none rfl) Try.func99 rfl rfl rfl rfl rfl rfl rfl (one_sat (list := [_,_]) hc (by omega) (by simp) (by simp)) ?_
     rintro _ _ ⟨y18, hy18, rfl, rfl⟩
     refine ⟨Nat.le_of_ble_eq_true rfl, ⟨rfl, rfl, rfl, rfl⟩, .inl rfl, ?_⟩
     refine vb_stM ?_
     refine vb_light0 9 rfl rfl rfl (by kernel_rfl) (by kernel_rfl) (by kernel_rfl) (wnt_none rfl) (l0_build S31 rfl rfl) ?_
     refine vb_stM ?_
     refine vb_ext 10 rfl (by kernel_rfl) rfl (xt_buildSlice E52 rfl rfl rfl rfl) ?_
     refine vb_stM ?_
     refine vb_one 11 rfl (by kernel_rfl) rfl ?_
     refine vo_appendU E52 rfl (by omega) rfl rfl rfl sd sd fun Rt17 => ?_
     refine vo_stM ?_
     try simp only [app_ints, app_intss, app_bools, app_attrs3]
     refine vo_done ⟨rfl, ?_⟩
     refine vb_light0 12 rfl rfl rfl (by kernel_rfl) (by kernel_rfl) (by kernel_rfl) (wnt_none rfl) (l0_index_ref rfl rfl rfl E24.und inf52 sz52 sd sd) ?_
     try simp only [Int.toNat_natCast]
     refine vb_one 13 rfl (by kernel_rfl) rfl ?_
     refine vo_totree 6 rfl ((by first | exact plain_nilO _ | exact plain_nil1 | exact plain_attrs _ | exact plain_pairsX _)) ?_
     refine vo_stM ?_
     refine vo_weaktree 6 rfl ?_
     refine vo_stM ?_
     refine vo_put (p := .sl _ _ _) rfl rfl rfl rfl rfl rfl rfl hC rfl (by first | decide | simp [refsOf]) inf52 sz52 sd ?_
     refine vo_stM ?_
     try simp only [List.set_set, set_attrss]
     refine vo_done ⟨rfl, ?_⟩
     refine vb_nil (by kernel_rfl) ?_
     refine hK3 _ ?_
     refine vc_seq fun K18 hK18 => ?_
     refine vc_region ?_
     refine vo_load_varG rfl rfl rfl Try.underlying27 rfl inf27 sz27 rfl ?_
     refine vo_stM ?_
     refine vo_store_varG rfl rfl rfl rfl inf27 sz27 rfl ?_
     refine vo_stM ?_
     refine vo_nil ?_
     refine hK18 _ ?_
     refine vc_treeown 2 (by omega) rfl ?_
     refine vc_stM ?_
     refine vc_expose 2 (by omega) rfl ?_
     refine vc_stM ?_
     refine vc_treeown 3 (by omega) rfl ?_
     refine vc_stM ?_
     refine vc_expose 3 (by omega) rfl ?_
     refine vc_stM ?_
     refine vc_ret ?_
     change retQ _ _ _ _ _
     refine retQ_sel [] (srows := []) (.inr rfl) hC rfl rfl rfl rfl rfl rfl rfl ?_
     have hM := fun y => med1 ⟨hb1, hb2, hb3⟩ (by omega) ha2 ho1 ho2 y
     first
      | exact ⟨_, _, _, ⟨(hM y18).1, by omega⟩, rfl, rfl⟩
      | exact ⟨_, _, _, ⟨(hM y29).2.1, by omega⟩, rfl, rfl⟩
      | exact ⟨_, _, _, ⟨(hM 0).2.2.1, by omega⟩, rfl, rfl⟩
      | exact ⟨_, _, _, ⟨(hM 0).2.2.2, by omega⟩, rfl, rfl⟩
    ·refine sb_call 8 [0] hC rfl rfl (wnt_none rfl) Try.func99 rfl rfl rfl rfl rfl rfl rfl (one_sat (list := [_,_]) hc (by omega) (by simp) (by simp)) ?_
     rintro _ _ ⟨y18, hy18, rfl, rfl⟩
     refine ⟨Nat.le_of_ble_eq_true rfl, ⟨rfl, rfl, rfl, rfl⟩, .inl rfl, ?_⟩
     refine vb_stM ?_
     refine vb_light0 9 rfl rfl rfl (by kernel_rfl) (by kernel_rfl) (by kernel_rfl) (wnt_none rfl) (l0_build S31 rfl rfl) ?_
     refine vb_stM ?_
     refine vb_any2 1 10 (by kernel_rfl) ?_ ?_
     ·refine sb_light 1 rfl rfl rfl (wnt_none rfl) (lb_load_var hC rfl rfl rfl rfl Try.underlying24 rfl rfl) ?_
      refine vb_ext 10 rfl (by kernel_rfl) rfl (xt_buildSlice E52 rfl rfl rfl rfl) ?_
      refine vb_stM ?_
      refine vb_one 11 rfl (by kernel_rfl) rfl ?_
      refine vo_appendU E52 rfl (by omega) rfl rfl rfl sd sd fun Rt18 => ?_
      refine vo_stM ?_
      try simp only [app_ints, app_intss, app_bools, app_attrs3]
      refine vo_done ⟨rfl, ?_⟩
      refine vb_light0 12 rfl rfl rfl (by kernel_rfl) (by kernel_rfl) (by kernel_rfl) (wnt_none rfl) (l0_index_ref rfl rfl rfl E24.und inf52 sz52 sd sd) ?_
      try simp only [Int.toNat_natCast]
      refine vb_one 13 rfl (by kernel_rfl) rfl ?_
      refine vo_totree 6 rfl ((by first | exact plain_nilO _ | exact plain_nil1 | exact plain_attrs _ | exact plain_pairsX _)) ?_
      refine vo_stM ?_
      refine vo_weaktree 6 rfl ?_
      refine vo_stM ?_
      refine vo_put (p := .sl _ _ _) rfl rfl rfl rfl rfl rfl rfl hC rfl (by first | decide | simp [refsOf]) inf52 sz52 sd ?_
      refine vo_stM ?_
      try simp only [List.set_set, set_attrss]
      refine vo_done ⟨rfl, ?_⟩
      refine vb_nil (by kernel_rfl) ?_
      refine hK3 _ ?_
      refine vc_seq fun K19 hK19 => ?_
      refine vc_region ?_
      refine vo_load_varG rfl rfl rfl Try.underlying27 rfl inf27 sz27 rfl ?_
      refine vo_stM ?_
      refine vo_store_varG rfl rfl rfl rfl inf27 sz27 rfl ?_
      refine vo_stM ?_
      refine vo_nil ?_
      refine hK19 _ ?_
      refine vc_treeown 2 (by omega) rfl ?_
      refine vc_stM ?_
      refine vc_expose 2 (by omega) rfl ?_
      refine vc_stM ?_
      refine vc_treeown 3 (by omega) rfl ?_
      refine vc_stM ?_
      refine vc_expose 3 (by omega) rfl ?_
      refine vc_stM ?_
      refine vc_ret ?_
      change retQ _ _ _ _ _
      refine retQ_sel [] (srows := []) (.inr rfl) hC rfl rfl rfl rfl rfl rfl rfl ?_
      have hM := fun y => med1 ⟨hb1, hb2, hb3⟩ (by omega) ha2 ho1 ho2 y
      first
       | exact ⟨_, _, _, ⟨(hM y18).1, by omega⟩, rfl, rfl⟩
       | exact ⟨_, _, _, ⟨(hM y29).2.1, by omega⟩, rfl, rfl⟩
       | exact ⟨_, _, _, ⟨(hM 0).2.2.1, by omega⟩, rfl, rfl⟩
       | exact ⟨_, _, _, ⟨(hM 0).2.2.2, by omega⟩, rfl, rfl⟩
     ·refine sb_ext 10 rfl rfl (xt_buildSlice E52 rfl rfl rfl rfl) ?_
      refine vb_stM ?_
      refine vb_any2 1 11 (by kernel_rfl) ?_ ?_
      ·refine sb_light 1 rfl rfl rfl (wnt_none rfl) (lb_load_var hC rfl rfl rfl rfl Try.underlying24 rfl rfl) ?_
       refine vb_one 11 rfl (by kernel_rfl) rfl ?_
       refine vo_appendU E52 rfl (by omega) rfl rfl rfl sd sd fun Rt19 => ?_
       refine vo_stM ?_
       try simp only [app_ints, app_intss, app_bools, app_attrs3]
       refine vo_done ⟨rfl, ?_⟩
       refine vb_light0 12 rfl rfl rfl (by kernel_rfl) (by kernel_rfl) (by kernel_rfl) (wnt_none rfl) (l0_index_ref rfl rfl rfl E24.und inf52 sz52 sd sd) ?_
       try simp only [Int.toNat_natCast]
       refine vb_one 13 rfl (by kernel_rfl) rfl ?_
       refine vo_totree 6 rfl ((by first | exact plain_nilO _ | exact plain_nil1 | exact plain_attrs _ | exact plain_pairsX _)) ?_
       refine vo_stM ?_
       refine vo_weaktree 6 rfl ?_
       refine vo_stM ?_
       refine vo_put (p := .sl _ _ _) rfl rfl rfl rfl rfl rfl rfl hC rfl (by first | decide | simp [refsOf]) inf52 sz52 sd ?_
       refine vo_stM ?_
       try simp only [List.set_set, set_attrss]
       refine vo_done ⟨rfl, ?_⟩
       refine vb_nil (by kernel_rfl) ?_
       refine hK3 _ ?_
       refine vc_seq fun K20 hK20 => ?_
       refine vc_region ?_
       refine vo_load_varG rfl rfl rfl Try.underlying27 rfl inf27 sz27 rfl ?_
       refine vo_stM ?_
       refine vo_store_varG rfl rfl rfl rfl inf27 sz27 rfl ?_
       refine vo_stM ?_
       refine vo_nil ?_
       refine hK20 _ ?_
       refine vc_treeown 2 (by omega) rfl ?_
       refine vc_stM ?_
       refine vc_expose 2 (by omega) rfl ?_
       refine vc_stM ?_
       refine vc_treeown 3 (by omega) rfl ?_
       refine vc_stM ?_
       refine vc_expose 3 (by omega) rfl ?_
       refine vc_stM ?_
       refine vc_ret ?_
       change retQ _ _ _ _ _
       refine retQ_sel [] (srows := []) (.inr rfl) hC rfl rfl rfl rfl rfl rfl rfl ?_
       have hM := fun y => med1 ⟨hb1, hb2, hb3⟩ (by omega) ha2 ho1 ho2 y
       first
        | exact ⟨_, _, _, ⟨(hM y18).1, by omega⟩, rfl, rfl⟩
        | exact ⟨_, _, _, ⟨(hM y29).2.1, by omega⟩, rfl, rfl⟩
        | exact ⟨_, _, _, ⟨(hM 0).2.2.1, by omega⟩, rfl, rfl⟩
        | exact ⟨_, _, _, ⟨(hM 0).2.2.2, by omega⟩, rfl, rfl⟩
      ·refine sb_one 11 rfl (by kernel_rfl) ?_
       refine vo_appendU E52 rfl (by omega) rfl rfl rfl sd sd fun Rt20 => ?_
       refine vo_stM ?_
       try simp only [app_ints, app_intss, app_bools, app_attrs3]
       refine vo_done ⟨rfl, ?_⟩
       refine vb_any1 1 (by kernel_rfl) ?_
       refine sb_light 1 rfl rfl rfl (wnt_none rfl) (lb_load_var hC rfl rfl rfl rfl Try.underlying24 rfl rfl) ?_
       refine vb_light0 12 rfl rfl rfl (by kernel_rfl) (by kernel_rfl) (by kernel_rfl) (wnt_none rfl) (l0_index_ref rfl rfl rfl E24.und inf52 sz52 sd sd) ?_
       try simp only [Int.toNat_natCast]
       refine vb_one 13 rfl (by kernel_rfl) rfl ?_
       refine vo_totree 6 rfl ((by first | exact plain_nilO _ | exact plain_nil1 | exact plain_attrs _ | exact plain_pairsX _)) ?_
       refine vo_stM ?_
       refine vo_weaktree 6 rfl ?_
       refine vo_stM ?_
       refine vo_put (p := .sl _ _ _) rfl rfl rfl rfl rfl rfl rfl hC rfl (by first | decide | simp [refsOf]) inf52 sz52 sd ?_
       refine vo_stM ?_
       try simp only [List.set_set, set_attrss]
       refine vo_done ⟨rfl, ?_⟩
       refine vb_nil (by kernel_rfl) ?_
       refine hK3 _ ?_
       refine vc_seq fun K21 hK21 => ?_
       refine vc_region ?_
       refine vo_load_varG rfl rfl rfl Try.underlying27 rfl inf27 sz27 rfl ?_
       refine vo_stM ?_
       refine vo_store_varG rfl rfl rfl rfl inf27 sz27 rfl ?_
       refine vo_stM ?_
       refine vo_nil ?_
       refine hK21 _ ?_
       refine vc_treeown 2 (by omega) rfl ?_
       refine vc_stM ?_
       refine vc_expose 2 (by omega) rfl ?_
       refine vc_stM ?_
       refine vc_treeown 3 (by omega) rfl ?_
       refine vc_stM ?_
       refine vc_expose 3 (by omega) rfl ?_
       refine vc_stM ?_
       refine vc_ret ?_
       change retQ _ _ _ _ _
       refine retQ_sel [] (srows := []) (.inr rfl) hC rfl rfl rfl rfl rfl rfl rfl ?_
       have hM := fun y => med1 ⟨hb1, hb2, hb3⟩ (by omega) ha2 ho1 ho2 y
       first
        | exact ⟨_, _, _, ⟨(hM y18).1, by omega⟩, rfl, rfl⟩
        | exact ⟨_, _, _, ⟨(hM y29).2.1, by omega⟩, rfl, rfl⟩
        | exact ⟨_, _, _, ⟨(hM 0).2.2.1, by omega⟩, rfl, rfl⟩
        | exact ⟨_, _, _, ⟨(hM 0).2.2.2, by omega⟩, rfl, rfl⟩
   ·refine sb_call 8 [0] hC rfl rfl (wnt_none rfl) Try.func99 rfl rfl rfl rfl rfl rfl rfl (one_sat (list := [_,_]) hc (by omega) (by simp) (by simp)) ?_
    rintro _ _ ⟨y18, hy18, rfl, rfl⟩
    refine ⟨Nat.le_of_ble_eq_true rfl, ⟨rfl, rfl, rfl, rfl⟩, .inl rfl, ?_⟩
    refine vb_stM ?_
    refine vb_light0 9 rfl rfl rfl (by kernel_rfl) (by kernel_rfl) (by kernel_rfl) (wnt_none rfl) (l0_build S31 rfl rfl) ?_
    refine vb_stM ?_
    refine vb_any3 1 5 10 (by kernel_rfl) ?_ ?_ ?_
    ·refine sb_light 1 rfl rfl rfl (wnt_none rfl) (lb_load_var hC rfl rfl rfl rfl Try.underlying24 rfl rfl) ?_
     refine vb_any2 5 10 (by kernel_rfl) ?_ ?_
     ·refine sb_extE 5 rfl (fun _ => rfl) (xt_load_take1 rfl rfl (by omega) Try.underlying52 rfl (attrs_at0 (by omega))) fun Rf15 => ?_
      refine vb_stM ?_
      refine vb_treeown 6 (by omega) rfl ?_
      refine vb_stM ?_
      refine vb_ext 10 rfl (by kernel_rfl) rfl (xt_buildSlice E52 rfl rfl rfl rfl) ?_
      refine vb_stM ?_
      refine vb_one 11 rfl (by kernel_rfl) rfl ?_
      refine vo_appendU E52 rfl (by omega) rfl rfl rfl sd sd fun Rt21 => ?_
      refine vo_stM ?_
      try simp only [app_ints, app_intss, app_bools, app_attrs3]
      refine vo_done ⟨rfl, ?_⟩
      refine vb_light0 12 rfl rfl rfl (by kernel_rfl) (by kernel_rfl) (by kernel_rfl) (wnt_none rfl) (l0_index_ref rfl rfl rfl E24.und inf52 sz52 sd sd) ?_
      try simp only [Int.toNat_natCast]
      refine vb_one 13 rfl (by kernel_rfl) rfl ?_
      refine vo_totree 6 rfl ((by first | exact plain_nilO _ | exact plain_nil1 | exact plain_attrs _ | exact plain_pairsX _)) ?_
      refine vo_stM ?_
      refine vo_weaktree 6 rfl ?_
      refine vo_stM ?_
      refine vo_put (p := .sl _ _ _) rfl rfl rfl rfl rfl rfl rfl hC rfl (by first | decide | simp [refsOf]) inf52 sz52 sd ?_
      refine vo_stM ?_
      try simp only [List.set_set, set_attrss]
      refine vo_done ⟨rfl, ?_⟩
      refine vb_nil (by kernel_rfl) ?_
      refine hK3 _ ?_
      refine vc_seq fun K22 hK22 => ?_
      refine vc_region ?_
      refine vo_load_varG rfl rfl rfl Try.underlying27 rfl inf27 sz27 rfl ?_
      refine vo_stM ?_
      refine vo_store_varG rfl rfl rfl rfl inf27 sz27 rfl ?_
      refine vo_stM ?_
      refine vo_nil ?_
      refine hK22 _ ?_
      refine vc_treeown 2 (by omega) rfl ?_
      refine vc_stM ?_
      refine vc_expose 2 (by omega) rfl ?_
      refine vc_stM ?_
      refine vc_treeown 3 (by omega) rfl ?_
      refine vc_stM ?_
      refine vc_expose 3 (by omega) rfl ?_
      refine vc_stM ?_
      refine vc_ret ?_
      change retQ _ _ _ _ _
      refine retQ_sel [] (srows := []) (.inr rfl) hC rfl rfl rfl rfl rfl rfl rfl ?_
      have hM := fun y => med1 ⟨hb1, hb2, hb3⟩ (by omega) ha2 ho1 ho2 y
      first
       | exact ⟨_, _, _, ⟨(hM y18).1, by omega⟩, rfl, rfl⟩
       | exact ⟨_, _, _, ⟨(hM y29).2.1, by omega⟩, rfl, rfl⟩
       | exact ⟨_, _, _, ⟨(hM 0).2.2.1, by omega⟩, rfl, rfl⟩
       | exact ⟨_, _, _, ⟨(hM 0).2.2.2, by omega⟩, rfl, rfl⟩
     ·refine sb_ext 10 rfl rfl (xt_buildSlice E52 rfl rfl rfl rfl) ?_
      refine vb_stM ?_
      refine vb_any1 5 (by kernel_rfl) ?_
      refine sb_extE 5 rfl (fun _ => rfl) (xt_load_take1 rfl rfl (by omega) Try.underlying52 rfl (attrs_at0 (by omega))) fun Rf15 => ?_
      refine vb_stM ?_
      refine vb_treeown 7 (by omega) rfl ?_
      refine vb_stM ?_
      refine vb_one 11 rfl (by kernel_rfl) rfl ?_
      refine vo_appendU E52 rfl (by omega) rfl rfl rfl sd sd fun Rt22 => ?_
      refine vo_stM ?_
      try simp only [app_ints, app_intss, app_bools, app_attrs3]
      refine vo_done ⟨rfl, ?_⟩
      refine vb_light0 12 rfl rfl rfl (by kernel_rfl) (by kernel_rfl) (by kernel_rfl) (wnt_none rfl) (l0_index_ref rfl rfl rfl E24.und inf52 sz52 sd sd) ?_
      try simp only [Int.toNat_natCast]
      refine vb_one 13 rfl (by kernel_rfl) rfl ?_
      refine vo_totree 7 rfl ((by first | exact plain_nilO _ | exact plain_nil1 | exact plain_attrs _ | exact plain_pairsX _)) ?_
      refine vo_stM ?_
      refine vo_weaktree 7 rfl ?_
      refine vo_stM ?_
      refine vo_put (p := .sl _ _ _) rfl rfl rfl rfl rfl rfl rfl hC rfl (by first | decide | simp [refsOf]) inf52 sz52 sd ?_
      refine vo_stM ?_
      try simp only [List.set_set, set_attrss]
      refine vo_done ⟨rfl, ?_⟩
      refine vb_nil (by kernel_rfl) ?_
      refine hK3 _ ?_
      refine vc_seq fun K23 hK23 => ?_
      refine vc_region ?_
      refine vo_load_varG rfl rfl rfl Try.underlying27 rfl inf27 sz27 rfl ?_
      refine vo_stM ?_
      refine vo_store_varG rfl rfl rfl rfl inf27 sz27 rfl ?_
      refine vo_stM ?_
      refine vo_nil ?_
      refine hK23 _ ?_
      refine vc_treeown 2 (by omega) rfl ?_
      refine vc_stM ?_
      refine vc_expose 2 (by omega) rfl ?_
      refine vc_stM ?_
      refine vc_treeown 3 (by omega) rfl ?_
      refine vc_stM ?_
      refine vc_expose 3 (by omega) rfl ?_
      refine vc_stM ?_
      refine vc_ret ?_
      change retQ _ _ _ _ _
      refine retQ_sel [] (srows := []) (.inr rfl) hC rfl rfl rfl rfl rfl rfl rfl ?_
      have hM := fun y => med1 ⟨hb1, hb2, hb3⟩ (by omega) ha2 ho1 ho2 y
      first
       | exact ⟨_, _, _, ⟨(hM y18).1, by omega⟩, rfl, rfl⟩
       | exact ⟨_, _, _, ⟨(hM y29).2.1, by omega⟩, rfl, rfl⟩
       | exact ⟨_, _, _, ⟨(hM 0).2.2.1, by omega⟩, rfl, rfl⟩
       | exact ⟨_, _, _, ⟨(hM 0).2.2.2, by omega⟩, rfl, rfl⟩
    ·refine sb_extE 5 rfl (fun _ => rfl) (xt_load_take1 rfl rfl (by omega) Try.underlying52 rfl (attrs_at0 (by omega))) fun Rf15 => ?_
     refine vb_stM ?_
     refine vb_treeown 6 (by omega) rfl ?_
     refine vb_stM ?_
     refine vb_any2 1 10 (by kernel_rfl) ?_ ?_
     ·refine sb_light 1 rfl rfl rfl (wnt_none rfl) (lb_load_var hC rfl rfl rfl rfl Try.underlying24 rfl rfl) ?_
      refine vb_ext 10 rfl (by kernel_rfl) rfl (xt_buildSlice E52 rfl rfl rfl rfl) ?_
      refine vb_stM ?_
      refine vb_one 11 rfl (by kernel_rfl) rfl ?_
      refine vo_appendU E52 rfl (by omega) rfl rfl rfl sd sd fun Rt23 => ?_
      refine vo_stM ?_
      try simp only [app_ints, app_intss, app_bools, app_attrs3]
      refine vo_done ⟨rfl, ?_⟩
      refine vb_light0 12 rfl rfl rfl (by kernel_rfl) (by kernel_rfl) (by kernel_rfl) (wnt_none rfl) (l0_index_ref rfl rfl rfl E24.und inf52 sz52 sd sd) ?_
      try simp only [Int.toNat_natCast]
      refine vb_one 13 rfl (by kernel_rfl) rfl ?_
      refine vo_totree 6 rfl ((by first | exact plain_nilO _ | exact plain_nil1 | exact plain_attrs _ | exact plain_pairsX _)) ?_
      refine vo_stM ?_
      refine vo_weaktree 6 rfl ?_
      refine vo_stM ?_
      refine vo_put (p := .sl _ _ _) rfl rfl rfl rfl rfl rfl rfl hC rfl (by first | decide | simp [refsOf]) inf52 sz52 sd ?_
      refine vo_stM ?_
      try simp only [List.set_set, set_attrss]
      refine vo_done ⟨rfl, ?_⟩
      refine vb_nil (by kernel_rfl) ?_
      refine hK3 _ ?_
      refine vc_seq fun K24 hK24 => ?_
      refine vc_region ?_
      refine vo_load_varG rfl rfl rfl Try.underlying27 rfl inf27 sz27 rfl ?_
      refine vo_stM ?_
      refine vo_store_varG rfl rfl rfl rfl inf27 sz27 rfl ?_
      refine vo_stM ?_
      refine vo_nil ?_
      refine hK24 _ ?_
      refine vc_treeown 2 (by omega) rfl ?_
      refine vc_stM ?_
      refine vc_expose 2 (by omega) rfl ?_
      refine vc_stM ?_
      refine vc_treeown 3 (by omega) rfl ?_
      refine vc_stM ?_
      refine vc_expose 3 (by omega) rfl ?_
      refine vc_stM ?_
      refine vc_ret ?_
      change retQ _ _ _ _ _
      refine retQ_sel [] (srows := []) (.inr rfl) hC rfl rfl rfl rfl rfl rfl rfl ?_
      have hM := fun y => med1 ⟨hb1, hb2, hb3⟩ (by omega) ha2 ho1 ho2 y
      first
       | exact ⟨_, _, _, ⟨(hM y18).1, by omega⟩, rfl, rfl⟩
       | exact ⟨_, _, _, ⟨(hM y29).2.1, by omega⟩, rfl, rfl⟩
       | exact ⟨_, _, _, ⟨(hM 0).2.2.1, by omega⟩, rfl, rfl⟩
       | exact ⟨_, _, _, ⟨(hM 0).2.2.2, by omega⟩, rfl, rfl⟩
     ·refine sb_ext 10 rfl rfl (xt_buildSlice E52 rfl rfl rfl rfl) ?_
      refine vb_stM ?_
      refine vb_any2 1 11 (by kernel_rfl) ?_ ?_
      ·refine sb_light 1 rfl rfl rfl (wnt_none rfl) (lb_load_var hC rfl rfl rfl rfl Try.underlying24 rfl rfl) ?_
       refine vb_one 11 rfl (by kernel_rfl) rfl ?_
       refine vo_appendU E52 rfl (by omega) rfl rfl rfl sd sd fun Rt24 => ?_
       refine vo_stM ?_
       try simp only [app_ints, app_intss, app_bools, app_attrs3]
       refine vo_done ⟨rfl, ?_⟩
       refine vb_light0 12 rfl rfl rfl (by kernel_rfl) (by kernel_rfl) (by kernel_rfl) (wnt_none rfl) (l0_index_ref rfl rfl rfl E24.und inf52 sz52 sd sd) ?_
       try simp only [Int.toNat_natCast]
       refine vb_one 13 rfl (by kernel_rfl) rfl ?_
       refine vo_totree 6 rfl ((by first | exact plain_nilO _ | exact plain_nil1 | exact plain_attrs _ | exact plain_pairsX _)) ?_
       refine vo_stM ?_
       refine vo_weaktree 6 rfl ?_
       refine vo_stM ?_
       refine vo_put (p := .sl _ _ _) rfl rfl rfl rfl rfl rfl rfl hC rfl (by first | decide | simp [refsOf]) inf52 sz52 sd ?_
       refine vo_stM ?_
       try simp only [List.set_set, set_attrss]
       refine vo_done ⟨rfl, ?_⟩
       refine vb_nil (by kernel_rfl) ?_
       refine hK3 _ ?_
       refine vc_seq fun K25 hK25 => ?_
       refine vc_region ?_
       refine vo_load_varG rfl rfl rfl Try.underlying27 rfl inf27 sz27 rfl ?_
       refine vo_stM ?_
       refine vo_store_varG rfl rfl rfl rfl inf27 sz27 rfl ?_
       refine vo_stM ?_
       refine vo_nil ?_
       refine hK25 _ ?_
       refine vc_treeown 2 (by omega) rfl ?_
       refine vc_stM ?_
       refine vc_expose 2 (by omega) rfl ?_
       refine vc_stM ?_
       refine vc_treeown 3 (by omega) rfl ?_
       refine vc_stM ?_
       refine vc_expose 3 (by omega) rfl ?_
       refine vc_stM ?_
       refine vc_ret ?_
       change retQ _ _ _ _ _
       refine retQ_sel [] (srows := []) (.inr rfl) hC rfl rfl rfl rfl rfl rfl rfl ?_
       have hM := fun y => med1 ⟨hb1, hb2, hb3⟩ (by omega) ha2 ho1 ho2 y
       first
        | exact ⟨_, _, _, ⟨(hM y18).1, by omega⟩, rfl, rfl⟩
        | exact ⟨_, _, _, ⟨(hM y29).2.1, by omega⟩, rfl, rfl⟩
        | exact ⟨_, _, _, ⟨(hM 0).2.2.1, by omega⟩, rfl, rfl⟩
        | exact ⟨_, _, _, ⟨(hM 0).2.2.2, by omega⟩, rfl, rfl⟩
      ·refine sb_one 11 rfl (by kernel_rfl) ?_
       refine vo_appendU E52 rfl (by omega) rfl rfl rfl sd sd fun Rt25 => ?_
       refine vo_stM ?_
       try simp only [app_ints, app_intss, app_bools, app_attrs3]
       refine vo_done ⟨rfl, ?_⟩
       refine vb_any1 1 (by kernel_rfl) ?_
       refine sb_light 1 rfl rfl rfl (wnt_none rfl) (lb_load_var hC rfl rfl rfl rfl Try.underlying24 rfl rfl) ?_
       refine vb_light0 12 rfl rfl rfl (by kernel_rfl) (by kernel_rfl) (by kernel_rfl) (wnt_none rfl) (l0_index_ref rfl rfl rfl E24.und inf52 sz52 sd sd) ?_
       try simp only [Int.toNat_natCast]
       refine vb_one 13 rfl (by kernel_rfl) rfl ?_
       refine vo_totree 6 rfl ((by first | exact plain_nilO _ | exact plain_nil1 | exact plain_attrs _ | exact plain_pairsX _)) ?_
       refine vo_stM ?_
       refine vo_weaktree 6 rfl ?_
       refine vo_stM ?_
       refine vo_put (p := .sl _ _ _) rfl rfl rfl rfl rfl rfl rfl hC rfl (by first | decide | simp [refsOf]) inf52 sz52 sd ?_
       refine vo_stM ?_
       try simp only [List.set_set, set_attrss]
       refine vo_done ⟨rfl, ?_⟩
       refine vb_nil (by kernel_rfl) ?_
       refine hK3 _ ?_
       refine vc_seq fun K26 hK26 => ?_
       refine vc_region ?_
       refine vo_load_varG rfl rfl rfl Try.underlying27 rfl inf27 sz27 rfl ?_
       refine vo_stM ?_
       refine vo_store_varG rfl rfl rfl rfl inf27 sz27 rfl ?_
       refine vo_stM ?_
       refine vo_nil ?_
       refine hK26 _ ?_
       refine vc_treeown 2 (by omega) rfl ?_
       refine vc_stM ?_
       refine vc_expose 2 (by omega) rfl ?_
       refine vc_stM ?_
       refine vc_treeown 3 (by omega) rfl ?_
       refine vc_stM ?_
       refine vc_expose 3 (by omega) rfl ?_
       refine vc_stM ?_
       refine vc_ret ?_
       change retQ _ _ _ _ _
       refine retQ_sel [] (srows := []) (.inr rfl) hC rfl rfl rfl rfl rfl rfl rfl ?_
       have hM := fun y => med1 ⟨hb1, hb2, hb3⟩ (by omega) ha2 ho1 ho2 y
       first
        | exact ⟨_, _, _, ⟨(hM y18).1, by omega⟩, rfl, rfl⟩
        | exact ⟨_, _, _, ⟨(hM y29).2.1, by omega⟩, rfl, rfl⟩
        | exact ⟨_, _, _, ⟨(hM 0).2.2.1, by omega⟩, rfl, rfl⟩
        | exact ⟨_, _, _, ⟨(hM 0).2.2.2, by omega⟩, rfl, rfl⟩
    ·refine sb_ext 10 rfl rfl (xt_buildSlice E52 rfl rfl rfl rfl) ?_
     refine vb_stM ?_
     refine vb_any2 1 5 (by kernel_rfl) ?_ ?_
     ·refine sb_light 1 rfl rfl rfl (wnt_none rfl) (lb_load_var hC rfl rfl rfl rfl Try.underlying24 rfl rfl) ?_
      refine vb_any1 5 (by kernel_rfl) ?_
      refine sb_extE 5 rfl (fun _ => rfl) (xt_load_take1 rfl rfl (by omega) Try.underlying52 rfl (attrs_at0 (by omega))) fun Rf15 => ?_
      refine vb_stM ?_
      refine vb_treeown 7 (by omega) rfl ?_
      refine vb_stM ?_
      refine vb_one 11 rfl (by kernel_rfl) rfl ?_
      refine vo_appendU E52 rfl (by omega) rfl rfl rfl sd sd fun Rt26 => ?_
      refine vo_stM ?_
      try simp only [app_ints, app_intss, app_bools, app_attrs3]
      refine vo_done ⟨rfl, ?_⟩
      refine vb_light0 12 rfl rfl rfl (by kernel_rfl) (by kernel_rfl) (by kernel_rfl) (wnt_none rfl) (l0_index_ref rfl rfl rfl E24.und inf52 sz52 sd sd) ?_
      try simp only [Int.toNat_natCast]
      refine vb_one 13 rfl (by kernel_rfl) rfl ?_
      refine vo_totree 7 rfl ((by first | exact plain_nilO _ | exact plain_nil1 | exact plain_attrs _ | exact plain_pairsX _)) ?_
      refine vo_stM ?_
      refine vo_weaktree 7 rfl ?_
      refine vo_stM ?_
      refine vo_put (p := .sl _ _ _) rfl rfl rfl rfl rfl rfl rfl hC rfl (by first | decide | simp [refsOf]) inf52 sz52 sd ?_
      refine vo_stM ?_
      try simp only [List.set_set, set_attrss]
      refine vo_done ⟨rfl, ?_⟩
      refine vb_nil (by kernel_rfl) ?_
      refine hK3 _ ?_
      refine vc_seq fun K27 hK27 => ?_
      refine vc_region ?_
      refine vo_load_varG rfl rfl rfl Try.underlying27 rfl inf27 sz27 rfl ?_
      refine vo_stM ?_
      refine vo_store_varG rfl rfl rfl rfl inf27 sz27 rfl ?_
      refine vo_stM ?_
      refine vo_nil ?_
      refine hK27 _ ?_
      refine vc_treeown 2 (by omega) rfl ?_
      refine vc_stM ?_
      refine vc_expose 2 (by omega) rfl ?_
      refine vc_stM ?_
      refine vc_treeown 3 (by omega) rfl ?_
      refine vc_stM ?_
      refine vc_expose 3 (by omega) rfl ?_
      refine vc_stM ?_
      refine vc_ret ?_
      change retQ _ _ _ _ _
      refine retQ_sel [] (srows := []) (.inr rfl) hC rfl rfl rfl rfl rfl rfl rfl ?_
      have hM := fun y => med1 ⟨hb1, hb2, hb3⟩ (by omega) ha2 ho1 ho2 y
      first
       | exact ⟨_, _, _, ⟨(hM y18).1, by omega⟩, rfl, rfl⟩
       | exact ⟨_, _, _, ⟨(hM y29).2.1, by omega⟩, rfl, rfl⟩
       | exact ⟨_, _, _, ⟨(hM 0).2.2.1, by omega⟩, rfl, rfl⟩
       | exact ⟨_, _, _, ⟨(hM 0).2.2.2, by omega⟩, rfl, rfl⟩
     ·refine sb_extE 5 rfl (fun _ => rfl) (xt_load_take1 rfl rfl (by omega) Try.underlying52 rfl (attrs_at0 (by omega))) fun Rf15 => ?_
      refine vb_stM ?_
      refine vb_treeown 7 (by omega) rfl ?_
      refine vb_stM ?_
      refine vb_any2 1 11 (by kernel_rfl) ?_ ?_
      ·refine sb_light 1 rfl rfl rfl (wnt_none rfl) (lb_load_var hC rfl rfl rfl rfl Try.underlying24 rfl rfl) ?_
       refine vb_one 11 rfl (by kernel_rfl) rfl ?_
       refine vo_appendU E52 rfl (by omega) rfl rfl rfl sd sd fun Rt27 => ?_
       refine vo_stM ?_
       try simp only [app_ints, app_intss, app_bools, app_attrs3]
       refine vo_done ⟨rfl, ?_⟩
       refine vb_light0 12 rfl rfl rfl (by kernel_rfl) (by kernel_rfl) (by kernel_rfl) (wnt_none rfl) (l0_index_ref rfl rfl rfl E24.und inf52 sz52 sd sd) ?_
       try simp only [Int.toNat_natCast]
       refine vb_one 13 rfl (by kernel_rfl) rfl ?_
       refine vo_totree 7 rfl ((by first | exact plain_nilO _ | exact plain_nil1 | exact plain_attrs _ | exact plain_pairsX _)) ?_
       refine vo_stM ?_
       refine vo_weaktree 7 rfl ?_
       refine vo_stM ?_
       refine vo_put (p := .sl _ _ _) rfl rfl rfl rfl rfl rfl rfl hC rfl (by first | decide | simp [refsOf]) inf52 sz52 sd ?_
       refine vo_stM ?_
       try simp only [List.set_set, set_attrss]
       refine vo_done ⟨rfl, ?_⟩
       refine vb_nil (by kernel_rfl) ?_
       refine hK3 _ ?_
       refine vc_seq fun K28 hK28 => ?_
       refine vc_region ?_
       refine vo_load_varG rfl rfl rfl Try.underlying27 rfl inf27 sz27 rfl ?_
       refine vo_stM ?_
       refine vo_store_varG rfl rfl rfl rfl inf27 sz27 rfl ?_
       refine vo_stM ?_
       refine vo_nil ?_
       refine hK28 _ ?_
       refine vc_treeown 2 (by omega) rfl ?_
       refine vc_stM ?_
       refine vc_expose 2 (by omega) rfl ?_
       refine vc_stM ?_
       refine vc_treeown 3 (by omega) rfl ?_
       refine vc_stM ?_
       refine vc_expose 3 (by omega) rfl ?_
       refine vc_stM ?_
       refine vc_ret ?_
       change retQ _ _ _ _ _
       refine retQ_sel [] (srows := []) (.inr rfl) hC rfl rfl rfl rfl rfl rfl rfl ?_
       have hM := fun y => med1 ⟨hb1, hb2, hb3⟩ (by omega) ha2 ho1 ho2 y
       first
        | exact ⟨_, _, _, ⟨(hM y18).1, by omega⟩, rfl, rfl⟩
        | exact ⟨_, _, _, ⟨(hM y29).2.1, by omega⟩, rfl, rfl⟩
        | exact ⟨_, _, _, ⟨(hM 0).2.2.1, by omega⟩, rfl, rfl⟩
        | exact ⟨_, _, _, ⟨(hM 0).2.2.2, by omega⟩, rfl, rfl⟩
      ·refine sb_one 11 rfl (by kernel_rfl) ?_
       refine vo_appendU E52 rfl (by omega) rfl rfl rfl sd sd fun Rt28 => ?_
       refine vo_stM ?_
       try simp only [app_ints, app_intss, app_bools, app_attrs3]
       refine vo_done ⟨rfl, ?_⟩
       refine vb_any1 1 (by kernel_rfl) ?_
       refine sb_light 1 rfl rfl rfl (wnt_none rfl) (lb_load_var hC rfl rfl rfl rfl Try.underlying24 rfl rfl) ?_
       refine vb_light0 12 rfl rfl rfl (by kernel_rfl) (by kernel_rfl) (by kernel_rfl) (wnt_none rfl) (l0_index_ref rfl rfl rfl E24.und inf52 sz52 sd sd) ?_
       try simp only [Int.toNat_natCast]
       refine vb_one 13 rfl (by kernel_rfl) rfl ?_
       refine vo_totree 7 rfl ((by first | exact plain_nilO _ | exact plain_nil1 | exact plain_attrs _ | exact plain_pairsX _)) ?_
       refine vo_stM ?_
       refine vo_weaktree 7 rfl ?_
       refine vo_stM ?_
       refine vo_put (p := .sl _ _ _) rfl rfl rfl rfl rfl rfl rfl hC rfl (by first | decide | simp [refsOf]) inf52 sz52 sd ?_
       refine vo_stM ?_
       try simp only [List.set_set, set_attrss]
       refine vo_done ⟨rfl, ?_⟩
       refine vb_nil (by kernel_rfl) ?_
       refine hK3 _ ?_
       refine vc_seq fun K29 hK29 => ?_
       refine vc_region ?_
       refine vo_load_varG rfl rfl rfl Try.underlying27 rfl inf27 sz27 rfl ?_
       refine vo_stM ?_
       refine vo_store_varG rfl rfl rfl rfl inf27 sz27 rfl ?_
       refine vo_stM ?_
       refine vo_nil ?_
       refine hK29 _ ?_
       refine vc_treeown 2 (by omega) rfl ?_
       refine vc_stM ?_
       refine vc_expose 2 (by omega) rfl ?_
       refine vc_stM ?_
       refine vc_treeown 3 (by omega) rfl ?_
       refine vc_stM ?_
       refine vc_expose 3 (by omega) rfl ?_
       refine vc_stM ?_
       refine vc_ret ?_
       change retQ _ _ _ _ _
       refine retQ_sel [] (srows := []) (.inr rfl) hC rfl rfl rfl rfl rfl rfl rfl ?_
       have hM := fun y => med1 ⟨hb1, hb2, hb3⟩ (by omega) ha2 ho1 ho2 y
       first
        | exact ⟨_, _, _, ⟨(hM y18).1, by omega⟩, rfl, rfl⟩
        | exact ⟨_, _, _, ⟨(hM y29).2.1, by omega⟩, rfl, rfl⟩
        | exact ⟨_, _, _, ⟨(hM 0).2.2.1, by omega⟩, rfl, rfl⟩
        | exact ⟨_, _, _, ⟨(hM 0).2.2.2, by omega⟩, rfl, rfl⟩
 ·try simp only [zq0, zq1, zq2, zq3, zq4, zq5, zq6, zq7, zq8, zq9, zqa, zqb, zqc, zqd, zqe, zqf] at hc1
  refine vc_seq fun K30 hK30 => ?_
  refine vc_region ?_
  refine vo_binI rfl rfl rfl rfl trivial ?_
  refine vo_assign_pv rfl rfl ?_
  refine vo_nil ?_
  refine hK30 _ ?_
  refine vc_cond rfl (fun hc2 => ?_) (fun hc2 => ?_)
  ·try simp only [zq0, zq1, zq2, zq3, zq4, zq5, zq6, zq7, zq8, zq9, zqa, zqb, zqc, zqd, zqe, zqf] at hc2
   refine vc_drawB [7, 9] (by kernel_rfl) ?_
   change VLB [7, 9] _ _ _ 10 _ _ _
   refine vb_light0 0 rfl rfl rfl (by kernel_rfl) (by kernel_rfl) (by kernel_rfl) (wnt_none rfl) (l0_fieldAddr_ptr rfl Try.underlying27 rfl inf25 (by rw [sz25]; decide)) ?_
   try simp only [Nat.zero_add]
   refine vb_light 1 [0, 2, 3, 4, 5, 6] rfl rfl rfl (by kernel_rfl) (by kernel_rfl) (by kernel_rfl) (by kernel_rfl) (by kernel_rfl) (wnt_none rfl) (lb_load_var hC rfl rfl rfl rfl Try.underlying25 rfl rfl) ?_
   refine vb_light0 2 rfl rfl rfl (by kernel_rfl) (by kernel_rfl) (by kernel_rfl) (wnt_none rfl) (l0_move_ptr rfl) ?_
   refine vb_ext 3 rfl (by kernel_rfl) rfl (xt_buildSlice E34 rfl rfl rfl rfl) ?_
   refine vb_stM ?_
   refine vb_expose 5 (by omega) rfl ?_
   refine vb_stM ?_
   refine vb_weaken 28 rfl ?_
   refine vb_stM ?_
   refine vb_any1 4 (by kernel_rfl) ?_
   refine sb_call 4 [0] hC rfl rfl (wnt_none rfl) Try.func99 rfl rfl rfl rfl rfl rfl rfl (one_sat (list := [_,_]) hc (by omega) (by simp) (by simp)) ?_
   rintro _ _ ⟨y29, hy29, rfl, rfl⟩
   refine ⟨Nat.le_of_ble_eq_true rfl, ⟨rfl, rfl, rfl, rfl⟩, .inl rfl, ?_⟩
   refine vb_stM ?_
   refine vb_light0 5 rfl rfl rfl (by kernel_rfl) (by kernel_rfl) (by kernel_rfl) (wnt_none rfl) (l0_build S42n rfl rfl) ?_
   refine vb_stM ?_
   refine vb_ext 6 rfl (by kernel_rfl) rfl (xt_buildSlice E25 rfl rfl rfl rfl) ?_
   refine vb_stM ?_
   refine vb_one 7 rfl (by kernel_rfl) rfl ?_
   refine vo_totree 6 rfl ((by first | exact plain_nilO _ | exact plain_nil1 | exact plain_attrs _ | exact plain_pairsX _)) ?_
   refine vo_stM ?_
   refine vo_append_treeG E25 rfl (by omega) (by omega) rfl rfl rfl rfl rfl sd sd sd ?_
   refine vo_stM ?_
   try simp only [app_ints, app_intss, app_bools, app_attrs3]
   refine vo_nilcell 3 (W.objs.length) 1 2 (p' := .agg _) rfl (get_endP _ _ _) rfl rfl ?_
   refine vo_stM ?_
   try simp only [PV.cells, List.set_cons_succ, List.set_cons_zero, set_endO]
   refine vo_done ⟨rfl, ?_⟩
   refine vb_light0 8 rfl rfl rfl (by kernel_rfl) (by kernel_rfl) (by kernel_rfl) (wnt_none rfl) (l0_fieldAddr_ptr rfl Try.underlying27 rfl inf25 (by rw [sz25]; decide)) ?_
   try simp only [Nat.zero_add]
   refine vb_one 9 rfl (by kernel_rfl) rfl ?_
   refine vo_store_varG rfl rfl rfl rfl inf25 sz25 rfl ?_
   refine vo_stM ?_
   refine vo_done ⟨rfl, ?_⟩
   refine vb_nil (by kernel_rfl) ?_
   refine hK3 _ ?_
   refine vc_seq fun K31 hK31 => ?_
   refine vc_region ?_
   refine vo_load_varG rfl rfl rfl Try.underlying27 rfl inf27 sz27 rfl ?_
   refine vo_stM ?_
   refine vo_store_varG rfl rfl rfl rfl inf27 sz27 rfl ?_
   refine vo_stM ?_
   refine vo_nil ?_
   refine hK31 _ ?_
   refine vc_treeown 2 (by omega) rfl ?_
   refine vc_stM ?_
   refine vc_expose 2 (by omega) rfl ?_
   refine vc_stM ?_
   refine vc_treeown 3 (by omega) rfl ?_
   refine vc_stM ?_
   refine vc_expose 3 (by omega) rfl ?_
   refine vc_stM ?_
   refine vc_ret ?_
   change retQ _ _ _ _ _
   refine retQ_sel [] (srows := []) (.inr rfl) hC rfl rfl rfl rfl rfl rfl rfl ?_
   have hM := fun y => med1 ⟨hb1, hb2, hb3⟩ (by omega) ha2 ho1 ho2 y
   first
    | exact ⟨_, _, _, ⟨(hM y18).1, by omega⟩, rfl, rfl⟩
    | exact ⟨_, _, _, ⟨(hM y29).2.1, by omega⟩, rfl, rfl⟩
    | exact ⟨_, _, _, ⟨(hM 0).2.2.1, by omega⟩, rfl, rfl⟩
    | exact ⟨_, _, _, ⟨(hM 0).2.2.2, by omega⟩, rfl, rfl⟩
  ·try simp only [zq0, zq1, zq2, zq3, zq4, zq5, zq6, zq7, zq8, zq9, zqa, zqb, zqc, zqd, zqe, zqf] at hc2
   refine vc_seq fun K32 hK32 => ?_
   refine vc_region ?_
   refine vo_binI rfl rfl rfl rfl trivial ?_
   refine vo_assign_pv rfl rfl ?_
   refine vo_nil ?_
   refine hK32 _ ?_
   refine vc_cond rfl (fun hc3 => ?_) (fun hc3 => ?_)
   ·try simp only [zq0, zq1, zq2, zq3, zq4, zq5, zq6, zq7, zq8, zq9, zqa, zqb, zqc, zqd, zqe, zqf] at hc3
    refine vc_region ?_
    refine vo_fieldAddr_ptr rfl rfl Try.underlying27 rfl inf24 (by rw [sz24]; decide) ?_
    try simp only [Nat.zero_add]
    refine vo_load_var rfl rfl rfl Try.underlying24 rfl rfl ?_
    refine vo_buildSlice E24 rfl rfl rfl rfl rfl ?_
    refine vo_stM ?_
    refine vo_totree 5 rfl ((by first | exact plain_nilO _ | exact plain_nil1 | exact plain_attrs _ | exact plain_pairsX _)) ?_
    refine vo_stM ?_
    refine vo_append_treeG E24 rfl (by omega) (by omega) rfl rfl rfl rfl rfl sd sd sd ?_
    refine vo_stM ?_
    try simp only [app_ints, app_intss, app_bools, app_attrs3]
    refine vo_nilcell 2 (W.attrs.length) 0 3 (p' := .sl none 3 []) rfl (get_endP _ _ _) rfl rfl ?_
    refine vo_stM ?_
    try simp only [set_endA]
    refine vo_fieldAddr_ptr rfl rfl Try.underlying27 rfl inf24 (by rw [sz24]; decide) ?_
    try simp only [Nat.zero_add]
    refine vo_store_varG rfl rfl rfl rfl inf24 sz24 rfl ?_
    refine vo_stM ?_
    refine vo_nil ?_
    refine hK3 _ ?_
    refine vc_seq fun K33 hK33 => ?_
    refine vc_region ?_
    refine vo_load_varG rfl rfl rfl Try.underlying27 rfl inf27 sz27 rfl ?_
    refine vo_stM ?_
    refine vo_store_varG rfl rfl rfl rfl inf27 sz27 rfl ?_
    refine vo_stM ?_
    refine vo_nil ?_
    refine hK33 _ ?_
    refine vc_treeown 2 (by omega) rfl ?_
    refine vc_stM ?_
    refine vc_expose 2 (by omega) rfl ?_
    refine vc_stM ?_
    refine vc_treeown 3 (by omega) rfl ?_
    refine vc_stM ?_
    refine vc_expose 3 (by omega) rfl ?_
    refine vc_stM ?_
    refine vc_ret ?_
    change retQ _ _ _ _ _
    refine retQ_sel [] (srows := []) (.inr rfl) hC rfl rfl rfl rfl rfl rfl rfl ?_
    have hM := fun y => med1 ⟨hb1, hb2, hb3⟩ (by omega) ha2 ho1 ho2 y
    first
     | exact ⟨_, _, _, ⟨(hM y18).1, by omega⟩, rfl, rfl⟩
     | exact ⟨_, _, _, ⟨(hM y29).2.1, by omega⟩, rfl, rfl⟩
     | exact ⟨_, _, _, ⟨(hM 0).2.2.1, by omega⟩, rfl, rfl⟩
     | exact ⟨_, _, _, ⟨(hM 0).2.2.2, by omega⟩, rfl, rfl⟩
   ·try simp only [zq0, zq1, zq2, zq3, zq4, zq5, zq6, zq7, zq8, zq9, zqa, zqb, zqc, zqd, zqe, zqf] at hc3
    refine vc_skip ?_
    refine hK3 _ ?_
    refine vc_seq fun K34 hK34 => ?_
    refine vc_region ?_
    refine vo_load_varG rfl rfl rfl Try.underlying27 rfl inf27 sz27 rfl ?_
    refine vo_stM ?_
    refine vo_store_varG rfl rfl rfl rfl inf27 sz27 rfl ?_
    refine vo_stM ?_
    refine vo_nil ?_
    refine hK34 _ ?_
    refine vc_treeown 2 (by omega) rfl ?_
    refine vc_stM ?_
    refine vc_expose 2 (by omega) rfl ?_
    refine vc_stM ?_
    refine vc_treeown 3 (by omega) rfl ?_
    refine vc_stM ?_
    refine vc_expose 3 (by omega) rfl ?_
    refine vc_stM ?_
    refine vc_ret ?_
    change retQ _ _ _ _ _
    refine retQ_sel [] (srows := []) (.inr rfl) hC rfl rfl rfl rfl rfl rfl rfl ?_
    have hM := fun y => med1 ⟨hb1, hb2, hb3⟩ (by omega) ha2 ho1 ho2 y
    first
     | exact ⟨_, _, _, ⟨(hM y18).1, by omega⟩, rfl, rfl⟩
     | exact ⟨_, _, _, ⟨(hM y29).2.1, by omega⟩, rfl, rfl⟩
     | exact ⟨_, _, _, ⟨(hM 0).2.2.1, by omega⟩, rfl, rfl⟩
     | exact ⟨_, _, _, ⟨(hM 0).2.2.2, by omega⟩, rfl, rfl⟩

end Go.Vl

/- Arguments of which less is said: what a contract says of those holds of them. -/
namespace Go.Vl
set_option linter.unusedVariables false
set_option linter.unusedSimpArgs false
open Go.RowKit

mutual
def PV.wk : PV → PV
  | .sl _ e xs => .sl none e (PV.wks xs)
  | .agg cs => .agg (PV.wks cs)
  | p => p
def PV.wks : List PV → List PV
  | [] => []
  | x :: xs => x.wk :: PV.wks xs
end
theorem PV.wks_map : ∀ l : List PV, PV.wks l = l.map PV.wk
  | [] => by simp [PV.wks]
  | x :: l => by simp [PV.wks, PV.wks_map l]
theorem PV.wk_sl (nl : Option Bool) (e : Nat) (xs : List PV) : (PV.sl nl e xs).wk = .sl none e (xs.map PV.wk) := by simp [PV.wk, PV.wks_map]
theorem PV.wk_agg (cs : List PV) : (PV.agg cs).wk = .agg (cs.map PV.wk) := by simp [PV.wk, PV.wks_map]
theorem PV.wk_int (k : IntKind) (n : Int) : (PV.int k n).wk = .int k n := by simp [PV.wk]
theorem PV.wk_bool (b : Bool) : (PV.bool b).wk = .bool b := by simp [PV.wk]
theorem PV.wk_isAgg (p : PV) : p.wk.isAgg = p.isAgg := by cases p <;> simp [PV.wk, PV.isAgg]
theorem PV.wk_cells (p : PV) : p.wk.cells = p.cells.map PV.wk := by
  cases p <;> simp [PV.wk, PV.cells, PV.wks_map]
theorem PV.wk_fits {p : PV} {e : Nat} (h : p.fits e) : p.wk.fits e := by
  refine ⟨by rw [PV.wk_cells, List.length_map]; exact h.1, fun j c hc => ?_⟩
  rw [PV.wk_cells] at hc
  simp only [List.getElem?_map, Option.map_eq_some_iff] at hc
  obtain ⟨c', hc', rfl⟩ := hc
  rw [PV.wk_isAgg]; exact h.2 j c' hc'
theorem RP.wk {w : World} {G : Nat → Prop} {p : PV} {v : Value} (h : RP w G p v) : RP w G p.wk v := by
  induction h with
  | int k n => rw [PV.wk_int]; exact .int k n
  | bool b => rw [PV.wk_bool]; exact .bool b
  | str s => simp only [PV.wk]; exact .str s
  | nilsl nl e h => rw [PV.wk_sl]; exact .nilsl none e (by simp)
  | sl nl e xs a len cap f h hs hl hcap hg hw hc hr ih =>
    rw [PV.wk_sl]
    refine .sl none e _ a len cap f (by simp) (fun h => hs (by simpa using h)) (by simpa using hl) hcap (fun h => hg (by simpa using h)) (fun i x hx => ?_) (fun i x j c hx hcj => ?_) (fun i x j c hx hcj => ?_)
    · simp only [List.getElem?_map, Option.map_eq_some_iff] at hx
      obtain ⟨x', hx', rfl⟩ := hx
      exact PV.wk_fits (hw i x' hx')
    · simp only [List.getElem?_map, Option.map_eq_some_iff] at hx
      obtain ⟨x', hx', rfl⟩ := hx
      rw [PV.wk_cells] at hcj
      simp only [List.getElem?_map, Option.map_eq_some_iff] at hcj
      obtain ⟨c', hc', rfl⟩ := hcj
      exact hc i x' j c' hx' hc'
    · simp only [List.getElem?_map, Option.map_eq_some_iff] at hx
      obtain ⟨x', hx', rfl⟩ := hx
      rw [PV.wk_cells] at hcj
      simp only [List.getElem?_map, Option.map_eq_some_iff] at hcj
      obtain ⟨c', hc', rfl⟩ := hcj
      exact ih i x' j c' hx' hc'
  | agg cs vs hl h1 h ih =>
    rw [PV.wk_agg]
    refine .agg _ vs (by simpa using hl) (fun j c hc => ?_) (fun j c v hc hv => ?_)
    · simp only [List.getElem?_map, Option.map_eq_some_iff] at hc
      obtain ⟨c', hc', rfl⟩ := hc
      rw [PV.wk_isAgg]; exact h1 j c' hc'
    · simp only [List.getElem?_map, Option.map_eq_some_iff] at hc
      obtain ⟨c', hc', rfl⟩ := hc
      exact ih j c' v hc' hv
  | gone v h => simp only [PV.wk]; exact .gone v h
  | ifc t p v h ih => simp only [PV.wk]; exact .ifc t p v h
  | nilifc => simp only [PV.wk]; exact .nilifc

def SV.wk : SV → SV
  | .pv f p => .pv f p.wk
  | s => s

theorem SatAt.wk {P : Program} {f : FuncId} {args args2 : List SV} {rows : List Row} {R : List SV → List Row → Prop} (e : args.map SV.wk = args2) (h : SatAt P f args2 rows R) : SatAt P f args rows R := by
  subst e
  intro C m vals hnb hA hv hs
  refine h C m vals hnb hA (by simpa using hv) { hs with env := fun t => ?_ }
  have := hs.env t
  show RS _ _ _ _ (look (enumE 0 (args.map SV.wk)) t) _
  change RS _ _ _ _ (look (enumE 0 args) t) _ at this
  rw [look_enumE] at this ⊢
  simp only [Nat.zero_le, if_true, Nat.sub_zero, List.getElem?_map] at this ⊢
  cases ht : args[t]? with
  | none => rw [ht] at this; simpa using this
  | some x =>
    rw [ht] at this
    simp only [Option.getD_some, Option.map_some] at this ⊢
    generalize vals.getD t undef = v at this ⊢
    cases this with
    | pv fr p v hp => exact .pv _ _ _ hp.wk
    | any v => exact .any v
    | val u => exact .val _
    | und => exact .und
    | ref id h => exact .ref id h
    | ptr id e i o b hid h => exact .ptr id e i o b hid h
    | adr fr cs a f hs hg h1 hc hr => exact .adr fr cs a f hs hg h1 hc hr
    | tup vs us hl h => exact .tup vs us hl h
    | ag vs us hl h h1 => exact .ag vs us hl h h1
    | sub id e l h c v hid hs => exact .sub id e l h c _ hid hs
end Go.Vl

/- '==' and '!=' on structs of three and four numbers. -/
namespace Go.Vl
set_option linter.unusedVariables false
set_option linter.unusedSimpArgs false
open Go.RowKit

/-- Structs of 3 numbers are compared number by number. -/
def EqI3 (P : Program) (T : TypeId) : Prop :=
  (∀ (x1 x2 x3 y1 y2 y3 : Int) (w : World), (Op.equalIn 10000 T (.agg #[.int .i64 x1, .int .i64 x2, .int .i64 x3]) (.agg #[.int .i64 y1, .int .i64 y2, .int .i64 y3])).run P w = .ok (x1 == y1 && x2 == y2 && x3 == y3) w) ∧ P.eqGuardType P.depth T = false

section
variable {P : Program} {C : Ctx} {Q : Go.Exit → St → Prop} {s : St} {ops : Array Oper} {rest : List Oper} {t : Nat} {ty : TypeId} {pos : String} {af : Array Edge}

end

/-- Structs of 4 numbers are compared number by number. -/
def EqI4 (P : Program) (T : TypeId) : Prop :=
  (∀ (x1 x2 x3 x4 y1 y2 y3 y4 : Int) (w : World), (Op.equalIn 10000 T (.agg #[.int .i64 x1, .int .i64 x2, .int .i64 x3, .int .i64 x4]) (.agg #[.int .i64 y1, .int .i64 y2, .int .i64 y3, .int .i64 y4])).run P w = .ok (x1 == y1 && x2 == y2 && x3 == y3 && x4 == y4) w) ∧ P.eqGuardType P.depth T = false

section
variable {P : Program} {C : Ctx} {Q : Go.Exit → St → Prop} {s : St} {ops : Array Oper} {rest : List Oper} {t : Nat} {ty : TypeId} {pos : String} {af : Array Edge}

end
end Go.Vl

/- An operation that makes memory, under a guard; 'make' in a statement whose order of evaluation is open. -/
namespace Go.Vl
set_option linter.unusedVariables false
set_option linter.unusedSimpArgs false
open Go.RowKit
section
variable {late : List Nat} {P : Program} {C : Ctx} {ops : Array Oper} {K : St → Prop} {s s1 : St} {n : Nat} {listed : Array Bool}
end
section
variable {P : Program} {C : Ctx} {s : St} {t : Nat} {ty : TypeId} {pos : String} {af : Array Edge}
end
end Go.Vl

namespace Go.Vl
set_option linter.unusedVariables false
set_option linter.unusedSimpArgs false
open Go.Proofs

end Go.Vl

namespace Go.Vl
set_option linter.unusedVariables false
set_option linter.unusedSimpArgs false
open Go.Proofs

end Go.Vl

namespace Go.Vl
set_option linter.unusedVariables false
set_option linter.unusedSimpArgs false
open Go.Proofs

theorem objectOf_sat {nl : Option Bool} {c : List (Fin 256)} {p : Nat} (hc : c.length ≤ 2000) (hp : p < 980000) : SatAt Try.prog 53 [.ptr 0 0 0 0] [rdr nl c p] (fun res rows => ∃ (W : WorldM) (q : Nat) (f : Bool) (z y : Int), (medW W ∧ q ≤ p + 430) ∧ res = [.pv f (worldP W), i64 z, i64 y] ∧ rows = [rdr nl c q]) := by
 refine sat_entry_G (rs := [(2, some (27, 3)), (3, none), (4, none)]) Try.func53 rfl rfl (Nat.le_of_ble_eq_true rfl) (Nat.le_of_ble_eq_true rfl) (resTs3 ⟨_, _, Try.underlying27, rfl, inf27, sz27⟩ trivial trivial) fun C hC => ?_
 rw [Try.ntmps53]
 replace hC : C.nb = 1 := hC
 refine vc_seq fun K1 hK1 => ?_
 refine vc_region ?_
 refine vo_alloc Z27 rfl ?_
 refine vo_stM ?_
 refine vo_assign_pv rfl rfl ?_
 refine vo_assign_pv rfl rfl ?_
 refine vo_nil ?_
 refine hK1 _ ?_
 refine vc_seq fun K2 hK2 => ?_
 refine vc_region ?_
 refine vo_move_ptr rfl rfl ?_
 refine vo_call [0] Try.func98 rfl rfl rfl rfl rfl rfl rfl (anyWorld_sat hc (by omega)) ?_
 rintro _ _ ⟨W, q, f, ⟨hW, hq⟩, rfl, rfl⟩
 refine ⟨Nat.le_of_ble_eq_true rfl, ⟨rfl, rfl, rfl, rfl⟩, .inl rfl, ?_⟩
 refine vo_stM ?_
 have hW2 := hW
 obtain ⟨⟨hb1, hb2, hb3⟩, ⟨hb4, hb5⟩, hb6, hb7⟩ := hW2
 refine vo_alloc Z27 rfl ?_
 refine vo_stM ?_
 refine vo_store_varS rfl rfl rfl inf27 sz27 rfl ?_
 refine vo_stM ?_
 refine vo_nil ?_
 refine hK2 _ ?_
 refine vc_seq fun K3 hK3 => ?_
 refine vc_drawBD [15] [0, 1, 2, 3, 4, 5, 6, 7, 8, 9, 10, 11, 12, 13, 14, 15, 16, 17] [0, 1, 2, 3, 4, 5, 6, 7, 8, 9, 10, 11, 12, 13, 14, 15, 16, 17] (by kernel_rfl) (by kernel_rfl) (by kernel_rfl) (by kernel_rfl) ?_
 change VLB [15] _ _ _ 18 _ _ _
 refine vb_light 0 [1, 2, 3, 4, 5, 6, 7, 8, 9, 10, 11, 12, 13, 14] rfl rfl rfl (by kernel_rfl) (by kernel_rfl) (by kernel_rfl) (by kernel_rfl) (by kernel_rfl) (wnt_none rfl) (lb_load_varS hC rfl rfl rfl rfl Try.underlying27 rfl inf27 sz27 rfl rfl) ?_
 refine vb_light0 1 rfl rfl rfl (by kernel_rfl) (by kernel_rfl) (by kernel_rfl) (wnt_none rfl) (l0_move_ptr rfl) ?_
 refine vb_light0 2 rfl rfl rfl (by kernel_rfl) (by kernel_rfl) (by kernel_rfl) (wnt_none rfl) (l0_move_ptr rfl) ?_
 refine vb_light0 3 rfl rfl rfl (by kernel_rfl) (by kernel_rfl) (by kernel_rfl) (wnt_none rfl) (l0_fieldAddr_ptr rfl Try.underlying27 rfl inf25 (by rw [sz25]; decide)) ?_
 try simp only [Nat.zero_add]
 refine vb_light 4 [0, 1, 2, 3, 10, 11] rfl rfl rfl (by kernel_rfl) (by kernel_rfl) (by kernel_rfl) (by kernel_rfl) (by kernel_rfl) (wnt_none rfl) (lb_load_var hC rfl rfl rfl rfl Try.underlying25 rfl rfl) ?_
 refine vb_light0 5 rfl rfl rfl (by kernel_rfl) (by kernel_rfl) (by kernel_rfl) (wnt_none rfl) (l0_len_pv rfl Try.underlying25) ?_
 refine vb_light0 6 rfl rfl rfl (by kernel_rfl) (by kernel_rfl) (by kernel_rfl) (wnt_none rfl) (l0_binI rfl rfl rfl sd) ?_
 refine vb_light0 10 rfl rfl rfl (by kernel_rfl) (by kernel_rfl) (by kernel_rfl) (wnt_none rfl) (l0_move_ptr rfl) ?_
 refine vb_light0 11 rfl rfl rfl (by kernel_rfl) (by kernel_rfl) (by kernel_rfl) (wnt_none rfl) (l0_move_ptr rfl) ?_
 refine vb_any1 7 (by kernel_rfl) ?_
 refine sb_call 7 [0] hC rfl rfl (wnt_none rfl) Try.func72 rfl rfl rfl rfl rfl rfl rfl (pick_sat hc (by omega)) ?_
 rintro _ _ ⟨x15, ⟨hx150, hx151⟩, rfl, rfl⟩
 refine ⟨Nat.le_of_ble_eq_true rfl, ⟨rfl, rfl, rfl, rfl⟩, .inl rfl, ?_⟩
 refine vb_stM ?_
 refine vb_ext 8 rfl (by kernel_rfl) rfl (xt_buildSlice E34 rfl rfl rfl rfl) ?_
 refine vb_stM ?_
 refine vb_expose 3 (by omega) rfl ?_
 refine vb_stM ?_
 refine vb_weaken 16 rfl ?_
 refine vb_stM ?_
 refine vb_any1 9 (by kernel_rfl) ?_
 refine sb_call 9 [0] hC rfl rfl (wnt_none rfl) Try.func99 rfl rfl rfl rfl rfl rfl rfl (one_sat (list := [_,_,_,_,_]) hc (by omega) (by simp) (by simp)) ?_
 rintro _ _ ⟨y17, hy17, rfl, rfl⟩
 refine ⟨Nat.le_of_ble_eq_true rfl, ⟨rfl, rfl, rfl, rfl⟩, .inl rfl, ?_⟩
 refine vb_stM ?_
 refine vb_any1 12 (by kernel_rfl) ?_
 refine sb_call 12 [0] hC rfl rfl (wnt_none rfl) Try.func72 rfl rfl rfl rfl rfl rfl rfl (pick_sat hc (by omega)) ?_
 rintro _ _ ⟨x20, ⟨hx200, hx201⟩, rfl, rfl⟩
 refine ⟨Nat.le_of_ble_eq_true rfl, ⟨rfl, rfl, rfl, rfl⟩, .inl rfl, ?_⟩
 refine vb_stM ?_
 refine vb_ext 13 rfl (by kernel_rfl) rfl (xt_buildSlice E34 rfl rfl rfl rfl) ?_
 refine vb_stM ?_
 refine vb_expose 4 (by omega) rfl ?_
 refine vb_stM ?_
 refine vb_weaken 21 rfl ?_
 refine vb_stM ?_
 refine vb_any1 14 (by kernel_rfl) ?_
 refine sb_call 14 [0] hC rfl rfl (wnt_none rfl) Try.func99 rfl rfl rfl rfl rfl rfl rfl (one_sat (list := [_,_,_,_,_,_,_]) hc (by omega) (by simp) (by simp)) ?_
 rintro _ _ ⟨y22, hy22, rfl, rfl⟩
 refine ⟨Nat.le_of_ble_eq_true rfl, ⟨rfl, rfl, rfl, rfl⟩, .inl rfl, ?_⟩
 refine vb_stM ?_
 refine vb_one 15 rfl (by kernel_rfl) rfl ?_
 refine vo_store_varS rfl rfl rfl inf27 sz27 rfl ?_
 refine vo_stM ?_
 refine vo_done ⟨rfl, ?_⟩
 refine vb_light0 16 rfl rfl rfl (by kernel_rfl) (by kernel_rfl) (by kernel_rfl) (wnt_none rfl) (l0_assign_pv rfl) ?_
 refine vb_light0 17 rfl rfl rfl (by kernel_rfl) (by kernel_rfl) (by kernel_rfl) (wnt_none rfl) (l0_assign_pv rfl) ?_
 refine vb_nil (by kernel_rfl) ?_
 refine hK3 _ ?_
 refine vc_ret ?_
 change retQ _ _ _ _ _
 refine retQ_sel [] (srows := []) (.inr rfl) hC rfl rfl rfl rfl rfl rfl rfl ?_
 exact ⟨W, _, _, _, _, ⟨hW, by omega⟩, rfl, rfl⟩


theorem DrawNamesOf_sat {nl : Option Bool} {c : List (Fin 256)} (hl : c.length < 1000000000) : SatAt Try.prog 29 [.pv false (.sl nl 1 (c.map byteP))] [] (fun res rows => ∃ (W : WorldM) (f : Bool) (z : Int), medW W ∧ res = [.pv f (worldP W), i64 z] ∧ rows = []) := by
 refine sat_entry_G (rs := [(2, some (27, 3)), (3, none)]) Try.func29 rfl rfl (Nat.le_of_ble_eq_true rfl) (Nat.le_of_ble_eq_true rfl) (resTs2 ⟨_, _, Try.underlying27, rfl, inf27, sz27⟩ trivial) fun C hC => ?_
 rw [Try.ntmps29]
 replace hC : C.nb = 0 := hC
 refine vc_seq fun K1 hK1 => ?_
 refine vc_region ?_
 refine vo_alloc Z27 rfl ?_
 refine vo_stM ?_
 refine vo_assign_pv rfl rfl ?_
 refine vo_nil ?_
 refine hK1 _ ?_
 refine vc_seq fun K2 hK2 => ?_
 refine vc_region ?_
 refine vo_move_pv rfl rfl ?_
 refine vo_call [] Try.func48 rfl rfl rfl rfl rfl rfl rfl (newReader_sat (by omega)) ?_
 rintro _ _ ⟨nl2, c2, hc, rfl, rfl⟩
 refine ⟨Nat.le_of_ble_eq_true rfl, ⟨rfl, rfl, rfl, rfl⟩, .inl rfl, ?_⟩
 refine vo_stM ?_
 refine vo_call [1] Try.func53 rfl rfl rfl rfl rfl rfl rfl (objectOf_sat hc (by omega)) ?_
 rintro _ _ ⟨W, q, f, z, y, ⟨hW, hq⟩, rfl, rfl⟩
 refine ⟨Nat.le_of_ble_eq_true rfl, ⟨rfl, rfl, rfl, rfl⟩, .inl rfl, ?_⟩
 refine vo_stM ?_
 refine vo_move rfl ?_
 refine vo_stM ?_
 refine vo_extract rfl rfl rfl ?_
 refine vo_extract rfl rfl rfl ?_
 refine vo_extract rfl rfl rfl ?_
 refine vo_alloc Z27 rfl ?_
 refine vo_stM ?_
 refine vo_store_varS rfl rfl rfl inf27 sz27 rfl ?_
 refine vo_stM ?_
 refine vo_assign_pv rfl rfl ?_
 refine vo_assign_pv rfl rfl ?_
 refine vo_nil ?_
 refine hK2 _ ?_
 refine vc_seq fun K3 hK3 => ?_
 refine vc_region ?_
 refine vo_load_varS rfl rfl rfl Try.underlying27 rfl inf27 sz27 rfl rfl ?_
 refine vo_move_pv rfl rfl ?_
 refine vo_store_varS rfl rfl rfl inf27 sz27 rfl ?_
 refine vo_stM ?_
 refine vo_assign_pv rfl rfl ?_
 refine vo_nil ?_
 refine hK3 _ ?_
 refine vc_ret ?_
 change retQ _ _ _ _ _
 refine retQ_sel [] (srows := []) (.inr rfl) hC rfl rfl rfl rfl rfl rfl rfl ?_
 exact ⟨W, _, z, hW, rfl, rfl⟩


end Go.Vl

namespace Go.Vl
set_option linter.unusedVariables false
set_option linter.unusedSimpArgs false
open Go.Proofs

end Go.Vl

namespace Go.Vl
set_option linter.unusedVariables false
set_option linter.unusedSimpArgs false
open Go.Proofs
end Go.Vl

namespace Go.Vl
set_option linter.unusedVariables false
set_option linter.unusedSimpArgs false
open Go.Proofs
theorem merge_sub : ∀ (n : Nat) (ls : List (List Int)), hds (mergeF n ls).2 = [] → ∀ l ∈ ls, l.Sublist (mergeF n ls).1
  | 0, ls, h, l, hl => by rw [hds_nil.1 h l hl]; exact List.nil_sublist _
  | n+1, ls, h, l, hl => by
    unfold mergeF at h ⊢
    split at h
    · rename_i e
      simp only [e]
      rw [hds_nil.1 h l hl]; exact List.nil_sublist _
    · rename_i x e
      simp only [e]
      have h1 := merge_sub n (ls.map (tk x)) h (tk x l) (List.mem_map_of_mem hl)
      by_cases h2 : 0 < l.length ∧ l.getD 0 0 = x
      · rw [tk_t h2.1 h2.2] at h1
        cases l with
        | nil => exact List.nil_sublist _
        | cons y l =>
          have : y = x := h2.2
          rw [this]
          exact List.Sublist.cons_cons x h1
      · rw [tk_f h2] at h1
        exact List.Sublist.cons x h1
theorem ordM_ne {b : List (List Int)} {c : Nat} (h : ordM b c ≠ []) : (∀ x ∈ b.getD c [], (ordT b c).getD x.toNat [] ≠ []) ∧ hds (mergeM (ordL (ordT b c) (b.getD c []) ++ [b.getD c []])).2 = [] ∧ ordM b c = (c : Int) :: (mergeM (ordL (ordT b c) (b.getD c []) ++ [b.getD c []])).1 := by
  have h1 : ∀ x ∈ b.getD c [], (ordT b c).getD x.toNat [] ≠ [] := by
    intro x hx e
    apply h
    unfold ordM ordS
    rw [if_pos ⟨x, hx, e⟩]
  by_cases h2 : hds (mergeM (ordL (ordT b c) (b.getD c []) ++ [b.getD c []])).2 = []
  · exact ⟨h1, h2, by rw [ordM_go h1, if_pos h2]⟩
  · exact (h (by rw [ordM_go h1, if_neg h2])).elim
theorem ordM_sub {b : List (List Int)} (hv : VB b) : ∀ c, c < b.length → ∀ y ∈ ordM b c, ordM b y.toNat ≠ [] ∧ (ordM b y.toNat).Sublist (ordM b c) ∧ (b.getD y.toNat []).Sublist (ordM b c) := by
  intro c
  induction c using Nat.strongRecOn with
  | ind c ih =>
    intro hc y hy
    have hne : ordM b c ≠ [] := fun e => by rw [e] at hy; cases hy
    obtain ⟨h1, h2, h3⟩ := ordM_ne hne
    have hsub := merge_sub _ _ h2
    have hbase : ∀ x ∈ b.getD c [], ordM b x.toNat ≠ [] ∧ (ordM b x.toNat).Sublist (ordM b c) ∧ x.toNat < c := by
      intro x hx
      have hb := (hv.at hc).2.2 x hx
      have e := ordT_at hv hc hx
      refine ⟨by rw [← e]; exact h1 x hx, ?_, by omega⟩
      rw [h3]
      refine .cons _ (hsub _ (List.mem_append_left _ (List.mem_map.2 ⟨x, hx, e⟩)))
    have hin : ∀ x ∈ b.getD c [], y ∈ ordM b x.toNat → ordM b y.toNat ≠ [] ∧ (ordM b y.toNat).Sublist (ordM b c) ∧ (b.getD y.toNat []).Sublist (ordM b c) := by
      intro x hx hm
      obtain ⟨g1, g2, g3⟩ := hbase x hx
      obtain ⟨k1, k2, k3⟩ := ih x.toNat g3 (by omega) y hm
      exact ⟨k1, k2.trans g2, k3.trans g2⟩
    rw [h3] at hy
    rcases List.mem_cons.1 hy with e | hm
    · subst e
      refine ⟨hne, List.Sublist.refl _, ?_⟩
      show (b.getD c []).Sublist _
      rw [h3]
      exact .cons _ (hsub _ (List.mem_append_right _ (List.mem_singleton.2 rfl)))
    · obtain ⟨l, hl, hyl⟩ := mergeF_mem _ _ _ hm
      rcases List.mem_append.1 hl with h4 | h4
      · obtain ⟨x, hx, rfl⟩ := List.mem_map.1 h4
        rw [ordT_at hv hc hx] at hyl
        exact hin x hx hyl
      · rw [List.mem_singleton.1 h4] at hyl
        obtain ⟨g1, g2, g3⟩ := hbase y hyl
        have hb := (hv.at hc).2.2 y hyl
        refine hin y hyl ?_
        rw [(ordM_ne g1).2.2]
        rw [show ((y.toNat : Nat) : Int) = y by omega]
        exact List.mem_cons_self
end Go.Vl

namespace Go.Vl
set_option linter.unusedVariables false
set_option linter.unusedSimpArgs false
open Go.Proofs

theorem ord_base {b : List (List Int)} (hv : VB b) {c : Nat} (hc : c < b.length) : (∀ x ∈ b.getD c [], ordM b c ≠ [] → (ordM b x.toNat).Sublist (ordM b c)) ∧ ∀ y ∈ ordM b c, y ≠ c → ∃ x ∈ b.getD c [], y ∈ ordM b x.toNat := by
  constructor
  · intro x hx hne
    have hcm : (c : Int) ∈ ordM b c := by rw [(ordM_ne hne).2.2]; exact List.mem_cons_self
    have h1 := (ordM_sub hv c hc _ hcm).2.2
    rw [Int.toNat_natCast] at h1
    exact (ordM_sub hv c hc x (h1.subset hx)).2.1
  · intro y hy hne
    have h0 : ordM b c ≠ [] := fun e => by rw [e] at hy; cases hy
    obtain ⟨h1, h2, h3⟩ := ordM_ne h0
    rw [h3] at hy
    rcases List.mem_cons.1 hy with e | hm
    · exact absurd e hne
    · obtain ⟨l, hl, hyl⟩ := mergeF_mem _ _ _ hm
      rcases List.mem_append.1 hl with h4 | h4
      · obtain ⟨x, hx, rfl⟩ := List.mem_map.1 h4
        rw [ordT_at hv hc hx] at hyl
        exact ⟨x, hx, hyl⟩
      · rw [List.mem_singleton.1 h4] at hyl
        have hb := (hv.at hc).2.2 y hyl
        have e := ordT_at hv hc hyl
        have g1 : ordM b y.toNat ≠ [] := by rw [← e]; exact h1 y hyl
        refine ⟨y, hyl, ?_⟩
        rw [(ordM_ne g1).2.2, show ((y.toNat : Nat) : Int) = y by omega]
        exact List.mem_cons_self
theorem fnd_own {A : List (List AttrM)} {name : Int} : ∀ {o : List Int}, 0 ≤ (fnd A name o).1 → 0 ≤ findM name (anms (A.getD (fnd A name o).1.toNat [])) 0 ∧ (fnd A name o).1 ∈ o
  | [], h => by simp [fnd] at h
  | x :: r, h => by
    unfold fnd at h ⊢
    split
    · rename_i hp; exact ⟨hp, by simp⟩
    · rename_i hp
      rw [if_neg hp] at h
      have := fnd_own (o := r) h
      exact ⟨this.1, List.mem_cons_of_mem _ this.2⟩
end Go.Vl

namespace Go.Vl
set_option linter.unusedVariables false
set_option linter.unusedSimpArgs false
open Go.Proofs

theorem bind_sat {ow : Int} {a : AttrM} {obj : Int} {c : Int}   : SatAt Try.prog 64 [i64 ow, .pv false (attrP a), i64 obj, i64 c] [] (fun res rows => res = [.pv true (foundP (bindM ow a obj c))] ∧ rows = []) := by
 refine sat_entry_G (rs := [(8, some (37, 4))]) Try.func64 rfl rfl (Nat.le_of_ble_eq_true rfl) (Nat.le_of_ble_eq_true rfl) (resTs1 ⟨_, _, Try.underlying37, rfl, inf37, sz37⟩) fun C hC => ?_
 rw [Try.ntmps64]
 replace hC : C.nb = 0 := hC
 refine vc_seq fun K1 hK1 => ?_
 refine vc_region ?_
 refine vo_box rfl rfl ?_
 refine vo_stM ?_
 refine vo_alloc Z37 rfl ?_
 refine vo_stM ?_
 refine vo_nil ?_
 refine hK1 _ ?_
 refine vc_seq fun K2 hK2 => ?_
 refine vc_region ?_
 refine vo_move_pv rfl rfl ?_
 refine vo_fieldAddr_ptr rfl rfl Try.underlying31 rfl inf3 (by rw [sz3]; decide) ?_
 try simp only [Nat.zero_add]
 refine vo_load_var rfl rfl rfl Try.underlying3 rfl rfl ?_
 refine vo_build S37 rfl rfl rfl ?_
 refine vo_stM ?_
 refine vo_alloc Z37 rfl ?_
 refine vo_stM ?_
 refine vo_store_varS rfl rfl rfl inf37 sz37 rfl ?_
 refine vo_stM ?_
 refine vo_nil ?_
 refine hK2 _ ?_
 refine vc_seq fun K3 hK3 => ?_
 refine vc_seq fun K4 hK4 => ?_
 refine vc_region ?_
 refine vo_fieldAddr_ptr rfl rfl Try.underlying31 rfl inf3 (by rw [sz3]; decide) ?_
 try simp only [Nat.zero_add]
 refine vo_load_var rfl rfl rfl Try.underlying3 rfl rfl ?_
 refine vo_nil ?_
 refine hK4 _ ?_
 refine vc_block ?_
 refine vc_seq fun K5 hK5 => ?_
 refine vc_region ?_
 refine vo_binI rfl rfl rfl rfl trivial ?_
 refine vo_assign_pv rfl rfl ?_
 refine vo_nil ?_
 refine hK5 _ ?_
 refine vc_cond rfl (fun hc1 => ?_) (fun hc1 => ?_)
 ·try simp only [zq0, zq1, zq2, zq3, zq4, zq5, zq6, zq7, zq8, zq9, zqa, zqb, zqc, zqd, zqe, zqf] at hc1
  refine vc_region ?_
  refine vo_move_pv rfl rfl ?_
  refine vo_fieldAddr_ptr rfl rfl Try.underlying37 rfl inf3 (by rw [sz3]; decide) ?_
  try simp only [Nat.zero_add]
  refine vo_store_var rfl rfl rfl rfl inf3 sz3 rfl ?_
  refine vo_stM ?_
  refine vo_nil ?_
  refine hK3 _ ?_
  refine vc_seq fun K6 hK6 => ?_
  refine vc_seq fun K7 hK7 => ?_
  refine vc_region ?_
  refine vo_fieldAddr_ptr rfl rfl Try.underlying31 rfl inf3 (by rw [sz3]; decide) ?_
  try simp only [Nat.zero_add]
  refine vo_load_var rfl rfl rfl Try.underlying3 rfl rfl ?_
  refine vo_binI rfl rfl rfl rfl trivial ?_
  refine vo_move_pv rfl rfl ?_
  refine vo_split 36 rfl (fun hg2 => ?_) (fun hg2 => ?_)
  ·try simp only [zq0, zq1, zq2, zq3, zq4, zq5, zq6, zq7, zq8, zq9, zqa, zqb, zqc, zqd, zqe, zqf] at hg2
   refine vo_guard_on rfl rfl rfl ?_
   refine vo_move_pv rfl rfl ?_
   refine vo_guard_on rfl rfl rfl ?_
   refine vo_binI rfl rfl rfl rfl trivial ?_
   refine vo_pick_t rfl rfl ?_
   refine vo_nil ?_
   refine hK7 _ ?_
   refine vc_cond rfl (fun hc3 => ?_) (fun hc3 => ?_)
   ·try simp only [zq0, zq1, zq2, zq3, zq4, zq5, zq6, zq7, zq8, zq9, zqa, zqb, zqc, zqd, zqe, zqf] at hc3
    refine vc_region ?_
    refine vo_fieldAddr_ptr rfl rfl Try.underlying37 rfl inf3 (by rw [sz3]; decide) ?_
    try simp only [Nat.zero_add]
    refine vo_store_var rfl rfl rfl rfl inf3 sz3 rfl ?_
    refine vo_stM ?_
    refine vo_nil ?_
    refine hK6 _ ?_
    refine vc_seq fun K8 hK8 => ?_
    refine vc_region ?_
    refine vo_load_varS rfl rfl rfl Try.underlying37 rfl inf37 sz37 rfl rfl ?_
    refine vo_store_varS rfl rfl rfl inf37 sz37 rfl ?_
    refine vo_stM ?_
    refine vo_nil ?_
    refine hK8 _ ?_
    refine vc_ret ?_
    change retQ _ _ _ _ _
    refine retQ_sel [] (srows := []) (.inr rfl) hC rfl rfl rfl rfl rfl rfl rfl ?_
    refine ⟨fr_eq (?_ : FoundM.mk _ _ _ _ = _), rfl⟩
    unfold bindM
    repeat' split
    all_goals first | rfl | (exfalso; omega)
   ·try simp only [zq0, zq1, zq2, zq3, zq4, zq5, zq6, zq7, zq8, zq9, zqa, zqb, zqc, zqd, zqe, zqf] at hc3
    refine vc_skip ?_
    refine hK6 _ ?_
    refine vc_seq fun K9 hK9 => ?_
    refine vc_region ?_
    refine vo_load_varS rfl rfl rfl Try.underlying37 rfl inf37 sz37 rfl rfl ?_
    refine vo_store_varS rfl rfl rfl inf37 sz37 rfl ?_
    refine vo_stM ?_
    refine vo_nil ?_
    refine hK9 _ ?_
    refine vc_ret ?_
    change retQ _ _ _ _ _
    refine retQ_sel [] (srows := []) (.inr rfl) hC rfl rfl rfl rfl rfl rfl rfl ?_
    refine ⟨fr_eq (?_ : FoundM.mk _ _ _ _ = _), rfl⟩
    unfold bindM
    repeat' split
    all_goals first | rfl | (exfalso; omega)
  ·try simp only [zq0, zq1, zq2, zq3, zq4, zq5, zq6, zq7, zq8, zq9, zqa, zqb, zqc, zqd, zqe, zqf] at hg2
   refine vo_guard_off rfl rfl rfl rfl rfl ?_
   refine vo_guard_off rfl rfl rfl rfl rfl ?_
   refine vo_pick_f rfl rfl ?_
   refine vo_nil ?_
   refine hK7 _ ?_
   refine vc_cond_f rfl ?_
   refine vc_skip ?_
   refine hK6 _ ?_
   refine vc_seq fun K10 hK10 => ?_
   refine vc_region ?_
   refine vo_load_varS rfl rfl rfl Try.underlying37 rfl inf37 sz37 rfl rfl ?_
   refine vo_store_varS rfl rfl rfl inf37 sz37 rfl ?_
   refine vo_stM ?_
   refine vo_nil ?_
   refine hK10 _ ?_
   refine vc_ret ?_
   change retQ _ _ _ _ _
   refine retQ_sel [] (srows := []) (.inr rfl) hC rfl rfl rfl rfl rfl rfl rfl ?_
   refine ⟨fr_eq (?_ : FoundM.mk _ _ _ _ = _), rfl⟩
   unfold bindM
   repeat' split
   all_goals first | rfl | (exfalso; omega)
 ·try simp only [zq0, zq1, zq2, zq3, zq4, zq5, zq6, zq7, zq8, zq9, zqa, zqb, zqc, zqd, zqe, zqf] at hc1
  refine vc_seq fun K11 hK11 => ?_
  refine vc_region ?_
  refine vo_binI rfl rfl rfl rfl trivial ?_
  refine vo_assign_pv rfl rfl ?_
  refine vo_nil ?_
  refine hK11 _ ?_
  refine vc_cond rfl (fun hc4 => ?_) (fun hc4 => ?_)
  ·try simp only [zq0, zq1, zq2, zq3, zq4, zq5, zq6, zq7, zq8, zq9, zqa, zqb, zqc, zqd, zqe, zqf] at hc4
   refine vc_seq fun K12 hK12 => ?_
   refine vc_region ?_
   refine vo_fieldAddr_ptr rfl rfl Try.underlying37 rfl inf3 (by rw [sz3]; decide) ?_
   try simp only [Nat.zero_add]
   refine vo_store_var rfl rfl rfl rfl inf3 sz3 rfl ?_
   refine vo_stM ?_
   refine vo_nil ?_
   refine hK12 _ ?_
   refine vc_region ?_
   refine vo_move_pv rfl rfl ?_
   refine vo_fieldAddr_ptr rfl rfl Try.underlying37 rfl inf3 (by rw [sz3]; decide) ?_
   try simp only [Nat.zero_add]
   refine vo_store_var rfl rfl rfl rfl inf3 sz3 rfl ?_
   refine vo_stM ?_
   refine vo_nil ?_
   refine hK3 _ ?_
   refine vc_seq fun K13 hK13 => ?_
   refine vc_seq fun K14 hK14 => ?_
   refine vc_region ?_
   refine vo_fieldAddr_ptr rfl rfl Try.underlying31 rfl inf3 (by rw [sz3]; decide) ?_
   try simp only [Nat.zero_add]
   refine vo_load_var rfl rfl rfl Try.underlying3 rfl rfl ?_
   refine vo_binI rfl rfl rfl rfl trivial ?_
   refine vo_move_pv rfl rfl ?_
   refine vo_split 36 rfl (fun hg5 => ?_) (fun hg5 => ?_)
   ·try simp only [zq0, zq1, zq2, zq3, zq4, zq5, zq6, zq7, zq8, zq9, zqa, zqb, zqc, zqd, zqe, zqf] at hg5
    refine vo_guard_on rfl rfl rfl ?_
    refine vo_move_pv rfl rfl ?_
    refine vo_guard_on rfl rfl rfl ?_
    refine vo_binI rfl rfl rfl rfl trivial ?_
    refine vo_pick_t rfl rfl ?_
    refine vo_nil ?_
    refine hK14 _ ?_
    refine vc_cond rfl (fun hc6 => ?_) (fun hc6 => ?_)
    ·try simp only [zq0, zq1, zq2, zq3, zq4, zq5, zq6, zq7, zq8, zq9, zqa, zqb, zqc, zqd, zqe, zqf] at hc6
     refine vc_region ?_
     refine vo_fieldAddr_ptr rfl rfl Try.underlying37 rfl inf3 (by rw [sz3]; decide) ?_
     try simp only [Nat.zero_add]
     refine vo_store_var rfl rfl rfl rfl inf3 sz3 rfl ?_
     refine vo_stM ?_
     refine vo_nil ?_
     refine hK13 _ ?_
     refine vc_seq fun K15 hK15 => ?_
     refine vc_region ?_
     refine vo_load_varS rfl rfl rfl Try.underlying37 rfl inf37 sz37 rfl rfl ?_
     refine vo_store_varS rfl rfl rfl inf37 sz37 rfl ?_
     refine vo_stM ?_
     refine vo_nil ?_
     refine hK15 _ ?_
     refine vc_ret ?_
     change retQ _ _ _ _ _
     refine retQ_sel [] (srows := []) (.inr rfl) hC rfl rfl rfl rfl rfl rfl rfl ?_
     refine ⟨fr_eq (?_ : FoundM.mk _ _ _ _ = _), rfl⟩
     unfold bindM
     repeat' split
     all_goals first | rfl | (exfalso; omega)
    ·try simp only [zq0, zq1, zq2, zq3, zq4, zq5, zq6, zq7, zq8, zq9, zqa, zqb, zqc, zqd, zqe, zqf] at hc6
     refine vc_skip ?_
     refine hK13 _ ?_
     refine vc_seq fun K16 hK16 => ?_
     refine vc_region ?_
     refine vo_load_varS rfl rfl rfl Try.underlying37 rfl inf37 sz37 rfl rfl ?_
     refine vo_store_varS rfl rfl rfl inf37 sz37 rfl ?_
     refine vo_stM ?_
     refine vo_nil ?_
     refine hK16 _ ?_
     refine vc_ret ?_
     change retQ _ _ _ _ _
     refine retQ_sel [] (srows := []) (.inr rfl) hC rfl rfl rfl rfl rfl rfl rfl ?_
     refine ⟨fr_eq (?_ : FoundM.mk _ _ _ _ = _), rfl⟩
     unfold bindM
     repeat' split
     all_goals first | rfl | (exfalso; omega)
   ·try simp only [zq0, zq1, zq2, zq3, zq4, zq5, zq6, zq7, zq8, zq9, zqa, zqb, zqc, zqd, zqe, zqf] at hg5
    refine vo_guard_off rfl rfl rfl rfl rfl ?_
    refine vo_guard_off rfl rfl rfl rfl rfl ?_
    refine vo_pick_f rfl rfl ?_
    refine vo_nil ?_
    refine hK14 _ ?_
    refine vc_cond_f rfl ?_
    refine vc_skip ?_
    refine hK13 _ ?_
    refine vc_seq fun K17 hK17 => ?_
    refine vc_region ?_
    refine vo_load_varS rfl rfl rfl Try.underlying37 rfl inf37 sz37 rfl rfl ?_
    refine vo_store_varS rfl rfl rfl inf37 sz37 rfl ?_
    refine vo_stM ?_
    refine vo_nil ?_
    refine hK17 _ ?_
    refine vc_ret ?_
    change retQ _ _ _ _ _
    refine retQ_sel [] (srows := []) (.inr rfl) hC rfl rfl rfl rfl rfl rfl rfl ?_
    refine ⟨fr_eq (?_ : FoundM.mk _ _ _ _ = _), rfl⟩
    unfold bindM
    repeat' split
    all_goals first | rfl | (exfalso; omega)
  ·try simp only [zq0, zq1, zq2, zq3, zq4, zq5, zq6, zq7, zq8, zq9, zqa, zqb, zqc, zqd, zqe, zqf] at hc4
   refine vc_seq fun K18 hK18 => ?_
   refine vc_seq fun K19 hK19 => ?_
   refine vc_region ?_
   refine vo_binI rfl rfl rfl rfl trivial ?_
   refine vo_assign_pv rfl rfl ?_
   refine vo_nil ?_
   refine hK19 _ ?_
   refine vc_cond rfl (fun hc7 => ?_) (fun hc7 => ?_)
   ·try simp only [zq0, zq1, zq2, zq3, zq4, zq5, zq6, zq7, zq8, zq9, zqa, zqb, zqc, zqd, zqe, zqf] at hc7
    refine vc_skip ?_
    refine hK18 _ ?_
    refine vc_cond rfl (fun hc8 => ?_) (fun hc8 => ?_)
    ·try simp only [zq0, zq1, zq2, zq3, zq4, zq5, zq6, zq7, zq8, zq9, zqa, zqb, zqc, zqd, zqe, zqf] at hc8
     refine vc_seq fun K20 hK20 => ?_
     refine vc_region ?_
     refine vo_move_pv rfl rfl ?_
     refine vo_binI rfl rfl rfl rfl trivial ?_
     refine vo_nil ?_
     refine hK20 _ ?_
     refine vc_cond rfl (fun hc9 => ?_) (fun hc9 => ?_)
     ·try simp only [zq0, zq1, zq2, zq3, zq4, zq5, zq6, zq7, zq8, zq9, zqa, zqb, zqc, zqd, zqe, zqf] at hc9
      refine vc_seq fun K21 hK21 => ?_
      refine vc_region ?_
      refine vo_fieldAddr_ptr rfl rfl Try.underlying37 rfl inf3 (by rw [sz3]; decide) ?_
      try simp only [Nat.zero_add]
      refine vo_store_var rfl rfl rfl rfl inf3 sz3 rfl ?_
      refine vo_stM ?_
      refine vo_nil ?_
      refine hK21 _ ?_
      refine vc_region ?_
      refine vo_move_pv rfl rfl ?_
      refine vo_fieldAddr_ptr rfl rfl Try.underlying37 rfl inf3 (by rw [sz3]; decide) ?_
      try simp only [Nat.zero_add]
      refine vo_store_var rfl rfl rfl rfl inf3 sz3 rfl ?_
      refine vo_stM ?_
      refine vo_nil ?_
      refine hK3 _ ?_
      refine vc_seq fun K22 hK22 => ?_
      refine vc_seq fun K23 hK23 => ?_
      refine vc_region ?_
      refine vo_fieldAddr_ptr rfl rfl Try.underlying31 rfl inf3 (by rw [sz3]; decide) ?_
      try simp only [Nat.zero_add]
      refine vo_load_var rfl rfl rfl Try.underlying3 rfl rfl ?_
      refine vo_binI rfl rfl rfl rfl trivial ?_
      refine vo_move_pv rfl rfl ?_
      refine vo_split 36 rfl (fun hg10 => ?_) (fun hg10 => ?_)
      ·try simp only [zq0, zq1, zq2, zq3, zq4, zq5, zq6, zq7, zq8, zq9, zqa, zqb, zqc, zqd, zqe, zqf] at hg10
       refine vo_guard_on rfl rfl rfl ?_
       refine vo_move_pv rfl rfl ?_
       refine vo_guard_on rfl rfl rfl ?_
       refine vo_binI rfl rfl rfl rfl trivial ?_
       refine vo_pick_t rfl rfl ?_
       refine vo_nil ?_
       refine hK23 _ ?_
       refine vc_cond rfl (fun hc11 => ?_) (fun hc11 => ?_)
       ·try simp only [zq0, zq1, zq2, zq3, zq4, zq5, zq6, zq7, zq8, zq9, zqa, zqb, zqc, zqd, zqe, zqf] at hc11
        refine vc_region ?_
        refine vo_fieldAddr_ptr rfl rfl Try.underlying37 rfl inf3 (by rw [sz3]; decide) ?_
        try simp only [Nat.zero_add]
        refine vo_store_var rfl rfl rfl rfl inf3 sz3 rfl ?_
        refine vo_stM ?_
        refine vo_nil ?_
        refine hK22 _ ?_
        refine vc_seq fun K24 hK24 => ?_
        refine vc_region ?_
        refine vo_load_varS rfl rfl rfl Try.underlying37 rfl inf37 sz37 rfl rfl ?_
        refine vo_store_varS rfl rfl rfl inf37 sz37 rfl ?_
        refine vo_stM ?_
        refine vo_nil ?_
        refine hK24 _ ?_
        refine vc_ret ?_
        change retQ _ _ _ _ _
        refine retQ_sel [] (srows := []) (.inr rfl) hC rfl rfl rfl rfl rfl rfl rfl ?_
        refine ⟨fr_eq (?_ : FoundM.mk _ _ _ _ = _), rfl⟩
        unfold bindM
        repeat' split
        all_goals first | rfl | (exfalso; omega)
       ·try simp only [zq0, zq1, zq2, zq3, zq4, zq5, zq6, zq7, zq8, zq9, zqa, zqb, zqc, zqd, zqe, zqf] at hc11
        refine vc_skip ?_
        refine hK22 _ ?_
        refine vc_seq fun K25 hK25 => ?_
        refine vc_region ?_
        refine vo_load_varS rfl rfl rfl Try.underlying37 rfl inf37 sz37 rfl rfl ?_
        refine vo_store_varS rfl rfl rfl inf37 sz37 rfl ?_
        refine vo_stM ?_
        refine vo_nil ?_
        refine hK25 _ ?_
        refine vc_ret ?_
        change retQ _ _ _ _ _
        refine retQ_sel [] (srows := []) (.inr rfl) hC rfl rfl rfl rfl rfl rfl rfl ?_
        refine ⟨fr_eq (?_ : FoundM.mk _ _ _ _ = _), rfl⟩
        unfold bindM
        repeat' split
        all_goals first | rfl | (exfalso; omega)
      ·try simp only [zq0, zq1, zq2, zq3, zq4, zq5, zq6, zq7, zq8, zq9, zqa, zqb, zqc, zqd, zqe, zqf] at hg10
       refine vo_guard_off rfl rfl rfl rfl rfl ?_
       refine vo_guard_off rfl rfl rfl rfl rfl ?_
       refine vo_pick_f rfl rfl ?_
       refine vo_nil ?_
       refine hK23 _ ?_
       refine vc_cond_f rfl ?_
       refine vc_skip ?_
       refine hK22 _ ?_
       refine vc_seq fun K26 hK26 => ?_
       refine vc_region ?_
       refine vo_load_varS rfl rfl rfl Try.underlying37 rfl inf37 sz37 rfl rfl ?_
       refine vo_store_varS rfl rfl rfl inf37 sz37 rfl ?_
       refine vo_stM ?_
       refine vo_nil ?_
       refine hK26 _ ?_
       refine vc_ret ?_
       change retQ _ _ _ _ _
       refine retQ_sel [] (srows := []) (.inr rfl) hC rfl rfl rfl rfl rfl rfl rfl ?_
       refine ⟨fr_eq (?_ : FoundM.mk _ _ _ _ = _), rfl⟩
       unfold bindM
       repeat' split
       all_goals first | rfl | (exfalso; omega)
     ·try simp only [zq0, zq1, zq2, zq3, zq4, zq5, zq6, zq7, zq8, zq9, zqa, zqb, zqc, zqd, zqe, zqf] at hc9
      refine vc_skip ?_
      refine hK3 _ ?_
      refine vc_seq fun K27 hK27 => ?_
      refine vc_seq fun K28 hK28 => ?_
      refine vc_region ?_
      refine vo_fieldAddr_ptr rfl rfl Try.underlying31 rfl inf3 (by rw [sz3]; decide) ?_
      try simp only [Nat.zero_add]
      refine vo_load_var rfl rfl rfl Try.underlying3 rfl rfl ?_
      refine vo_binI rfl rfl rfl rfl trivial ?_
      refine vo_move_pv rfl rfl ?_
      refine vo_split 36 rfl (fun hg12 => ?_) (fun hg12 => ?_)
      ·try simp only [zq0, zq1, zq2, zq3, zq4, zq5, zq6, zq7, zq8, zq9, zqa, zqb, zqc, zqd, zqe, zqf] at hg12
       refine vo_guard_on rfl rfl rfl ?_
       refine vo_move_pv rfl rfl ?_
       refine vo_guard_on rfl rfl rfl ?_
       refine vo_binI rfl rfl rfl rfl trivial ?_
       refine vo_pick_t rfl rfl ?_
       refine vo_nil ?_
       refine hK28 _ ?_
       refine vc_cond rfl (fun hc13 => ?_) (fun hc13 => ?_)
       ·try simp only [zq0, zq1, zq2, zq3, zq4, zq5, zq6, zq7, zq8, zq9, zqa, zqb, zqc, zqd, zqe, zqf] at hc13
        refine vc_region ?_
        refine vo_fieldAddr_ptr rfl rfl Try.underlying37 rfl inf3 (by rw [sz3]; decide) ?_
        try simp only [Nat.zero_add]
        refine vo_store_var rfl rfl rfl rfl inf3 sz3 rfl ?_
        refine vo_stM ?_
        refine vo_nil ?_
        refine hK27 _ ?_
        refine vc_seq fun K29 hK29 => ?_
        refine vc_region ?_
        refine vo_load_varS rfl rfl rfl Try.underlying37 rfl inf37 sz37 rfl rfl ?_
        refine vo_store_varS rfl rfl rfl inf37 sz37 rfl ?_
        refine vo_stM ?_
        refine vo_nil ?_
        refine hK29 _ ?_
        refine vc_ret ?_
        change retQ _ _ _ _ _
        refine retQ_sel [] (srows := []) (.inr rfl) hC rfl rfl rfl rfl rfl rfl rfl ?_
        refine ⟨fr_eq (?_ : FoundM.mk _ _ _ _ = _), rfl⟩
        unfold bindM
        repeat' split
        all_goals first | rfl | (exfalso; omega)
       ·try simp only [zq0, zq1, zq2, zq3, zq4, zq5, zq6, zq7, zq8, zq9, zqa, zqb, zqc, zqd, zqe, zqf] at hc13
        refine vc_skip ?_
        refine hK27 _ ?_
        refine vc_seq fun K30 hK30 => ?_
        refine vc_region ?_
        refine vo_load_varS rfl rfl rfl Try.underlying37 rfl inf37 sz37 rfl rfl ?_
        refine vo_store_varS rfl rfl rfl inf37 sz37 rfl ?_
        refine vo_stM ?_
        refine vo_nil ?_
        refine hK30 _ ?_
        refine vc_ret ?_
        change retQ _ _ _ _ _
        refine retQ_sel [] (srows := []) (.inr rfl) hC rfl rfl rfl rfl rfl rfl rfl ?_
        refine ⟨fr_eq (?_ : FoundM.mk _ _ _ _ = _), rfl⟩
        unfold bindM
        repeat' split
        all_goals first | rfl | (exfalso; omega)
      ·try simp only [zq0, zq1, zq2, zq3, zq4, zq5, zq6, zq7, zq8, zq9, zqa, zqb, zqc, zqd, zqe, zqf] at hg12
       refine vo_guard_off rfl rfl rfl rfl rfl ?_
       refine vo_guard_off rfl rfl rfl rfl rfl ?_
       refine vo_pick_f rfl rfl ?_
       refine vo_nil ?_
       refine hK28 _ ?_
       refine vc_cond_f rfl ?_
       refine vc_skip ?_
       refine hK27 _ ?_
       refine vc_seq fun K31 hK31 => ?_
       refine vc_region ?_
       refine vo_load_varS rfl rfl rfl Try.underlying37 rfl inf37 sz37 rfl rfl ?_
       refine vo_store_varS rfl rfl rfl inf37 sz37 rfl ?_
       refine vo_stM ?_
       refine vo_nil ?_
       refine hK31 _ ?_
       refine vc_ret ?_
       change retQ _ _ _ _ _
       refine retQ_sel [] (srows := []) (.inr rfl) hC rfl rfl rfl rfl rfl rfl rfl ?_
       refine ⟨fr_eq (?_ : FoundM.mk _ _ _ _ = _), rfl⟩
       unfold bindM
       repeat' split
       all_goals first | rfl | (exfalso; omega)
    ·try simp only [zq0, zq1, zq2, zq3, zq4, zq5, zq6, zq7, zq8, zq9, zqa, zqb, zqc, zqd, zqe, zqf] at hc8
     refine vc_skip ?_
     refine hK3 _ ?_
     refine vc_seq fun K32 hK32 => ?_
     refine vc_seq fun K33 hK33 => ?_
     refine vc_region ?_
     refine vo_fieldAddr_ptr rfl rfl Try.underlying31 rfl inf3 (by rw [sz3]; decide) ?_
     try simp only [Nat.zero_add]
     refine vo_load_var rfl rfl rfl Try.underlying3 rfl rfl ?_
     refine vo_binI rfl rfl rfl rfl trivial ?_
     refine vo_move_pv rfl rfl ?_
     refine vo_split 36 rfl (fun hg14 => ?_) (fun hg14 => ?_)
     ·try simp only [zq0, zq1, zq2, zq3, zq4, zq5, zq6, zq7, zq8, zq9, zqa, zqb, zqc, zqd, zqe, zqf] at hg14
      refine vo_guard_on rfl rfl rfl ?_
      refine vo_move_pv rfl rfl ?_
      refine vo_guard_on rfl rfl rfl ?_
      refine vo_binI rfl rfl rfl rfl trivial ?_
      refine vo_pick_t rfl rfl ?_
      refine vo_nil ?_
      refine hK33 _ ?_
      refine vc_cond rfl (fun hc15 => ?_) (fun hc15 => ?_)
      ·try simp only [zq0, zq1, zq2, zq3, zq4, zq5, zq6, zq7, zq8, zq9, zqa, zqb, zqc, zqd, zqe, zqf] at hc15
       refine vc_region ?_
       refine vo_fieldAddr_ptr rfl rfl Try.underlying37 rfl inf3 (by rw [sz3]; decide) ?_
       try simp only [Nat.zero_add]
       refine vo_store_var rfl rfl rfl rfl inf3 sz3 rfl ?_
       refine vo_stM ?_
       refine vo_nil ?_
       refine hK32 _ ?_
       refine vc_seq fun K34 hK34 => ?_
       refine vc_region ?_
       refine vo_load_varS rfl rfl rfl Try.underlying37 rfl inf37 sz37 rfl rfl ?_
       refine vo_store_varS rfl rfl rfl inf37 sz37 rfl ?_
       refine vo_stM ?_
       refine vo_nil ?_
       refine hK34 _ ?_
       refine vc_ret ?_
       change retQ _ _ _ _ _
       refine retQ_sel [] (srows := []) (.inr rfl) hC rfl rfl rfl rfl rfl rfl rfl ?_
       refine ⟨fr_eq (?_ : FoundM.mk _ _ _ _ = _), rfl⟩
       unfold bindM
       repeat' split
       all_goals first | rfl | (exfalso; omega)
      ·try simp only [zq0, zq1, zq2, zq3, zq4, zq5, zq6, zq7, zq8, zq9, zqa, zqb, zqc, zqd, zqe, zqf] at hc15
       refine vc_skip ?_
       refine hK32 _ ?_
       refine vc_seq fun K35 hK35 => ?_
       refine vc_region ?_
       refine vo_load_varS rfl rfl rfl Try.underlying37 rfl inf37 sz37 rfl rfl ?_
       refine vo_store_varS rfl rfl rfl inf37 sz37 rfl ?_
       refine vo_stM ?_
       refine vo_nil ?_
       refine hK35 _ ?_
       refine vc_ret ?_
       change retQ _ _ _ _ _
       refine retQ_sel [] (srows := []) (.inr rfl) hC rfl rfl rfl rfl rfl rfl rfl ?_
       refine ⟨fr_eq (?_ : FoundM.mk _ _ _ _ = _), rfl⟩
       unfold bindM
       repeat' split
       all_goals first | rfl | (exfalso; omega)
     ·try simp only [zq0, zq1, zq2, zq3, zq4, zq5, zq6, zq7, zq8, zq9, zqa, zqb, zqc, zqd, zqe, zqf] at hg14
      refine vo_guard_off rfl rfl rfl rfl rfl ?_
      refine vo_guard_off rfl rfl rfl rfl rfl ?_
      refine vo_pick_f rfl rfl ?_
      refine vo_nil ?_
      refine hK33 _ ?_
      refine vc_cond_f rfl ?_
      refine vc_skip ?_
      refine hK32 _ ?_
      refine vc_seq fun K36 hK36 => ?_
      refine vc_region ?_
      refine vo_load_varS rfl rfl rfl Try.underlying37 rfl inf37 sz37 rfl rfl ?_
      refine vo_store_varS rfl rfl rfl inf37 sz37 rfl ?_
      refine vo_stM ?_
      refine vo_nil ?_
      refine hK36 _ ?_
      refine vc_ret ?_
      change retQ _ _ _ _ _
      refine retQ_sel [] (srows := []) (.inr rfl) hC rfl rfl rfl rfl rfl rfl rfl ?_
      refine ⟨fr_eq (?_ : FoundM.mk _ _ _ _ = _), rfl⟩
      unfold bindM
      repeat' split
      all_goals first | rfl | (exfalso; omega)
   ·try simp only [zq0, zq1, zq2, zq3, zq4, zq5, zq6, zq7, zq8, zq9, zqa, zqb, zqc, zqd, zqe, zqf] at hc7
    refine vc_region ?_
    refine vo_binI rfl rfl rfl rfl trivial ?_
    refine vo_assign_pv rfl rfl ?_
    refine vo_nil ?_
    refine hK18 _ ?_
    refine vc_cond rfl (fun hc16 => ?_) (fun hc16 => ?_)
    ·try simp only [zq0, zq1, zq2, zq3, zq4, zq5, zq6, zq7, zq8, zq9, zqa, zqb, zqc, zqd, zqe, zqf] at hc16
     refine vc_seq fun K37 hK37 => ?_
     refine vc_region ?_
     refine vo_move_pv rfl rfl ?_
     refine vo_binI rfl rfl rfl rfl trivial ?_
     refine vo_nil ?_
     refine hK37 _ ?_
     refine vc_cond rfl (fun hc17 => ?_) (fun hc17 => ?_)
     ·try simp only [zq0, zq1, zq2, zq3, zq4, zq5, zq6, zq7, zq8, zq9, zqa, zqb, zqc, zqd, zqe, zqf] at hc17
      refine vc_seq fun K38 hK38 => ?_
      refine vc_region ?_
      refine vo_fieldAddr_ptr rfl rfl Try.underlying37 rfl inf3 (by rw [sz3]; decide) ?_
      try simp only [Nat.zero_add]
      refine vo_store_var rfl rfl rfl rfl inf3 sz3 rfl ?_
      refine vo_stM ?_
      refine vo_nil ?_
      refine hK38 _ ?_
      refine vc_region ?_
      refine vo_move_pv rfl rfl ?_
      refine vo_fieldAddr_ptr rfl rfl Try.underlying37 rfl inf3 (by rw [sz3]; decide) ?_
      try simp only [Nat.zero_add]
      refine vo_store_var rfl rfl rfl rfl inf3 sz3 rfl ?_
      refine vo_stM ?_
      refine vo_nil ?_
      refine hK3 _ ?_
      refine vc_seq fun K39 hK39 => ?_
      refine vc_seq fun K40 hK40 => ?_
      refine vc_region ?_
      refine vo_fieldAddr_ptr rfl rfl Try.underlying31 rfl inf3 (by rw [sz3]; decide) ?_
      try simp only [Nat.zero_add]
      refine vo_load_var rfl rfl rfl Try.underlying3 rfl rfl ?_
      refine vo_binI rfl rfl rfl rfl trivial ?_
      refine vo_move_pv rfl rfl ?_
      refine vo_split 36 rfl (fun hg18 => ?_) (fun hg18 => ?_)
      ·try simp only [zq0, zq1, zq2, zq3, zq4, zq5, zq6, zq7, zq8, zq9, zqa, zqb, zqc, zqd, zqe, zqf] at hg18
       refine vo_guard_on rfl rfl rfl ?_
       refine vo_move_pv rfl rfl ?_
       refine vo_guard_on rfl rfl rfl ?_
       refine vo_binI rfl rfl rfl rfl trivial ?_
       refine vo_pick_t rfl rfl ?_
       refine vo_nil ?_
       refine hK40 _ ?_
       refine vc_cond rfl (fun hc19 => ?_) (fun hc19 => ?_)
       ·try simp only [zq0, zq1, zq2, zq3, zq4, zq5, zq6, zq7, zq8, zq9, zqa, zqb, zqc, zqd, zqe, zqf] at hc19
        refine vc_region ?_
        refine vo_fieldAddr_ptr rfl rfl Try.underlying37 rfl inf3 (by rw [sz3]; decide) ?_
        try simp only [Nat.zero_add]
        refine vo_store_var rfl rfl rfl rfl inf3 sz3 rfl ?_
        refine vo_stM ?_
        refine vo_nil ?_
        refine hK39 _ ?_
        refine vc_seq fun K41 hK41 => ?_
        refine vc_region ?_
        refine vo_load_varS rfl rfl rfl Try.underlying37 rfl inf37 sz37 rfl rfl ?_
        refine vo_store_varS rfl rfl rfl inf37 sz37 rfl ?_
        refine vo_stM ?_
        refine vo_nil ?_
        refine hK41 _ ?_
        refine vc_ret ?_
        change retQ _ _ _ _ _
        refine retQ_sel [] (srows := []) (.inr rfl) hC rfl rfl rfl rfl rfl rfl rfl ?_
        refine ⟨fr_eq (?_ : FoundM.mk _ _ _ _ = _), rfl⟩
        unfold bindM
        repeat' split
        all_goals first | rfl | (exfalso; omega)
       ·try simp only [zq0, zq1, zq2, zq3, zq4, zq5, zq6, zq7, zq8, zq9, zqa, zqb, zqc, zqd, zqe, zqf] at hc19
        refine vc_skip ?_
        refine hK39 _ ?_
        refine vc_seq fun K42 hK42 => ?_
        refine vc_region ?_
        refine vo_load_varS rfl rfl rfl Try.underlying37 rfl inf37 sz37 rfl rfl ?_
        refine vo_store_varS rfl rfl rfl inf37 sz37 rfl ?_
        refine vo_stM ?_
        refine vo_nil ?_
        refine hK42 _ ?_
        refine vc_ret ?_
        change retQ _ _ _ _ _
        refine retQ_sel [] (srows := []) (.inr rfl) hC rfl rfl rfl rfl rfl rfl rfl ?_
        refine ⟨fr_eq (?_ : FoundM.mk _ _ _ _ = _), rfl⟩
        unfold bindM
        repeat' split
        all_goals first | rfl | (exfalso; omega)
      ·try simp only [zq0, zq1, zq2, zq3, zq4, zq5, zq6, zq7, zq8, zq9, zqa, zqb, zqc, zqd, zqe, zqf] at hg18
       refine vo_guard_off rfl rfl rfl rfl rfl ?_
       refine vo_guard_off rfl rfl rfl rfl rfl ?_
       refine vo_pick_f rfl rfl ?_
       refine vo_nil ?_
       refine hK40 _ ?_
       refine vc_cond_f rfl ?_
       refine vc_skip ?_
       refine hK39 _ ?_
       refine vc_seq fun K43 hK43 => ?_
       refine vc_region ?_
       refine vo_load_varS rfl rfl rfl Try.underlying37 rfl inf37 sz37 rfl rfl ?_
       refine vo_store_varS rfl rfl rfl inf37 sz37 rfl ?_
       refine vo_stM ?_
       refine vo_nil ?_
       refine hK43 _ ?_
       refine vc_ret ?_
       change retQ _ _ _ _ _
       refine retQ_sel [] (srows := []) (.inr rfl) hC rfl rfl rfl rfl rfl rfl rfl ?_
       refine ⟨fr_eq (?_ : FoundM.mk _ _ _ _ = _), rfl⟩
       unfold bindM
       repeat' split
       all_goals first | rfl | (exfalso; omega)
     ·try simp only [zq0, zq1, zq2, zq3, zq4, zq5, zq6, zq7, zq8, zq9, zqa, zqb, zqc, zqd, zqe, zqf] at hc17
      refine vc_skip ?_
      refine hK3 _ ?_
      refine vc_seq fun K44 hK44 => ?_
      refine vc_seq fun K45 hK45 => ?_
      refine vc_region ?_
      refine vo_fieldAddr_ptr rfl rfl Try.underlying31 rfl inf3 (by rw [sz3]; decide) ?_
      try simp only [Nat.zero_add]
      refine vo_load_var rfl rfl rfl Try.underlying3 rfl rfl ?_
      refine vo_binI rfl rfl rfl rfl trivial ?_
      refine vo_move_pv rfl rfl ?_
      refine vo_split 36 rfl (fun hg20 => ?_) (fun hg20 => ?_)
      ·try simp only [zq0, zq1, zq2, zq3, zq4, zq5, zq6, zq7, zq8, zq9, zqa, zqb, zqc, zqd, zqe, zqf] at hg20
       refine vo_guard_on rfl rfl rfl ?_
       refine vo_move_pv rfl rfl ?_
       refine vo_guard_on rfl rfl rfl ?_
       refine vo_binI rfl rfl rfl rfl trivial ?_
       refine vo_pick_t rfl rfl ?_
       refine vo_nil ?_
       refine hK45 _ ?_
       refine vc_cond rfl (fun hc21 => ?_) (fun hc21 => ?_)
       ·try simp only [zq0, zq1, zq2, zq3, zq4, zq5, zq6, zq7, zq8, zq9, zqa, zqb, zqc, zqd, zqe, zqf] at hc21
        refine vc_region ?_
        refine vo_fieldAddr_ptr rfl rfl Try.underlying37 rfl inf3 (by rw [sz3]; decide) ?_
        try simp only [Nat.zero_add]
        refine vo_store_var rfl rfl rfl rfl inf3 sz3 rfl ?_
        refine vo_stM ?_
        refine vo_nil ?_
        refine hK44 _ ?_
        refine vc_seq fun K46 hK46 => ?_
        refine vc_region ?_
        refine vo_load_varS rfl rfl rfl Try.underlying37 rfl inf37 sz37 rfl rfl ?_
        refine vo_store_varS rfl rfl rfl inf37 sz37 rfl ?_
        refine vo_stM ?_
        refine vo_nil ?_
        refine hK46 _ ?_
        refine vc_ret ?_
        change retQ _ _ _ _ _
        refine retQ_sel [] (srows := []) (.inr rfl) hC rfl rfl rfl rfl rfl rfl rfl ?_
        refine ⟨fr_eq (?_ : FoundM.mk _ _ _ _ = _), rfl⟩
        unfold bindM
        repeat' split
        all_goals first | rfl | (exfalso; omega)
       ·try simp only [zq0, zq1, zq2, zq3, zq4, zq5, zq6, zq7, zq8, zq9, zqa, zqb, zqc, zqd, zqe, zqf] at hc21
        refine vc_skip ?_
        refine hK44 _ ?_
        refine vc_seq fun K47 hK47 => ?_
        refine vc_region ?_
        refine vo_load_varS rfl rfl rfl Try.underlying37 rfl inf37 sz37 rfl rfl ?_
        refine vo_store_varS rfl rfl rfl inf37 sz37 rfl ?_
        refine vo_stM ?_
        refine vo_nil ?_
        refine hK47 _ ?_
        refine vc_ret ?_
        change retQ _ _ _ _ _
        refine retQ_sel [] (srows := []) (.inr rfl) hC rfl rfl rfl rfl rfl rfl rfl ?_
        refine ⟨fr_eq (?_ : FoundM.mk _ _ _ _ = _), rfl⟩
        unfold bindM
        repeat' split
        all_goals first | rfl | (exfalso; omega)
      ·try simp only [zq0, zq1, zq2, zq3, zq4, zq5, zq6, zq7, zq8, zq9, zqa, zqb, zqc, zqd, zqe, zqf] at hg20
       refine vo_guard_off rfl rfl rfl rfl rfl ?_
       refine vo_guard_off rfl rfl rfl rfl rfl ?_
       refine vo_pick_f rfl rfl ?_
       refine vo_nil ?_
       refine hK45 _ ?_
       refine vc_cond_f rfl ?_
       refine vc_skip ?_
       refine hK44 _ ?_
       refine vc_seq fun K48 hK48 => ?_
       refine vc_region ?_
       refine vo_load_varS rfl rfl rfl Try.underlying37 rfl inf37 sz37 rfl rfl ?_
       refine vo_store_varS rfl rfl rfl inf37 sz37 rfl ?_
       refine vo_stM ?_
       refine vo_nil ?_
       refine hK48 _ ?_
       refine vc_ret ?_
       change retQ _ _ _ _ _
       refine retQ_sel [] (srows := []) (.inr rfl) hC rfl rfl rfl rfl rfl rfl rfl ?_
       refine ⟨fr_eq (?_ : FoundM.mk _ _ _ _ = _), rfl⟩
       unfold bindM
       repeat' split
       all_goals first | rfl | (exfalso; omega)
    ·try simp only [zq0, zq1, zq2, zq3, zq4, zq5, zq6, zq7, zq8, zq9, zqa, zqb, zqc, zqd, zqe, zqf] at hc16
     refine vc_skip ?_
     refine hK3 _ ?_
     refine vc_seq fun K49 hK49 => ?_
     refine vc_seq fun K50 hK50 => ?_
     refine vc_region ?_
     refine vo_fieldAddr_ptr rfl rfl Try.underlying31 rfl inf3 (by rw [sz3]; decide) ?_
     try simp only [Nat.zero_add]
     refine vo_load_var rfl rfl rfl Try.underlying3 rfl rfl ?_
     refine vo_binI rfl rfl rfl rfl trivial ?_
     refine vo_move_pv rfl rfl ?_
     refine vo_split 36 rfl (fun hg22 => ?_) (fun hg22 => ?_)
     ·try simp only [zq0, zq1, zq2, zq3, zq4, zq5, zq6, zq7, zq8, zq9, zqa, zqb, zqc, zqd, zqe, zqf] at hg22
      refine vo_guard_on rfl rfl rfl ?_
      refine vo_move_pv rfl rfl ?_
      refine vo_guard_on rfl rfl rfl ?_
      refine vo_binI rfl rfl rfl rfl trivial ?_
      refine vo_pick_t rfl rfl ?_
      refine vo_nil ?_
      refine hK50 _ ?_
      refine vc_cond rfl (fun hc23 => ?_) (fun hc23 => ?_)
      ·try simp only [zq0, zq1, zq2, zq3, zq4, zq5, zq6, zq7, zq8, zq9, zqa, zqb, zqc, zqd, zqe, zqf] at hc23
       refine vc_region ?_
       refine vo_fieldAddr_ptr rfl rfl Try.underlying37 rfl inf3 (by rw [sz3]; decide) ?_
       try simp only [Nat.zero_add]
       refine vo_store_var rfl rfl rfl rfl inf3 sz3 rfl ?_
       refine vo_stM ?_
       refine vo_nil ?_
       refine hK49 _ ?_
       refine vc_seq fun K51 hK51 => ?_
       refine vc_region ?_
       refine vo_load_varS rfl rfl rfl Try.underlying37 rfl inf37 sz37 rfl rfl ?_
       refine vo_store_varS rfl rfl rfl inf37 sz37 rfl ?_
       refine vo_stM ?_
       refine vo_nil ?_
       refine hK51 _ ?_
       refine vc_ret ?_
       change retQ _ _ _ _ _
       refine retQ_sel [] (srows := []) (.inr rfl) hC rfl rfl rfl rfl rfl rfl rfl ?_
       refine ⟨fr_eq (?_ : FoundM.mk _ _ _ _ = _), rfl⟩
       unfold bindM
       repeat' split
       all_goals first | rfl | (exfalso; omega)
      ·try simp only [zq0, zq1, zq2, zq3, zq4, zq5, zq6, zq7, zq8, zq9, zqa, zqb, zqc, zqd, zqe, zqf] at hc23
       refine vc_skip ?_
       refine hK49 _ ?_
       refine vc_seq fun K52 hK52 => ?_
       refine vc_region ?_
       refine vo_load_varS rfl rfl rfl Try.underlying37 rfl inf37 sz37 rfl rfl ?_
       refine vo_store_varS rfl rfl rfl inf37 sz37 rfl ?_
       refine vo_stM ?_
       refine vo_nil ?_
       refine hK52 _ ?_
       refine vc_ret ?_
       change retQ _ _ _ _ _
       refine retQ_sel [] (srows := []) (.inr rfl) hC rfl rfl rfl rfl rfl rfl rfl ?_
       refine ⟨fr_eq (?_ : FoundM.mk _ _ _ _ = _), rfl⟩
       unfold bindM
       repeat' split
       all_goals first | rfl | (exfalso; omega)
     ·try simp only [zq0, zq1, zq2, zq3, zq4, zq5, zq6, zq7, zq8, zq9, zqa, zqb, zqc, zqd, zqe, zqf] at hg22
      refine vo_guard_off rfl rfl rfl rfl rfl ?_
      refine vo_guard_off rfl rfl rfl rfl rfl ?_
      refine vo_pick_f rfl rfl ?_
      refine vo_nil ?_
      refine hK50 _ ?_
      refine vc_cond_f rfl ?_
      refine vc_skip ?_
      refine hK49 _ ?_
      refine vc_seq fun K53 hK53 => ?_
      refine vc_region ?_
      refine vo_load_varS rfl rfl rfl Try.underlying37 rfl inf37 sz37 rfl rfl ?_
      refine vo_store_varS rfl rfl rfl inf37 sz37 rfl ?_
      refine vo_stM ?_
      refine vo_nil ?_
      refine hK53 _ ?_
      refine vc_ret ?_
      change retQ _ _ _ _ _
      refine retQ_sel [] (srows := []) (.inr rfl) hC rfl rfl rfl rfl rfl rfl rfl ?_
      refine ⟨fr_eq (?_ : FoundM.mk _ _ _ _ = _), rfl⟩
      unfold bindM
      repeat' split
      all_goals first | rfl | (exfalso; omega)


theorem get_sat {w : WorldM} {x : Int} {name : Int}  (hw : SW w) (hO : hasO w x) : SatAt Try.prog 59 [.pv false (worldP w), i64 x, i64 name] [] (fun res rows => res = [.pv true (foundP (getM w x.toNat name))] ∧ rows = []) := by
 have hw0 := hw
 obtain ⟨⟨b1, b2⟩, ⟨a1, a2⟩, o1, o2⟩ := hw
 obtain ⟨hV, h0, h1⟩ := hO
 obtain ⟨x, rfl⟩ := Int.eq_ofNat_of_zero_le h0
 have hcl := hasO_cls (w := w) (x := (x : Int)) ⟨hV, h0, h1⟩
 rw [Int.toNat_natCast] at hcl
 have hof := getD_all o2 ⟨0, []⟩ SO_zero x
 unfold SO at hof
 have hnl := nms_lt (n := name) (l := (w.objs.getD x ⟨0, []⟩).pairs)
 refine sat_entry_G (rs := [(6, some (37, 4))]) Try.func59 rfl rfl (Nat.le_of_ble_eq_true rfl) (Nat.le_of_ble_eq_true rfl) (resTs1 ⟨_, _, Try.underlying37, rfl, inf37, sz37⟩) fun C hC => ?_
 rw [Try.ntmps59]
 replace hC : C.nb = 0 := hC
 refine vc_seq fun K1 hK1 => ?_
 refine vc_region ?_
 refine vo_box rfl rfl ?_
 refine vo_stM ?_
 refine vo_alloc Z37 rfl ?_
 refine vo_stM ?_
 refine vo_nil ?_
 refine hK1 _ ?_
 refine vc_seq fun K2 hK2 => ?_
 refine vc_region ?_
 refine vo_fieldAddr_ptr rfl rfl Try.underlying27 rfl inf25 (by rw [sz25]; decide) ?_
 try simp only [Nat.zero_add]
 refine vo_load_var rfl rfl rfl Try.underlying25 rfl rfl ?_
 refine vo_move_pv rfl rfl ?_
 refine vo_index_pv (.agg [(.int .i64 0), (.sl none 2 [])]) rfl rfl rfl E25.und inf42 sz42 sd sd ?_
 simp only [Int.toNat_natCast, Int.toNat_zero, getD_ints, getD_intss, getD_bools, getD_bytes, PV.cells, getD_ops, getD_pairs, getD_insts, getD_attrs, getD_attrss, getD_objs, getD_ordP]
 refine vo_load_adrS rfl rfl Try.underlying42 rfl inf42 sz42 rfl ?_
 refine vo_st (by (try simp only [St.put, PV.cells, PV.scal, List.drop_succ_cons, List.drop_zero, List.take_succ_cons, List.take_zero, List.map_cons, List.map_nil, Bool.or_true, Bool.or_false, Bool.false_or, Bool.true_or, opP, pairP, instP, heapP]); exact eq_refl _) ?_
 refine vo_alloc Z42 rfl ?_
 refine vo_stM ?_
 refine vo_store_varS rfl rfl rfl inf42 sz42 rfl ?_
 refine vo_stM ?_
 refine vo_nil ?_
 refine hK2 _ ?_
 refine vc_seq fun K3 hK3 => ?_
 refine vc_region ?_
 refine vo_load_varS rfl rfl rfl Try.underlying27 rfl inf27 sz27 rfl rfl ?_
 refine vo_fieldAddr_ptr rfl rfl Try.underlying42 rfl inf3 (by rw [sz3]; decide) ?_
 try simp only [Nat.zero_add]
 refine vo_load_var rfl rfl rfl Try.underlying3 rfl rfl ?_
 refine vo_move_pv rfl rfl ?_
 refine vo_call0 Try.func52 rfl rfl rfl rfl (find_sat hw0 hV hcl.1 hcl.2) ?_
 rintro _ _ ⟨rfl, rfl⟩
 refine ⟨rfl, rfl, .inl rfl, ?_⟩
 refine vo_stM ?_
 refine vo_move rfl ?_
 refine vo_stM ?_
 refine vo_extract rfl rfl rfl ?_
 refine vo_extract rfl rfl rfl ?_
 refine vo_alloc Z31 rfl ?_
 refine vo_stM ?_
 refine vo_assign_pv rfl rfl ?_
 refine vo_store_varS rfl rfl rfl inf31 sz31 rfl ?_
 refine vo_stM ?_
 refine vo_nil ?_
 refine hK3 _ ?_
 refine vc_seq fun K4 hK4 => ?_
 refine vc_region ?_
 refine vo_fieldAddr_ptr rfl rfl Try.underlying42 rfl inf40 (by rw [sz40]; decide) ?_
 try simp only [Nat.zero_add]
 refine vo_load_var rfl rfl rfl Try.underlying40 rfl rfl ?_
 refine vo_move_pv rfl rfl ?_
 refine vo_call0 Try.func107 rfl rfl rfl rfl (pairAt_sat (by omega)) ?_
 rintro _ _ ⟨rfl, rfl⟩
 refine ⟨rfl, rfl, .inl rfl, ?_⟩
 refine vo_stM ?_
 refine vo_assign_pv rfl rfl ?_
 refine vo_nil ?_
 refine hK4 _ ?_
 refine vc_seq fun K5 hK5 => ?_
 refine vc_region ?_
 refine vo_move_pv rfl rfl ?_
 refine vo_binI rfl rfl rfl rfl trivial ?_
 refine vo_move_pv rfl rfl ?_
 refine vo_split 31 rfl (fun hg1 => ?_) (fun hg1 => ?_)
 ·try simp only [zq0, zq1, zq2, zq3, zq4, zq5, zq6, zq7, zq8, zq9, zqa, zqb, zqc, zqd, zqe, zqf] at hg1
  refine vo_guard_on rfl rfl rfl ?_
  refine vo_fieldAddr_ptr rfl rfl Try.underlying31 rfl inf3 (by rw [sz3]; decide) ?_
  try simp only [Nat.zero_add]
  refine vo_guard_on rfl rfl rfl ?_
  refine vo_load_var rfl rfl rfl Try.underlying3 rfl rfl ?_
  refine vo_guard_on rfl rfl rfl ?_
  refine vo_binI rfl rfl rfl rfl trivial ?_
  refine vo_guard_on rfl rfl rfl ?_
  refine vo_move_pv rfl rfl ?_
  refine vo_split 35 rfl (fun hg2 => ?_) (fun hg2 => ?_)
  ·try simp only [zq0, zq1, zq2, zq3, zq4, zq5, zq6, zq7, zq8, zq9, zqa, zqb, zqc, zqd, zqe, zqf] at hg2
   refine vo_guard_off rfl rfl rfl rfl rfl ?_
   refine vo_guard_off rfl rfl rfl rfl rfl ?_
   refine vo_guard_off rfl rfl rfl rfl rfl ?_
   refine vo_guard_on rfl rfl rfl ?_
   refine vo_pick_t rfl rfl ?_
   refine vo_pick_t rfl rfl ?_
   refine vo_assign_pv rfl rfl ?_
   refine vo_nil ?_
   refine hK5 _ ?_
   refine vc_seq fun K6 hK6 => ?_
   refine vc_seq fun K7 hK7 => ?_
   refine vc_region ?_
   refine vo_move_pv rfl rfl ?_
   refine vo_nil ?_
   refine hK7 _ ?_
   refine vc_cond_t rfl ?_
   refine vc_seq fun K8 hK8 => ?_
   refine vc_region ?_
   refine vo_move_pv rfl rfl ?_
   refine vo_load_varS rfl rfl rfl Try.underlying31 rfl inf31 sz31 rfl rfl ?_
   refine vo_move_pv rfl rfl ?_
   refine vo_fieldAddr_ptr rfl rfl Try.underlying42 rfl inf3 (by rw [sz3]; decide) ?_
   try simp only [Nat.zero_add]
   refine vo_load_var rfl rfl rfl Try.underlying3 rfl rfl ?_
   refine vo_call0 Try.func64 rfl rfl rfl rfl bind_sat ?_
   rintro _ _ ⟨rfl, rfl⟩
   refine ⟨rfl, rfl, .inl rfl, ?_⟩
   refine vo_stM ?_
   refine vo_store_varS rfl rfl rfl inf37 sz37 rfl ?_
   refine vo_stM ?_
   refine vo_nil ?_
   refine hK8 _ ?_
   refine vc_ret ?_
   change retQ _ _ _ _ _
   refine retQ_sel [] (srows := []) (.inr rfl) hC rfl rfl rfl rfl rfl rfl rfl ?_
   refine ⟨?_, rfl⟩
   rw [Int.toNat_natCast]
   first
    | (exfalso; omega)
    | (refine fr_eq (?_ : bindM _ _ _ _ = _); unfold getM getR; first | rw [if_pos (by omega)] | rw [if_neg (by omega), if_neg (by omega), if_pos (by omega)])
    | (refine fr_eq (?_ : FoundM.mk _ _ _ _ = _); unfold getM getR; rw [if_neg (by omega), if_pos (by omega)])
    | (refine fr_eq (?_ : FoundM.mk _ _ _ _ = _); unfold getM getR; rw [if_neg (by omega), if_neg (by omega), if_neg (by omega)]; rfl)
  ·try simp only [zq0, zq1, zq2, zq3, zq4, zq5, zq6, zq7, zq8, zq9, zqa, zqb, zqc, zqd, zqe, zqf] at hg2
   refine vo_guard_on rfl rfl rfl ?_
   refine vo_fieldAddr_ptr rfl rfl Try.underlying31 rfl inf3 (by rw [sz3]; decide) ?_
   try simp only [Nat.zero_add]
   refine vo_guard_on rfl rfl rfl ?_
   refine vo_load_var rfl rfl rfl Try.underlying3 rfl rfl ?_
   refine vo_guard_on rfl rfl rfl ?_
   refine vo_binI rfl rfl rfl rfl trivial ?_
   refine vo_guard_on rfl rfl rfl ?_
   refine vo_pick_f rfl rfl ?_
   refine vo_pick_t rfl rfl ?_
   refine vo_assign_pv rfl rfl ?_
   refine vo_nil ?_
   refine hK5 _ ?_
   refine vc_seq fun K9 hK9 => ?_
   refine vc_seq fun K10 hK10 => ?_
   refine vc_region ?_
   refine vo_move_pv rfl rfl ?_
   refine vo_nil ?_
   refine hK10 _ ?_
   refine vc_cond rfl (fun hc3 => ?_) (fun hc3 => ?_)
   ·try simp only [zq0, zq1, zq2, zq3, zq4, zq5, zq6, zq7, zq8, zq9, zqa, zqb, zqc, zqd, zqe, zqf] at hc3
    refine vc_seq fun K11 hK11 => ?_
    refine vc_region ?_
    refine vo_move_pv rfl rfl ?_
    refine vo_load_varS rfl rfl rfl Try.underlying31 rfl inf31 sz31 rfl rfl ?_
    refine vo_move_pv rfl rfl ?_
    refine vo_fieldAddr_ptr rfl rfl Try.underlying42 rfl inf3 (by rw [sz3]; decide) ?_
    try simp only [Nat.zero_add]
    refine vo_load_var rfl rfl rfl Try.underlying3 rfl rfl ?_
    refine vo_call0 Try.func64 rfl rfl rfl rfl bind_sat ?_
    rintro _ _ ⟨rfl, rfl⟩
    refine ⟨rfl, rfl, .inl rfl, ?_⟩
    refine vo_stM ?_
    refine vo_store_varS rfl rfl rfl inf37 sz37 rfl ?_
    refine vo_stM ?_
    refine vo_nil ?_
    refine hK11 _ ?_
    refine vc_ret ?_
    change retQ _ _ _ _ _
    refine retQ_sel [] (srows := []) (.inr rfl) hC rfl rfl rfl rfl rfl rfl rfl ?_
    refine ⟨?_, rfl⟩
    rw [Int.toNat_natCast]
    first
     | (exfalso; omega)
     | (refine fr_eq (?_ : bindM _ _ _ _ = _); unfold getM getR; first | rw [if_pos (by omega)] | rw [if_neg (by omega), if_neg (by omega), if_pos (by omega)])
     | (refine fr_eq (?_ : FoundM.mk _ _ _ _ = _); unfold getM getR; rw [if_neg (by omega), if_pos (by omega)])
     | (refine fr_eq (?_ : FoundM.mk _ _ _ _ = _); unfold getM getR; rw [if_neg (by omega), if_neg (by omega), if_neg (by omega)]; rfl)
   ·try simp only [zq0, zq1, zq2, zq3, zq4, zq5, zq6, zq7, zq8, zq9, zqa, zqb, zqc, zqd, zqe, zqf] at hc3
    refine vc_skip ?_
    refine hK9 _ ?_
    refine vc_seq fun K12 hK12 => ?_
    refine vc_seq fun K13 hK13 => ?_
    refine vc_region ?_
    refine vo_move_pv rfl rfl ?_
    refine vo_binI rfl rfl rfl rfl trivial ?_
    refine vo_nil ?_
    refine hK13 _ ?_
    refine vc_cond rfl (fun hc4 => ?_) (fun hc4 => ?_)
    ·try simp only [zq0, zq1, zq2, zq3, zq4, zq5, zq6, zq7, zq8, zq9, zqa, zqb, zqc, zqd, zqe, zqf] at hc4
     refine vc_seq fun K14 hK14 => ?_
     refine vc_region ?_
     refine vo_fieldAddr_ptr rfl rfl Try.underlying42 rfl inf40 (by rw [sz40]; decide) ?_
     try simp only [Nat.zero_add]
     refine vo_load_var rfl rfl rfl Try.underlying40 rfl rfl ?_
     refine vo_move_pv rfl rfl ?_
     refine vo_index_pv (.agg [(.int .i64 0), (.int .i64 0)]) rfl rfl rfl E40.und inf44 sz44 sd sd ?_
     simp only [Int.toNat_natCast, Int.toNat_zero, getD_ints, getD_intss, getD_bools, getD_bytes, PV.cells, getD_ops, getD_pairs, getD_insts, getD_attrs, getD_attrss, getD_objs, getD_ordP]
     refine vo_fieldAddr_adr rfl rfl Try.underlying44 rfl inf3 (by rw [sz3]; decide) ?_
     refine vo_load_adr rfl rfl Try.underlying3 rfl ?_
     refine vo_move_pv rfl rfl ?_
     refine vo_build S37 rfl rfl rfl ?_
     refine vo_stM ?_
     refine vo_store_varS rfl rfl rfl inf37 sz37 rfl ?_
     refine vo_stM ?_
     refine vo_nil ?_
     refine hK14 _ ?_
     refine vc_ret ?_
     change retQ _ _ _ _ _
     refine retQ_sel [] (srows := []) (.inr rfl) hC rfl rfl rfl rfl rfl rfl rfl ?_
     refine ⟨?_, rfl⟩
     rw [Int.toNat_natCast]
     first
      | (exfalso; omega)
      | (refine fr_eq (?_ : bindM _ _ _ _ = _); unfold getM getR; first | rw [if_pos (by omega)] | rw [if_neg (by omega), if_neg (by omega), if_pos (by omega)])
      | (refine fr_eq (?_ : FoundM.mk _ _ _ _ = _); unfold getM getR; rw [if_neg (by omega), if_pos (by omega)])
      | (refine fr_eq (?_ : FoundM.mk _ _ _ _ = _); unfold getM getR; rw [if_neg (by omega), if_neg (by omega), if_neg (by omega)]; rfl)
    ·try simp only [zq0, zq1, zq2, zq3, zq4, zq5, zq6, zq7, zq8, zq9, zqa, zqb, zqc, zqd, zqe, zqf] at hc4
     refine vc_skip ?_
     refine hK12 _ ?_
     refine vc_seq fun K15 hK15 => ?_
     refine vc_seq fun K16 hK16 => ?_
     refine vc_region ?_
     refine vo_move_pv rfl rfl ?_
     refine vo_binI rfl rfl rfl rfl trivial ?_
     refine vo_nil ?_
     refine hK16 _ ?_
     refine vc_cond rfl (fun hc5 => ?_) (fun hc5 => ?_)
     ·try simp only [zq0, zq1, zq2, zq3, zq4, zq5, zq6, zq7, zq8, zq9, zqa, zqb, zqc, zqd, zqe, zqf] at hc5
      refine vc_seq fun K17 hK17 => ?_
      refine vc_region ?_
      refine vo_move_pv rfl rfl ?_
      refine vo_load_varS rfl rfl rfl Try.underlying31 rfl inf31 sz31 rfl rfl ?_
      refine vo_move_pv rfl rfl ?_
      refine vo_fieldAddr_ptr rfl rfl Try.underlying42 rfl inf3 (by rw [sz3]; decide) ?_
      try simp only [Nat.zero_add]
      refine vo_load_var rfl rfl rfl Try.underlying3 rfl rfl ?_
      refine vo_call0 Try.func64 rfl rfl rfl rfl bind_sat ?_
      rintro _ _ ⟨rfl, rfl⟩
      refine ⟨rfl, rfl, .inl rfl, ?_⟩
      refine vo_stM ?_
      refine vo_store_varS rfl rfl rfl inf37 sz37 rfl ?_
      refine vo_stM ?_
      refine vo_nil ?_
      refine hK17 _ ?_
      refine vc_ret ?_
      change retQ _ _ _ _ _
      refine retQ_sel [] (srows := []) (.inr rfl) hC rfl rfl rfl rfl rfl rfl rfl ?_
      refine ⟨?_, rfl⟩
      rw [Int.toNat_natCast]
      first
       | (exfalso; omega)
       | (refine fr_eq (?_ : bindM _ _ _ _ = _); unfold getM getR; first | rw [if_pos (by omega)] | rw [if_neg (by omega), if_neg (by omega), if_pos (by omega)])
       | (refine fr_eq (?_ : FoundM.mk _ _ _ _ = _); unfold getM getR; rw [if_neg (by omega), if_pos (by omega)])
       | (refine fr_eq (?_ : FoundM.mk _ _ _ _ = _); unfold getM getR; rw [if_neg (by omega), if_neg (by omega), if_neg (by omega)]; rfl)
     ·try simp only [zq0, zq1, zq2, zq3, zq4, zq5, zq6, zq7, zq8, zq9, zqa, zqb, zqc, zqd, zqe, zqf] at hc5
      refine vc_skip ?_
      refine hK15 _ ?_
      refine vc_seq fun K18 hK18 => ?_
      refine vc_region ?_
      refine vo_build S37 rfl rfl rfl ?_
      refine vo_stM ?_
      refine vo_store_varS rfl rfl rfl inf37 sz37 rfl ?_
      refine vo_stM ?_
      refine vo_nil ?_
      refine hK18 _ ?_
      refine vc_ret ?_
      change retQ _ _ _ _ _
      refine retQ_sel [] (srows := []) (.inr rfl) hC rfl rfl rfl rfl rfl rfl rfl ?_
      refine ⟨?_, rfl⟩
      rw [Int.toNat_natCast]
      first
       | (exfalso; omega)
       | (refine fr_eq (?_ : bindM _ _ _ _ = _); unfold getM getR; first | rw [if_pos (by omega)] | rw [if_neg (by omega), if_neg (by omega), if_pos (by omega)])
       | (refine fr_eq (?_ : FoundM.mk _ _ _ _ = _); unfold getM getR; rw [if_neg (by omega), if_pos (by omega)])
       | (refine fr_eq (?_ : FoundM.mk _ _ _ _ = _); unfold getM getR; rw [if_neg (by omega), if_neg (by omega), if_neg (by omega)]; rfl)
 ·try simp only [zq0, zq1, zq2, zq3, zq4, zq5, zq6, zq7, zq8, zq9, zqa, zqb, zqc, zqd, zqe, zqf] at hg1
  refine vo_guard_off rfl rfl rfl rfl rfl ?_
  refine vo_guard_off rfl rfl rfl rfl rfl ?_
  refine vo_guard_off rfl rfl rfl rfl rfl ?_
  refine vo_guard_off rfl rfl rfl rfl rfl ?_
  refine vo_guard_und rfl rfl rfl rfl ?_
  refine vo_guard_und rfl rfl rfl rfl ?_
  refine vo_guard_und rfl rfl rfl rfl ?_
  refine vo_guard_off rfl rfl rfl rfl rfl ?_
  refine vo_pick_f rfl rfl ?_
  refine vo_assign_pv rfl rfl ?_
  refine vo_nil ?_
  refine hK5 _ ?_
  refine vc_seq fun K19 hK19 => ?_
  refine vc_seq fun K20 hK20 => ?_
  refine vc_region ?_
  refine vo_move_pv rfl rfl ?_
  refine vo_nil ?_
  refine hK20 _ ?_
  refine vc_cond_f rfl ?_
  refine vc_skip ?_
  refine hK19 _ ?_
  refine vc_seq fun K21 hK21 => ?_
  refine vc_seq fun K22 hK22 => ?_
  refine vc_region ?_
  refine vo_move_pv rfl rfl ?_
  refine vo_binI rfl rfl rfl rfl trivial ?_
  refine vo_nil ?_
  refine hK22 _ ?_
  refine vc_cond rfl (fun hc6 => ?_) (fun hc6 => ?_)
  ·try simp only [zq0, zq1, zq2, zq3, zq4, zq5, zq6, zq7, zq8, zq9, zqa, zqb, zqc, zqd, zqe, zqf] at hc6
   refine vc_seq fun K23 hK23 => ?_
   refine vc_region ?_
   refine vo_fieldAddr_ptr rfl rfl Try.underlying42 rfl inf40 (by rw [sz40]; decide) ?_
   try simp only [Nat.zero_add]
   refine vo_load_var rfl rfl rfl Try.underlying40 rfl rfl ?_
   refine vo_move_pv rfl rfl ?_
   refine vo_index_pv (.agg [(.int .i64 0), (.int .i64 0)]) rfl rfl rfl E40.und inf44 sz44 sd sd ?_
   simp only [Int.toNat_natCast, Int.toNat_zero, getD_ints, getD_intss, getD_bools, getD_bytes, PV.cells, getD_ops, getD_pairs, getD_insts, getD_attrs, getD_attrss, getD_objs, getD_ordP]
   refine vo_fieldAddr_adr rfl rfl Try.underlying44 rfl inf3 (by rw [sz3]; decide) ?_
   refine vo_load_adr rfl rfl Try.underlying3 rfl ?_
   refine vo_move_pv rfl rfl ?_
   refine vo_build S37 rfl rfl rfl ?_
   refine vo_stM ?_
   refine vo_store_varS rfl rfl rfl inf37 sz37 rfl ?_
   refine vo_stM ?_
   refine vo_nil ?_
   refine hK23 _ ?_
   refine vc_ret ?_
   change retQ _ _ _ _ _
   refine retQ_sel [] (srows := []) (.inr rfl) hC rfl rfl rfl rfl rfl rfl rfl ?_
   refine ⟨?_, rfl⟩
   rw [Int.toNat_natCast]
   first
    | (exfalso; omega)
    | (refine fr_eq (?_ : bindM _ _ _ _ = _); unfold getM getR; first | rw [if_pos (by omega)] | rw [if_neg (by omega), if_neg (by omega), if_pos (by omega)])
    | (refine fr_eq (?_ : FoundM.mk _ _ _ _ = _); unfold getM getR; rw [if_neg (by omega), if_pos (by omega)])
    | (refine fr_eq (?_ : FoundM.mk _ _ _ _ = _); unfold getM getR; rw [if_neg (by omega), if_neg (by omega), if_neg (by omega)]; rfl)
  ·try simp only [zq0, zq1, zq2, zq3, zq4, zq5, zq6, zq7, zq8, zq9, zqa, zqb, zqc, zqd, zqe, zqf] at hc6
   refine vc_skip ?_
   refine hK21 _ ?_
   refine vc_seq fun K24 hK24 => ?_
   refine vc_seq fun K25 hK25 => ?_
   refine vc_region ?_
   refine vo_move_pv rfl rfl ?_
   refine vo_binI rfl rfl rfl rfl trivial ?_
   refine vo_nil ?_
   refine hK25 _ ?_
   refine vc_cond rfl (fun hc7 => ?_) (fun hc7 => ?_)
   ·try simp only [zq0, zq1, zq2, zq3, zq4, zq5, zq6, zq7, zq8, zq9, zqa, zqb, zqc, zqd, zqe, zqf] at hc7
    refine vc_seq fun K26 hK26 => ?_
    refine vc_region ?_
    refine vo_move_pv rfl rfl ?_
    refine vo_load_varS rfl rfl rfl Try.underlying31 rfl inf31 sz31 rfl rfl ?_
    refine vo_move_pv rfl rfl ?_
    refine vo_fieldAddr_ptr rfl rfl Try.underlying42 rfl inf3 (by rw [sz3]; decide) ?_
    try simp only [Nat.zero_add]
    refine vo_load_var rfl rfl rfl Try.underlying3 rfl rfl ?_
    refine vo_call0 Try.func64 rfl rfl rfl rfl bind_sat ?_
    rintro _ _ ⟨rfl, rfl⟩
    refine ⟨rfl, rfl, .inl rfl, ?_⟩
    refine vo_stM ?_
    refine vo_store_varS rfl rfl rfl inf37 sz37 rfl ?_
    refine vo_stM ?_
    refine vo_nil ?_
    refine hK26 _ ?_
    refine vc_ret ?_
    change retQ _ _ _ _ _
    refine retQ_sel [] (srows := []) (.inr rfl) hC rfl rfl rfl rfl rfl rfl rfl ?_
    refine ⟨?_, rfl⟩
    rw [Int.toNat_natCast]
    first
     | (exfalso; omega)
     | (refine fr_eq (?_ : bindM _ _ _ _ = _); unfold getM getR; first | rw [if_pos (by omega)] | rw [if_neg (by omega), if_neg (by omega), if_pos (by omega)])
     | (refine fr_eq (?_ : FoundM.mk _ _ _ _ = _); unfold getM getR; rw [if_neg (by omega), if_pos (by omega)])
     | (refine fr_eq (?_ : FoundM.mk _ _ _ _ = _); unfold getM getR; rw [if_neg (by omega), if_neg (by omega), if_neg (by omega)]; rfl)
   ·try simp only [zq0, zq1, zq2, zq3, zq4, zq5, zq6, zq7, zq8, zq9, zqa, zqb, zqc, zqd, zqe, zqf] at hc7
    refine vc_skip ?_
    refine hK24 _ ?_
    refine vc_seq fun K27 hK27 => ?_
    refine vc_region ?_
    refine vo_build S37 rfl rfl rfl ?_
    refine vo_stM ?_
    refine vo_store_varS rfl rfl rfl inf37 sz37 rfl ?_
    refine vo_stM ?_
    refine vo_nil ?_
    refine hK27 _ ?_
    refine vc_ret ?_
    change retQ _ _ _ _ _
    refine retQ_sel [] (srows := []) (.inr rfl) hC rfl rfl rfl rfl rfl rfl rfl ?_
    refine ⟨?_, rfl⟩
    rw [Int.toNat_natCast]
    first
     | (exfalso; omega)
     | (refine fr_eq (?_ : bindM _ _ _ _ = _); unfold getM getR; first | rw [if_pos (by omega)] | rw [if_neg (by omega), if_neg (by omega), if_pos (by omega)])
     | (refine fr_eq (?_ : FoundM.mk _ _ _ _ = _); unfold getM getR; rw [if_neg (by omega), if_pos (by omega)])
     | (refine fr_eq (?_ : FoundM.mk _ _ _ _ = _); unfold getM getR; rw [if_neg (by omega), if_neg (by omega), if_neg (by omega)]; rfl)


end Go.Vl

namespace Go.Vl
set_option linter.unusedVariables false
set_option linter.unusedSimpArgs false
open Go.Proofs

theorem gbt {b : Bool} (h : b = true) : [bo b] = [bo true] := by rw [h]
end Go.Vl

namespace Go.Vl
set_option linter.unusedVariables false
set_option linter.unusedSimpArgs false
open Go.Proofs

end Go.Vl

namespace Go.Vl
set_option linter.unusedVariables false
set_option linter.unusedSimpArgs false
open Go.Proofs

theorem kp_len {a b : List Int} (ha : a.length ≤ 12 ∧ a.Nodup) (h : b.Sublist a) : KeepP a b :=
  ⟨⟨by have := ha.1; omega, ha.2⟩, ⟨by have := ha.1; have := h.length_le; omega, h.nodup ha.2⟩, (kpN_sub b a 0 (Nat.zero_le _)).2 (by simpa using h)⟩
theorem ownM_yes {w : WorldM} {c name : Int} (hv : VWorld w ∧ 0 ≤ c ∧ c ≤ (w.bases.length : Int) - 1) : ownM w c name = ownrs w.attrs name (ordM w.bases c.toNat) := by unfold ownM; rw [if_pos hv]
theorem ownM_ok {w : WorldM} {c name : Int} (hv : VWorld w ∧ 0 ≤ c ∧ c ≤ (w.bases.length : Int) - 1) : (ownM w c name).length ≤ 12 ∧ (ownM w c name).Nodup := by
  refine ⟨ownM_len, ?_⟩
  rw [ownM_yes hv]
  exact (ordM_ok hv.1.1.1 _ (by omega)).1.filter _
theorem keep_own {w : WorldM} {c name : Int} (hv : VWorld w ∧ 0 ≤ c ∧ c ≤ (w.bases.length : Int) - 1) : orOK w.bases c ∧ KeepP (orR w.bases c) (ownM w c name) ∧ ∀ x ∈ w.bases.getD c.toNat [], KeepP (ownM w c name) (ownM w x name) := by
  have hc : c.toNat < w.bases.length := by omega
  have hvb := hv.1.1.1
  have hne := hv.1.1.2 c.toNat hc
  have ho : orOK w.bases c := ⟨⟨hvb, hv.2.1, by omega⟩, hne⟩
  have hob := ordM_ok hvb _ hc
  refine ⟨ho, ?_, fun x hx => ?_⟩
  · rw [orR_yes ho, ownM_yes hv]
    exact kp_len ⟨ordM_len hvb hc, hob.1⟩ List.filter_sublist
  · have hb := (hvb.at hc).2.2 x hx
    refine kp_len (ownM_ok hv) ?_
    rw [ownM_yes hv, ownM_yes (c := x) ⟨hv.1, hb.1, by omega⟩]
    exact ((ord_base hvb hc).1 x hx hne).filter _

end Go.Vl

namespace Go.Vl
set_option linter.unusedVariables false
set_option linter.unusedSimpArgs false
open Go.Proofs

end Go.Vl

namespace Go.Vl
set_option linter.unusedVariables false
set_option linter.unusedSimpArgs false
open Go.Proofs

end Go.Vl

namespace Go.Vl
set_option linter.unusedVariables false
set_option linter.unusedSimpArgs false
open Go.Proofs

def fstD (l : List Int) : Int := l.getD 0 (-1)
def gtP (o : List Int) (a : Int) (x : Int) : Bool := decide (0 ≤ a ∧ a < findM x o 0)
end Go.Vl
