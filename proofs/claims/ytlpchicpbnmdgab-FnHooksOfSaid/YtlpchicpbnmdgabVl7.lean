/- Part 7 of the texts that the proof of FnHooksOf is built on. -/
import Derived.Test.YtlpchicpbnmdgabVl6
namespace Go.Vl
set_option linter.unusedVariables false
set_option linter.unusedSimpArgs false
open Go.Proofs

def medW (w : WorldM) : Prop := (1 ≤ w.bases.length ∧ w.bases.length ≤ 9 ∧ ∀ l ∈ w.bases, l.length ≤ 3) ∧ (w.attrs.length ≤ 10 ∧ ∀ l ∈ w.attrs, l.length ≤ 4) ∧ w.objs.length ≤ 4 ∧ ∀ o ∈ w.objs, o.pairs.length ≤ 3
theorem medW.sw {w : WorldM} (h : medW w) : SW w := by
  obtain ⟨⟨_, h1, h2⟩, ⟨h3, h4⟩, h5, h6⟩ := h
  exact ⟨⟨by omega, fun l hl => by have := h2 l hl; omega⟩, ⟨by omega, fun l hl => by have := h4 l hl; omega⟩, by omega, fun o ho => by have := h6 o ho; unfold SO; omega⟩
theorem attrs_at0 {A : List (List AttrM)} (h : 0 < A.length) : (A.map attrsP)[0]? = some (.sl none 3 ((A.getD 0 []).map attrP)) := getP [] h
theorem app_attrs3 (l : List AttrM) (a b c : Int) : l.map attrP ++ [.agg [.int .i64 a, .int .i64 b, .int .i64 c]] = (l ++ [(⟨a, b, c⟩ : AttrM)]).map attrP := by simp
theorem set_attrss (l : List (List AttrM)) (i : Nat) (a : List AttrM) : (l.map attrsP).set i (.sl none 3 (a.map attrP)) = (l.set i a).map attrsP := by simp [List.map_set]
theorem get_endP {α : Type} (f : α → PV) (l : List α) (x : PV) : (l.map f ++ [x])[l.length]? = some x := by simp
theorem set_endO (l : List ObjM) (a : Int) (x : PV) : (l.map objP ++ [x]).set l.length (.agg [.int .i64 a, .sl none 2 []]) = (l ++ [(⟨a, []⟩ : ObjM)]).map objP := by
  rw [List.set_append_right _ _ (by simp)]; simp
theorem set_endA (l : List (List AttrM)) (x : PV) : (l.map attrsP ++ [x]).set l.length (.sl none 3 []) = (l ++ [([] : List AttrM)]).map attrsP := by
  rw [List.set_append_right _ _ (by simp)]; simp
theorem set_all {α : Type} {p : α → Prop} {l : List α} {x : α} (h : ∀ y ∈ l, p y) (hx : p x) (i : Nat) : ∀ y ∈ l.set i x, p y := by
  intro y hy
  rcases List.mem_or_eq_of_mem_set hy with h1 | h1
  · exact h y h1
  · rw [h1]; exact hx
theorem med1 {W : WorldM} (hb : 1 ≤ W.bases.length ∧ W.bases.length ≤ 9 ∧ ∀ l ∈ W.bases, l.length ≤ 3) (ha1 : W.attrs.length ≤ 9) (ha2 : ∀ l ∈ W.attrs, l.length ≤ 3) (ho1 : W.objs.length ≤ 3) (ho2 : ∀ o ∈ W.objs, o.pairs.length ≤ 3) (y : Int) :
    medW ⟨W.bases, W.attrs.set 0 (W.attrs.getD 0 [] ++ [⟨y, 1, 0⟩]), W.objs⟩ ∧ medW ⟨W.bases, W.attrs, W.objs ++ [⟨y, []⟩]⟩ ∧ medW ⟨W.bases, W.attrs ++ [[]], W.objs⟩ ∧ medW ⟨W.bases, W.attrs, W.objs⟩ := by
  refine ⟨⟨hb, ⟨by rw [List.length_set]; omega, set_all (fun l hl => Nat.le_succ_of_le (ha2 l hl)) (by rw [List.length_append, List.length_singleton]; have := getD_all (p := fun l : List AttrM => l.length ≤ 3) ha2 [] (by simp) 0; omega) 0⟩, Nat.le_succ_of_le ho1, ho2⟩,
    ⟨hb, ⟨by show W.attrs.length ≤ 10; omega, fun l hl => Nat.le_succ_of_le (ha2 l hl)⟩, by rw [List.length_append, List.length_singleton]; omega, app_all ho2 (by simp)⟩,
    ⟨hb, ⟨by rw [List.length_append, List.length_singleton]; omega, app_all (fun l hl => Nat.le_succ_of_le (ha2 l hl)) (by simp)⟩, Nat.le_succ_of_le ho1, ho2⟩,
    ⟨hb, ⟨by show W.attrs.length ≤ 10; omega, fun l hl => Nat.le_succ_of_le (ha2 l hl)⟩, Nat.le_succ_of_le ho1, ho2⟩⟩
theorem plain_nilO (a : Int) : plainX [.agg [.int .i64 a, .sl (some true) 2 []]] := by
  intro x hx c hc
  rw [List.mem_singleton] at hx; subst hx
  simp [PV.cells] at hc
  rcases hc with rfl | rfl <;> rfl
theorem plain_nil1 : plainX [.sl (some true) 0 []] := by
  intro x hx c hc
  rw [List.mem_singleton] at hx; subst hx
  simp [PV.cells] at hc; subst hc; rfl
set_option maxHeartbeats 4000000 in
theorem anyWorld_sat {nl : Option Bool} {c : List (Fin 256)} {p : Nat} (hc : c.length ≤ 2000) (hp : p < 989000) : SatAt Try.prog 103 [.ptr 0 0 0 0] [rdr nl c p] (fun res rows => ∃ (W : WorldM) (q : Nat) (f : Bool), (medW W ∧ q ≤ p + 420) ∧ res = [.pv f (worldP W)] ∧ rows = [rdr nl c q]) := by
 refine sat_entry_G (rs := [(2, some (33, 3))]) Try.func103 rfl rfl (Nat.le_of_ble_eq_true rfl) (Nat.le_of_ble_eq_true rfl) (resTs1 ⟨_, _, Try.underlying33, rfl, inf33, sz33⟩) fun C hC => ?_
 rw [Try.ntmps103]
 replace hC : C.nb = 1 := hC
 refine vc_seq fun K1 hK1 => ?_
 refine vc_region ?_
 refine vo_alloc Z33 rfl ?_
 refine vo_stM ?_
 refine vo_nil ?_
 refine hK1 _ ?_
 refine vc_seq fun K2 hK2 => ?_
 refine vc_region ?_
 refine vo_move_ptr rfl rfl ?_
 refine vo_call [0] Try.func119 rfl rfl rfl rfl rfl rfl rfl (someWorld_sat hc (by omega)) ?_
 rintro _ _ ⟨W, q, f, ⟨⟨⟨hb1, hb2, hb3⟩, ⟨ha1, ha2⟩, ho1, ho2⟩, hq⟩, rfl, rfl⟩
 refine ⟨Nat.le_of_ble_eq_true rfl, ⟨rfl, rfl, rfl, rfl⟩, .inl rfl, ?_⟩
 refine vo_stM ?_
 refine vo_alloc Z33 rfl ?_
 refine vo_stM ?_
 refine vo_store_varG rfl rfl rfl rfl inf33 sz33 rfl ?_
 refine vo_stM ?_
 refine vo_nil ?_
 refine hK2 _ ?_
 refine vc_seq fun K3 hK3 => ?_
 refine vc_seq fun K4 hK4 => ?_
 refine vc_region ?_
 refine vo_move_ptr rfl rfl ?_
 refine vo_call [0] Try.func58 rfl rfl rfl rfl rfl rfl rfl (pick_sat hc (by omega)) ?_
 rintro _ _ ⟨x7, ⟨hx70, hx71⟩, rfl, rfl⟩
 refine ⟨Nat.le_of_ble_eq_true rfl, ⟨rfl, rfl, rfl, rfl⟩, .inl rfl, ?_⟩
 refine vo_stM ?_
 refine vo_nil ?_
 refine hK4 _ ?_
 refine vc_block ?_
 refine vc_seq fun K5 hK5 => ?_
 refine vc_region ?_
 refine vo_binI rfl rfl rfl rfl trivial ?_
 refine vo_assign_pv rfl rfl ?_
 refine vo_nil ?_
 refine hK5 _ ?_
 refine vc_cond rfl (fun hc1 => ?_) (fun hc1 => ?_)
 ·try simp only [zq0, zq1, zq2, zq3, zq4, zq5, zq6, zq7, zq8, zq9, zqa, zqb, zqc, zqd, zqe, zqf] at hc1
  have hat0 : (W.attrs.getD 0 []).length ≤ 3 := getD_all (p := fun l : List AttrM => l.length ≤ 3) ha2 [] (by simp) 0
  refine vc_drawB [11, 13] (by kernel_rfl) ?_
  change VLB [11, 13] _ _ _ 14 _ _ _
  refine vb_light0 0 rfl rfl rfl (by kernel_rfl) (by kernel_rfl) (by kernel_rfl) (wnt_none rfl) (l0_fieldAddr_ptr rfl Try.underlying33 rfl inf30 (by rw [sz30]; decide)) ?_
  try simp only [Nat.zero_add]
  refine vb_light0 2 rfl rfl rfl (by kernel_rfl) (by kernel_rfl) (by kernel_rfl) (wnt_none rfl) (l0_fieldAddr_ptr rfl Try.underlying33 rfl inf30 (by rw [sz30]; decide)) ?_
  try simp only [Nat.zero_add]
  refine vb_light 3 [0, 1, 2, 6, 7, 8, 9, 10] rfl rfl rfl (by kernel_rfl) (by kernel_rfl) (by kernel_rfl) (by kernel_rfl) (by kernel_rfl) (wnt_none rfl) (lb_load_var hC rfl rfl rfl rfl Try.underlying30 rfl rfl) ?_
  refine vb_light0 4 rfl rfl rfl (by kernel_rfl) (by kernel_rfl) (by kernel_rfl) (wnt_none rfl) (l0_index_ref rfl rfl rfl E30.und inf63 sz63 sd sd) ?_
  try simp only [Int.toNat_natCast]
  refine vb_light0 6 rfl rfl rfl (by kernel_rfl) (by kernel_rfl) (by kernel_rfl) (wnt_none rfl) (l0_move_ptr rfl) ?_
  refine vb_any3 1 5 7 (by kernel_rfl) ?_ ?_ ?_
  ·refine sb_light 1 rfl rfl rfl (wnt_none rfl) (lb_load_var hC rfl rfl rfl rfl Try.underlying30 rfl rfl) ?_
   refine vb_any2 5 7 (by kernel_rfl) ?_ ?_
   ·refine sb_extE 5 rfl (fun _ => rfl) (xt_load_take1 rfl rfl (by omega) Try.underlying63 rfl (attrs_at0 (by omega))) fun Rf15 => ?_
    refine vb_stM ?_
    refine vb_treeown 5 (by omega) rfl ?_
    refine vb_stM ?_
    refine vb_ext 7 rfl (by kernel_rfl) rfl (xt_buildSlice E49 rfl rfl rfl rfl) ?_
    refine vb_stM ?_
    refine vb_expose 6 (by omega) rfl ?_
    refine vb_stM ?_
    refine vb_weaken 17 rfl ?_
    refine vb_stM ?_
    refine vb_any1 8 (by kernel_rfl) ?_
    refine sb_call 8 [0] hC rfl rfl (wnt_none rfl) Try.func59 rfl rfl rfl rfl rfl rfl rfl (one_sat (list := [_,_]) hc (by omega) (by simp) (by simp)) ?_
    rintro _ _ ⟨y18, hy18, rfl, rfl⟩
    refine ⟨Nat.le_of_ble_eq_true rfl, ⟨rfl, rfl, rfl, rfl⟩, .inl rfl, ?_⟩
    refine vb_stM ?_
    refine vb_light0 9 rfl rfl rfl (by kernel_rfl) (by kernel_rfl) (by kernel_rfl) (wnt_none rfl) (l0_build S37 rfl rfl) ?_
    refine vb_stM ?_
    refine vb_ext 10 rfl (by kernel_rfl) rfl (xt_buildSlice E63 rfl rfl rfl rfl) ?_
    refine vb_stM ?_
    refine vb_one 11 rfl (by kernel_rfl) rfl ?_
    refine vo_appendU E63 rfl (by omega) rfl rfl rfl sd sd fun Rt5 => ?_
    refine vo_stM ?_
    try simp only [app_ints, app_intss, app_bools, app_attrs3]
    refine vo_done ⟨rfl, ?_⟩
    refine vb_light0 12 rfl rfl rfl (by kernel_rfl) (by kernel_rfl) (by kernel_rfl) (wnt_none rfl) (l0_index_ref rfl rfl rfl E30.und inf63 sz63 sd sd) ?_
    try simp only [Int.toNat_natCast]
    refine vb_one 13 rfl (by kernel_rfl) rfl ?_
    refine vo_totree 5 rfl ((by first | exact plain_nilO _ | exact plain_nil1 | exact plain_attrs _ | exact plain_pairsX _)) ?_
    refine vo_stM ?_
    refine vo_weaktree 5 rfl ?_
    refine vo_stM ?_
    refine vo_put (p := .sl _ _ _) rfl rfl rfl rfl rfl rfl rfl hC rfl (by first | decide | (simp [refsOf]; done) | (simp [refsOf, SV.shift1, placeOf]; done)) inf63 sz63 sd ?_
    refine vo_stM ?_
    try simp only [List.set_set, set_attrss]
    refine vo_done ⟨rfl, ?_⟩
    refine vb_nil (by kernel_rfl) ?_
    refine hK3 _ ?_
    refine vc_seq fun K6 hK6 => ?_
    refine vc_region ?_
    refine vo_load_varG rfl rfl rfl Try.underlying33 rfl inf33 sz33 rfl ?_
    refine vo_stM ?_
    refine vo_store_varG rfl rfl rfl rfl inf33 sz33 rfl ?_
    refine vo_stM ?_
    refine vo_nil ?_
    refine hK6 _ ?_
    refine vc_treeown 2 (by omega) rfl ?_
    refine vc_stM ?_
    refine vc_expose 2 (by omega) rfl ?_
    refine vc_stM ?_
    refine vc_treeown 3 (by omega) rfl ?_
    refine vc_stM ?_
    refine vc_expose 3 (by omega) rfl ?_
    refine vc_stM ?_
    refine vc_ret ?_
    change retQ _ _ _ _ _
    refine retQ_sel [] (srows := []) (.inr rfl) hC rfl rfl rfl rfl rfl rfl rfl ?_
    have hM := fun y => med1 ⟨hb1, hb2, hb3⟩ (by omega) ha2 ho1 ho2 y
    first
     | exact ⟨_, _, _, ⟨(hM y18).1, by omega⟩, rfl, rfl⟩
     | exact ⟨_, _, _, ⟨(hM y29).2.1, by omega⟩, rfl, rfl⟩
     | exact ⟨_, _, _, ⟨(hM 0).2.2.1, by omega⟩, rfl, rfl⟩
     | exact ⟨_, _, _, ⟨(hM 0).2.2.2, by omega⟩, rfl, rfl⟩
   ·refine sb_ext 7 rfl rfl (xt_buildSlice E49 rfl rfl rfl rfl) ?_
    refine vb_stM ?_
    refine vb_expose 5 (by omega) rfl ?_
    refine vb_stM ?_
    refine vb_weaken 17 rfl ?_
    refine vb_stM ?_
    refine vb_any2 5 8 (by kernel_rfl) ?_ ?_
    ·refine sb_extE 5 rfl (fun _ => rfl) (xt_load_take1 rfl rfl (by omega) Try.underlying63 rfl (attrs_at0 (by omega))) fun Rf15 => ?_
     refine vb_stM ?_
     refine vb_treeown 6 (by omega) rfl ?_
     refine vb_stM ?_
     refine vb_any1 8 (by kernel_rfl) ?_
     refine sb_call 8 [0] hC rfl rfl (wnt_none rfl) Try.func59 rfl rfl rfl rfl rfl rfl rfl (one_sat (list := [_,_]) hc (by omega) (by simp) (by simp)) ?_
     rintro _ _ ⟨y18, hy18, rfl, rfl⟩
     refine ⟨Nat.le_of_ble_eq_true rfl, ⟨rfl, rfl, rfl, rfl⟩, .inl rfl, ?_⟩
     refine vb_stM ?_
     refine vb_light0 9 rfl rfl rfl (by kernel_rfl) (by kernel_rfl) (by kernel_rfl) (wnt_none rfl) (l0_build S37 rfl rfl) ?_
     refine vb_stM ?_
     refine vb_ext 10 rfl (by kernel_rfl) rfl (xt_buildSlice E63 rfl rfl rfl rfl) ?_
     refine vb_stM ?_
     refine vb_one 11 rfl (by kernel_rfl) rfl ?_
     refine vo_appendU E63 rfl (by omega) rfl rfl rfl sd sd fun Rt6 => ?_
     refine vo_stM ?_
     try simp only [app_ints, app_intss, app_bools, app_attrs3]
     refine vo_done ⟨rfl, ?_⟩
     refine vb_light0 12 rfl rfl rfl (by kernel_rfl) (by kernel_rfl) (by kernel_rfl) (wnt_none rfl) (l0_index_ref rfl rfl rfl E30.und inf63 sz63 sd sd) ?_
     try simp only [Int.toNat_natCast]
     refine vb_one 13 rfl (by kernel_rfl) rfl ?_
     refine vo_totree 6 rfl ((by first | exact plain_nilO _ | exact plain_nil1 | exact plain_attrs _ | exact plain_pairsX _)) ?_
     refine vo_stM ?_
     refine vo_weaktree 6 rfl ?_
     refine vo_stM ?_
     refine vo_put (p := .sl _ _ _) rfl rfl rfl rfl rfl rfl rfl hC rfl (by first | decide | (simp [refsOf]; done) | (simp [refsOf, SV.shift1, placeOf]; done)) inf63 sz63 sd ?_
     refine vo_stM ?_
     try simp only [List.set_set, set_attrss]
     refine vo_done ⟨rfl, ?_⟩
     refine vb_nil (by kernel_rfl) ?_
     refine hK3 _ ?_
     refine vc_seq fun K7 hK7 => ?_
     refine vc_region ?_
     refine vo_load_varG rfl rfl rfl Try.underlying33 rfl inf33 sz33 rfl ?_
     refine vo_stM ?_
     refine vo_store_varG rfl rfl rfl rfl inf33 sz33 rfl ?_
     refine vo_stM ?_
     refine vo_nil ?_
     refine hK7 _ ?_
     refine vc_treeown 2 (by omega) rfl ?_
     refine vc_stM ?_
     refine vc_expose 2 (by omega) rfl ?_
     refine vc_stM ?_
     refine vc_treeown 3 (by omega) rfl ?_
     refine vc_stM ?_
     refine vc_expose 3 (by omega) rfl ?_
     refine vc_stM ?_
     refine vc_ret ?_
     change retQ _ _ _ _ _
     refine retQ_sel [] (srows := []) (.inr rfl) hC rfl rfl rfl rfl rfl rfl rfl ?_
     have hM := fun y => med1 ⟨hb1, hb2, hb3⟩ (by omega) ha2 ho1 ho2 y
     first
      | exact ⟨_, _, _, ⟨(hM y18).1, by omega⟩, rfl, rfl⟩
      | exact ⟨_, _, _, ⟨(hM y29).2.1, by omega⟩, rfl, rfl⟩
      | exact ⟨_, _, _, ⟨(hM 0).2.2.1, by omega⟩, rfl, rfl⟩
      | exact ⟨_, _, _, ⟨(hM 0).2.2.2, by omega⟩, rfl, rfl⟩
    ·refine sb_call 8 [0] hC rfl rfl (wnt_none rfl) Try.func59 rfl rfl rfl rfl rfl rfl rfl (one_sat (list := [_,_]) hc (by omega) (by simp) (by simp)) ?_
     rintro _ _ ⟨y18, hy18, rfl, rfl⟩
     refine ⟨Nat.le_of_ble_eq_true rfl, ⟨rfl, rfl, rfl, rfl⟩, .inl rfl, ?_⟩
     refine vb_stM ?_
     refine vb_light0 9 rfl rfl rfl (by kernel_rfl) (by kernel_rfl) (by kernel_rfl) (wnt_none rfl) (l0_build S37 rfl rfl) ?_
     refine vb_stM ?_
     refine vb_any2 5 10 (by kernel_rfl) ?_ ?_
     ·refine sb_extE 5 rfl (fun _ => rfl) (xt_load_take1 rfl rfl (by omega) Try.underlying63 rfl (attrs_at0 (by omega))) fun Rf15 => ?_
      refine vb_stM ?_
      refine vb_treeown 6 (by omega) rfl ?_
      refine vb_stM ?_
      refine vb_ext 10 rfl (by kernel_rfl) rfl (xt_buildSlice E63 rfl rfl rfl rfl) ?_
      refine vb_stM ?_
      refine vb_one 11 rfl (by kernel_rfl) rfl ?_
      refine vo_appendU E63 rfl (by omega) rfl rfl rfl sd sd fun Rt7 => ?_
      refine vo_stM ?_
      try simp only [app_ints, app_intss, app_bools, app_attrs3]
      refine vo_done ⟨rfl, ?_⟩
      refine vb_light0 12 rfl rfl rfl (by kernel_rfl) (by kernel_rfl) (by kernel_rfl) (wnt_none rfl) (l0_index_ref rfl rfl rfl E30.und inf63 sz63 sd sd) ?_
      try simp only [Int.toNat_natCast]
      refine vb_one 13 rfl (by kernel_rfl) rfl ?_
      refine vo_totree 6 rfl ((by first | exact plain_nilO _ | exact plain_nil1 | exact plain_attrs _ | exact plain_pairsX _)) ?_
      refine vo_stM ?_
      refine vo_weaktree 6 rfl ?_
      refine vo_stM ?_
      refine vo_put (p := .sl _ _ _) rfl rfl rfl rfl rfl rfl rfl hC rfl (by first | decide | (simp [refsOf]; done) | (simp [refsOf, SV.shift1, placeOf]; done)) inf63 sz63 sd ?_
      refine vo_stM ?_
      try simp only [List.set_set, set_attrss]
      refine vo_done ⟨rfl, ?_⟩
      refine vb_nil (by kernel_rfl) ?_
      refine hK3 _ ?_
      refine vc_seq fun K8 hK8 => ?_
      refine vc_region ?_
      refine vo_load_varG rfl rfl rfl Try.underlying33 rfl inf33 sz33 rfl ?_
      refine vo_stM ?_
      refine vo_store_varG rfl rfl rfl rfl inf33 sz33 rfl ?_
      refine vo_stM ?_
      refine vo_nil ?_
      refine hK8 _ ?_
      refine vc_treeown 2 (by omega) rfl ?_
      refine vc_stM ?_
      refine vc_expose 2 (by omega) rfl ?_
      refine vc_stM ?_
      refine vc_treeown 3 (by omega) rfl ?_
      refine vc_stM ?_
      refine vc_expose 3 (by omega) rfl ?_
      refine vc_stM ?_
      refine vc_ret ?_
      change retQ _ _ _ _ _
      refine retQ_sel [] (srows := []) (.inr rfl) hC rfl rfl rfl rfl rfl rfl rfl ?_
      have hM := fun y => med1 ⟨hb1, hb2, hb3⟩ (by omega) ha2 ho1 ho2 y
      first
       | exact ⟨_, _, _, ⟨(hM y18).1, by omega⟩, rfl, rfl⟩
       | exact ⟨_, _, _, ⟨(hM y29).2.1, by omega⟩, rfl, rfl⟩
       | exact ⟨_, _, _, ⟨(hM 0).2.2.1, by omega⟩, rfl, rfl⟩
       | exact ⟨_, _, _, ⟨(hM 0).2.2.2, by omega⟩, rfl, rfl⟩
     ·refine sb_ext 10 rfl rfl (xt_buildSlice E63 rfl rfl rfl rfl) ?_
      refine vb_stM ?_
      refine vb_any1 5 (by kernel_rfl) ?_
      refine sb_extE 5 rfl (fun _ => rfl) (xt_load_take1 rfl rfl (by omega) Try.underlying63 rfl (attrs_at0 (by omega))) fun Rf15 => ?_
      refine vb_stM ?_
      refine vb_treeown 7 (by omega) rfl ?_
      refine vb_stM ?_
      refine vb_one 11 rfl (by kernel_rfl) rfl ?_
      refine vo_appendU E63 rfl (by omega) rfl rfl rfl sd sd fun Rt8 => ?_
      refine vo_stM ?_
      try simp only [app_ints, app_intss, app_bools, app_attrs3]
      refine vo_done ⟨rfl, ?_⟩
      refine vb_light0 12 rfl rfl rfl (by kernel_rfl) (by kernel_rfl) (by kernel_rfl) (wnt_none rfl) (l0_index_ref rfl rfl rfl E30.und inf63 sz63 sd sd) ?_
      try simp only [Int.toNat_natCast]
      refine vb_one 13 rfl (by kernel_rfl) rfl ?_
      refine vo_totree 7 rfl ((by first | exact plain_nilO _ | exact plain_nil1 | exact plain_attrs _ | exact plain_pairsX _)) ?_
      refine vo_stM ?_
      refine vo_weaktree 7 rfl ?_
      refine vo_stM ?_
      refine vo_put (p := .sl _ _ _) rfl rfl rfl rfl rfl rfl rfl hC rfl (by first | decide | (simp [refsOf]; done) | (simp [refsOf, SV.shift1, placeOf]; done)) inf63 sz63 sd ?_
      refine vo_stM ?_
      try simp only [List.set_set, set_attrss]
      refine vo_done ⟨rfl, ?_⟩
      refine vb_nil (by kernel_rfl) ?_
      refine hK3 _ ?_
      refine vc_seq fun K9 hK9 => ?_
      refine vc_region ?_
      refine vo_load_varG rfl rfl rfl Try.underlying33 rfl inf33 sz33 rfl ?_
      refine vo_stM ?_
      refine vo_store_varG rfl rfl rfl rfl inf33 sz33 rfl ?_
      refine vo_stM ?_
      refine vo_nil ?_
      refine hK9 _ ?_
      refine vc_treeown 2 (by omega) rfl ?_
      refine vc_stM ?_
      refine vc_expose 2 (by omega) rfl ?_
      refine vc_stM ?_
      refine vc_treeown 3 (by omega) rfl ?_
      refine vc_stM ?_
      refine vc_expose 3 (by omega) rfl ?_
      refine vc_stM ?_
      refine vc_ret ?_
      change retQ _ _ _ _ _
      refine retQ_sel [] (srows := []) (.inr rfl) hC rfl rfl rfl rfl rfl rfl rfl ?_
      have hM := fun y => med1 ⟨hb1, hb2, hb3⟩ (by omega) ha2 ho1 ho2 y
      first
       | exact ⟨_, _, _, ⟨(hM y18).1, by omega⟩, rfl, rfl⟩
       | exact ⟨_, _, _, ⟨(hM y29).2.1, by omega⟩, rfl, rfl⟩
       | exact ⟨_, _, _, ⟨(hM 0).2.2.1, by omega⟩, rfl, rfl⟩
       | exact ⟨_, _, _, ⟨(hM 0).2.2.2, by omega⟩, rfl, rfl⟩
  ·refine sb_extE 5 rfl (fun _ => rfl) (xt_load_take1 rfl rfl (by omega) Try.underlying63 rfl (attrs_at0 (by omega))) fun Rf15 => ?_
   refine vb_stM ?_
   refine vb_treeown 5 (by omega) rfl ?_
   refine vb_stM ?_
   refine vb_any2 1 7 (by kernel_rfl) ?_ ?_
   ·refine sb_light 1 rfl rfl rfl (wnt_none rfl) (lb_load_var hC rfl rfl rfl rfl Try.underlying30 rfl rfl) ?_
    refine vb_ext 7 rfl (by kernel_rfl) rfl (xt_buildSlice E49 rfl rfl rfl rfl) ?_
    refine vb_stM ?_
    refine vb_expose 6 (by omega) rfl ?_
    refine vb_stM ?_
    refine vb_weaken 17 rfl ?_
    refine vb_stM ?_
    refine vb_any1 8 (by kernel_rfl) ?_
    refine sb_call 8 [0] hC rfl rfl (wnt_none rfl) Try.func59 rfl rfl rfl rfl rfl rfl rfl (one_sat (list := [_,_]) hc (by omega) (by simp) (by simp)) ?_
    rintro _ _ ⟨y18, hy18, rfl, rfl⟩
    refine ⟨Nat.le_of_ble_eq_true rfl, ⟨rfl, rfl, rfl, rfl⟩, .inl rfl, ?_⟩
    refine vb_stM ?_
    refine vb_light0 9 rfl rfl rfl (by kernel_rfl) (by kernel_rfl) (by kernel_rfl) (wnt_none rfl) (l0_build S37 rfl rfl) ?_
    refine vb_stM ?_
    refine vb_ext 10 rfl (by kernel_rfl) rfl (xt_buildSlice E63 rfl rfl rfl rfl) ?_
    refine vb_stM ?_
    refine vb_one 11 rfl (by kernel_rfl) rfl ?_
    refine vo_appendU E63 rfl (by omega) rfl rfl rfl sd sd fun Rt9 => ?_
    refine vo_stM ?_
    try simp only [app_ints, app_intss, app_bools, app_attrs3]
    refine vo_done ⟨rfl, ?_⟩
    refine vb_light0 12 rfl rfl rfl (by kernel_rfl) (by kernel_rfl) (by kernel_rfl) (wnt_none rfl) (l0_index_ref rfl rfl rfl E30.und inf63 sz63 sd sd) ?_
    try simp only [Int.toNat_natCast]
    refine vb_one 13 rfl (by kernel_rfl) rfl ?_
    refine vo_totree 5 rfl ((by first | exact plain_nilO _ | exact plain_nil1 | exact plain_attrs _ | exact plain_pairsX _)) ?_
    refine vo_stM ?_
    refine vo_weaktree 5 rfl ?_
    refine vo_stM ?_
    refine vo_put (p := .sl _ _ _) rfl rfl rfl rfl rfl rfl rfl hC rfl (by first | decide | (simp [refsOf]; done) | (simp [refsOf, SV.shift1, placeOf]; done)) inf63 sz63 sd ?_
    refine vo_stM ?_
    try simp only [List.set_set, set_attrss]
    refine vo_done ⟨rfl, ?_⟩
    refine vb_nil (by kernel_rfl) ?_
    refine hK3 _ ?_
    refine vc_seq fun K10 hK10 => ?_
    refine vc_region ?_
    refine vo_load_varG rfl rfl rfl Try.underlying33 rfl inf33 sz33 rfl ?_
    refine vo_stM ?_
    refine vo_store_varG rfl rfl rfl rfl inf33 sz33 rfl ?_
    refine vo_stM ?_
    refine vo_nil ?_
    refine hK10 _ ?_
    refine vc_treeown 2 (by omega) rfl ?_
    refine vc_stM ?_
    refine vc_expose 2 (by omega) rfl ?_
    refine vc_stM ?_
    refine vc_treeown 3 (by omega) rfl ?_
    refine vc_stM ?_
    refine vc_expose 3 (by omega) rfl ?_
    refine vc_stM ?_
    refine vc_ret ?_
    change retQ _ _ _ _ _
    refine retQ_sel [] (srows := []) (.inr rfl) hC rfl rfl rfl rfl rfl rfl rfl ?_
    have hM := fun y => med1 ⟨hb1, hb2, hb3⟩ (by omega) ha2 ho1 ho2 y
    first
     | exact ⟨_, _, _, ⟨(hM y18).1, by omega⟩, rfl, rfl⟩
     | exact ⟨_, _, _, ⟨(hM y29).2.1, by omega⟩, rfl, rfl⟩
     | exact ⟨_, _, _, ⟨(hM 0).2.2.1, by omega⟩, rfl, rfl⟩
     | exact ⟨_, _, _, ⟨(hM 0).2.2.2, by omega⟩, rfl, rfl⟩
   ·refine sb_ext 7 rfl rfl (xt_buildSlice E49 rfl rfl rfl rfl) ?_
    refine vb_stM ?_
    refine vb_expose 6 (by omega) rfl ?_
    refine vb_stM ?_
    refine vb_weaken 17 rfl ?_
    refine vb_stM ?_
    refine vb_any2 1 8 (by kernel_rfl) ?_ ?_
    ·refine sb_light 1 rfl rfl rfl (wnt_none rfl) (lb_load_var hC rfl rfl rfl rfl Try.underlying30 rfl rfl) ?_
     refine vb_any1 8 (by kernel_rfl) ?_
     refine sb_call 8 [0] hC rfl rfl (wnt_none rfl) Try.func59 rfl rfl rfl rfl rfl rfl rfl (one_sat (list := [_,_]) hc (by omega) (by simp) (by simp)) ?_
     rintro _ _ ⟨y18, hy18, rfl, rfl⟩
     refine ⟨Nat.le_of_ble_eq_true rfl, ⟨rfl, rfl, rfl, rfl⟩, .inl rfl, ?_⟩
     refine vb_stM ?_
     refine vb_light0 9 rfl rfl rfl (by kernel_rfl) (by kernel_rfl) (by kernel_rfl) (wnt_none rfl) (l0_build S37 rfl rfl) ?_
     refine vb_stM ?_
     refine vb_ext 10 rfl (by kernel_rfl) rfl (xt_buildSlice E63 rfl rfl rfl rfl) ?_
     refine vb_stM ?_
     refine vb_one 11 rfl (by kernel_rfl) rfl ?_
     refine vo_appendU E63 rfl (by omega) rfl rfl rfl sd sd fun Rt10 => ?_
     refine vo_stM ?_
     try simp only [app_ints, app_intss, app_bools, app_attrs3]
     refine vo_done ⟨rfl, ?_⟩
     refine vb_light0 12 rfl rfl rfl (by kernel_rfl) (by kernel_rfl) (by kernel_rfl) (wnt_none rfl) (l0_index_ref rfl rfl rfl E30.und inf63 sz63 sd sd) ?_
     try simp only [Int.toNat_natCast]
     refine vb_one 13 rfl (by kernel_rfl) rfl ?_
     refine vo_totree 5 rfl ((by first | exact plain_nilO _ | exact plain_nil1 | exact plain_attrs _ | exact plain_pairsX _)) ?_
     refine vo_stM ?_
     refine vo_weaktree 5 rfl ?_
     refine vo_stM ?_
     refine vo_put (p := .sl _ _ _) rfl rfl rfl rfl rfl rfl rfl hC rfl (by first | decide | (simp [refsOf]; done) | (simp [refsOf, SV.shift1, placeOf]; done)) inf63 sz63 sd ?_
     refine vo_stM ?_
     try simp only [List.set_set, set_attrss]
     refine vo_done ⟨rfl, ?_⟩
     refine vb_nil (by kernel_rfl) ?_
     refine hK3 _ ?_
     refine vc_seq fun K11 hK11 => ?_
     refine vc_region ?_
     refine vo_load_varG rfl rfl rfl Try.underlying33 rfl inf33 sz33 rfl ?_
     refine vo_stM ?_
     refine vo_store_varG rfl rfl rfl rfl inf33 sz33 rfl ?_
     refine vo_stM ?_
     refine vo_nil ?_
     refine hK11 _ ?_
     refine vc_treeown 2 (by omega) rfl ?_
     refine vc_stM ?_
     refine vc_expose 2 (by omega) rfl ?_
     refine vc_stM ?_
     refine vc_treeown 3 (by omega) rfl ?_
     refine vc_stM ?_
     refine vc_expose 3 (by omega) rfl ?_
     refine vc_stM ?_
     refine vc_ret ?_
     change retQ _ _ _ _ _
     refine retQ_sel [] (srows := []) (.inr rfl) hC rfl rfl rfl rfl rfl rfl rfl ?_
     have hM := fun y => med1 ⟨hb1, hb2, hb3⟩ (by omega) ha2 ho1 ho2 y
     first
      | exact ⟨_, _, _, ⟨(hM y18).1, by omega⟩, rfl, rfl⟩
      | exact ⟨_, _, _, ⟨(hM y29).2.1, by omega⟩, rfl, rfl⟩
      | exact ⟨_, _, _, ⟨(hM 0).2.2.1, by omega⟩, rfl, rfl⟩
      | exact ⟨_, _, _, ⟨(hM 0).2.2.2, by omega⟩, rfl, rfl⟩
    ·refine sb_call 8 [0] hC rfl rfl (wnt_none rfl) Try.func59 rfl rfl rfl rfl rfl rfl rfl (one_sat (list := [_,_]) hc (by omega) (by simp) (by simp)) ?_
     rintro _ _ ⟨y18, hy18, rfl, rfl⟩
     refine ⟨Nat.le_of_ble_eq_true rfl, ⟨rfl, rfl, rfl, rfl⟩, .inl rfl, ?_⟩
     refine vb_stM ?_
     refine vb_light0 9 rfl rfl rfl (by kernel_rfl) (by kernel_rfl) (by kernel_rfl) (wnt_none rfl) (l0_build S37 rfl rfl) ?_
     refine vb_stM ?_
     refine vb_any2 1 10 (by kernel_rfl) ?_ ?_
     ·refine sb_light 1 rfl rfl rfl (wnt_none rfl) (lb_load_var hC rfl rfl rfl rfl Try.underlying30 rfl rfl) ?_
      refine vb_ext 10 rfl (by kernel_rfl) rfl (xt_buildSlice E63 rfl rfl rfl rfl) ?_
      refine vb_stM ?_
      refine vb_one 11 rfl (by kernel_rfl) rfl ?_
      refine vo_appendU E63 rfl (by omega) rfl rfl rfl sd sd fun Rt11 => ?_
      refine vo_stM ?_
      try simp only [app_ints, app_intss, app_bools, app_attrs3]
      refine vo_done ⟨rfl, ?_⟩
      refine vb_light0 12 rfl rfl rfl (by kernel_rfl) (by kernel_rfl) (by kernel_rfl) (wnt_none rfl) (l0_index_ref rfl rfl rfl E30.und inf63 sz63 sd sd) ?_
      try simp only [Int.toNat_natCast]
      refine vb_one 13 rfl (by kernel_rfl) rfl ?_
      refine vo_totree 5 rfl ((by first | exact plain_nilO _ | exact plain_nil1 | exact plain_attrs _ | exact plain_pairsX _)) ?_
      refine vo_stM ?_
      refine vo_weaktree 5 rfl ?_
      refine vo_stM ?_
      refine vo_put (p := .sl _ _ _) rfl rfl rfl rfl rfl rfl rfl hC rfl (by first | decide | (simp [refsOf]; done) | (simp [refsOf, SV.shift1, placeOf]; done)) inf63 sz63 sd ?_
      refine vo_stM ?_
      try simp only [List.set_set, set_attrss]
      refine vo_done ⟨rfl, ?_⟩
      refine vb_nil (by kernel_rfl) ?_
      refine hK3 _ ?_
      refine vc_seq fun K12 hK12 => ?_
      refine vc_region ?_
      refine vo_load_varG rfl rfl rfl Try.underlying33 rfl inf33 sz33 rfl ?_
      refine vo_stM ?_
      refine vo_store_varG rfl rfl rfl rfl inf33 sz33 rfl ?_
      refine vo_stM ?_
      refine vo_nil ?_
      refine hK12 _ ?_
      refine vc_treeown 2 (by omega) rfl ?_
      refine vc_stM ?_
      refine vc_expose 2 (by omega) rfl ?_
      refine vc_stM ?_
      refine vc_treeown 3 (by omega) rfl ?_
      refine vc_stM ?_
      refine vc_expose 3 (by omega) rfl ?_
      refine vc_stM ?_
      refine vc_ret ?_
      change retQ _ _ _ _ _
      refine retQ_sel [] (srows := []) (.inr rfl) hC rfl rfl rfl rfl rfl rfl rfl ?_
      have hM := fun y => med1 ⟨hb1, hb2, hb3⟩ (by omega) ha2 ho1 ho2 y
      first
       | exact ⟨_, _, _, ⟨(hM y18).1, by omega⟩, rfl, rfl⟩
       | exact ⟨_, _, _, ⟨(hM y29).2.1, by omega⟩, rfl, rfl⟩
       | exact ⟨_, _, _, ⟨(hM 0).2.2.1, by omega⟩, rfl, rfl⟩
       | exact ⟨_, _, _, ⟨(hM 0).2.2.2, by omega⟩, rfl, rfl⟩
     ·refine sb_ext 10 rfl rfl (xt_buildSlice E63 rfl rfl rfl rfl) ?_
      refine vb_stM ?_
      refine vb_any2 1 11 (by kernel_rfl) ?_ ?_
      ·refine sb_light 1 rfl rfl rfl (wnt_none rfl) (lb_load_var hC rfl rfl rfl rfl Try.underlying30 rfl rfl) ?_
       refine vb_one 11 rfl (by kernel_rfl) rfl ?_
       refine vo_appendU E63 rfl (by omega) rfl rfl rfl sd sd fun Rt12 => ?_
       refine vo_stM ?_
       try simp only [app_ints, app_intss, app_bools, app_attrs3]
       refine vo_done ⟨rfl, ?_⟩
       refine vb_light0 12 rfl rfl rfl (by kernel_rfl) (by kernel_rfl) (by kernel_rfl) (wnt_none rfl) (l0_index_ref rfl rfl rfl E30.und inf63 sz63 sd sd) ?_
       try simp only [Int.toNat_natCast]
       refine vb_one 13 rfl (by kernel_rfl) rfl ?_
       refine vo_totree 5 rfl ((by first | exact plain_nilO _ | exact plain_nil1 | exact plain_attrs _ | exact plain_pairsX _)) ?_
       refine vo_stM ?_
       refine vo_weaktree 5 rfl ?_
       refine vo_stM ?_
       refine vo_put (p := .sl _ _ _) rfl rfl rfl rfl rfl rfl rfl hC rfl (by first | decide | (simp [refsOf]; done) | (simp [refsOf, SV.shift1, placeOf]; done)) inf63 sz63 sd ?_
       refine vo_stM ?_
       try simp only [List.set_set, set_attrss]
       refine vo_done ⟨rfl, ?_⟩
       refine vb_nil (by kernel_rfl) ?_
       refine hK3 _ ?_
       refine vc_seq fun K13 hK13 => ?_
       refine vc_region ?_
       refine vo_load_varG rfl rfl rfl Try.underlying33 rfl inf33 sz33 rfl ?_
       refine vo_stM ?_
       refine vo_store_varG rfl rfl rfl rfl inf33 sz33 rfl ?_
       refine vo_stM ?_
       refine vo_nil ?_
       refine hK13 _ ?_
       refine vc_treeown 2 (by omega) rfl ?_
       refine vc_stM ?_
       refine vc_expose 2 (by omega) rfl ?_
       refine vc_stM ?_
       refine vc_treeown 3 (by omega) rfl ?_
       refine vc_stM ?_
       refine vc_expose 3 (by omega) rfl ?_
       refine vc_stM ?_
       refine vc_ret ?_
       change retQ _ _ _ _ _
       refine retQ_sel [] (srows := []) (.inr rfl) hC rfl rfl rfl rfl rfl rfl rfl ?_
       have hM := fun y => med1 ⟨hb1, hb2, hb3⟩ (by omega) ha2 ho1 ho2 y
       first
        | exact ⟨_, _, _, ⟨(hM y18).1, by omega⟩, rfl, rfl⟩
        | exact ⟨_, _, _, ⟨(hM y29).2.1, by omega⟩, rfl, rfl⟩
        | exact ⟨_, _, _, ⟨(hM 0).2.2.1, by omega⟩, rfl, rfl⟩
        | exact ⟨_, _, _, ⟨(hM 0).2.2.2, by omega⟩, rfl, rfl⟩
      ·refine sb_one 11 rfl (by kernel_rfl) ?_
       refine vo_appendU E63 rfl (by omega) rfl rfl rfl sd sd fun Rt13 => ?_
       refine vo_stM ?_
       try simp only [app_ints, app_intss, app_bools, app_attrs3]
       refine vo_done ⟨rfl, ?_⟩
       refine vb_any1 1 (by kernel_rfl) ?_
       refine sb_light 1 rfl rfl rfl (wnt_none rfl) (lb_load_var hC rfl rfl rfl rfl Try.underlying30 rfl rfl) ?_
       refine vb_light0 12 rfl rfl rfl (by kernel_rfl) (by kernel_rfl) (by kernel_rfl) (wnt_none rfl) (l0_index_ref rfl rfl rfl E30.und inf63 sz63 sd sd) ?_
       try simp only [Int.toNat_natCast]
       refine vb_one 13 rfl (by kernel_rfl) rfl ?_
       refine vo_totree 5 rfl ((by first | exact plain_nilO _ | exact plain_nil1 | exact plain_attrs _ | exact plain_pairsX _)) ?_
       refine vo_stM ?_
       refine vo_weaktree 5 rfl ?_
       refine vo_stM ?_
       refine vo_put (p := .sl _ _ _) rfl rfl rfl rfl rfl rfl rfl hC rfl (by first | decide | (simp [refsOf]; done) | (simp [refsOf, SV.shift1, placeOf]; done)) inf63 sz63 sd ?_
       refine vo_stM ?_
       try simp only [List.set_set, set_attrss]
       refine vo_done ⟨rfl, ?_⟩
       refine vb_nil (by kernel_rfl) ?_
       refine hK3 _ ?_
       refine vc_seq fun K14 hK14 => ?_
       refine vc_region ?_
       refine vo_load_varG rfl rfl rfl Try.underlying33 rfl inf33 sz33 rfl ?_
       refine vo_stM ?_
       refine vo_store_varG rfl rfl rfl rfl inf33 sz33 rfl ?_
       refine vo_stM ?_
       refine vo_nil ?_
       refine hK14 _ ?_
       refine vc_treeown 2 (by omega) rfl ?_
       refine vc_stM ?_
       refine vc_expose 2 (by omega) rfl ?_
       refine vc_stM ?_
       refine vc_treeown 3 (by omega) rfl ?_
       refine vc_stM ?_
       refine vc_expose 3 (by omega) rfl ?_
       refine vc_stM ?_
       refine vc_ret ?_
       change retQ _ _ _ _ _
       refine retQ_sel [] (srows := []) (.inr rfl) hC rfl rfl rfl rfl rfl rfl rfl ?_
       have hM := fun y => med1 ⟨hb1, hb2, hb3⟩ (by omega) ha2 ho1 ho2 y
       first
        | exact ⟨_, _, _, ⟨(hM y18).1, by omega⟩, rfl, rfl⟩
        | exact ⟨_, _, _, ⟨(hM y29).2.1, by omega⟩, rfl, rfl⟩
        | exact ⟨_, _, _, ⟨(hM 0).2.2.1, by omega⟩, rfl, rfl⟩
        | exact ⟨_, _, _, ⟨(hM 0).2.2.2, by omega⟩, rfl, rfl⟩
  ·refine sb_ext 7 rfl rfl (xt_buildSlice E49 rfl rfl rfl rfl) ?_
   refine vb_stM ?_
   refine vb_expose 5 (by omega) rfl ?_
   refine vb_stM ?_
   refine vb_weaken 17 rfl ?_
   refine vb_stM ?_
   refine vb_any3 1 5 8 (by kernel_rfl) ?_ ?_ ?_
   ·refine sb_light 1 rfl rfl rfl (wnt_none rfl) (lb_load_var hC rfl rfl rfl rfl Try.underlying30 rfl rfl) ?_
    refine vb_any2 5 8 (by kernel_rfl) ?_ ?_
    ·refine sb_extE 5 rfl (fun _ => rfl) (xt_load_take1 rfl rfl (by omega) Try.underlying63 rfl (attrs_at0 (by omega))) fun Rf15 => ?_
     refine vb_stM ?_
     refine vb_treeown 6 (by omega) rfl ?_
     refine vb_stM ?_
     refine vb_any1 8 (by kernel_rfl) ?_
     refine sb_call 8 [0] hC rfl rfl (wnt_none rfl) Try.func59 rfl rfl rfl rfl rfl rfl rfl (one_sat (list := [_,_]) hc (by omega) (by simp) (by simp)) ?_
     rintro _ _ ⟨y18, hy18, rfl, rfl⟩
     refine ⟨Nat.le_of_ble_eq_true rfl, ⟨rfl, rfl, rfl, rfl⟩, .inl rfl, ?_⟩
     refine vb_stM ?_
     refine vb_light0 9 rfl rfl rfl (by kernel_rfl) (by kernel_rfl) (by kernel_rfl) (wnt_none rfl) (l0_build S37 rfl rfl) ?_
     refine vb_stM ?_
     refine vb_ext 10 rfl (by kernel_rfl) rfl (xt_buildSlice E63 rfl rfl rfl rfl) ?_
     refine vb_stM ?_
     refine vb_one 11 rfl (by kernel_rfl) rfl ?_
     refine vo_appendU E63 rfl (by omega) rfl rfl rfl sd sd fun Rt14 => ?_
     refine vo_stM ?_
     try simp only [app_ints, app_intss, app_bools, app_attrs3]
     refine vo_done ⟨rfl, ?_⟩
     refine vb_light0 12 rfl rfl rfl (by kernel_rfl) (by kernel_rfl) (by kernel_rfl) (wnt_none rfl) (l0_index_ref rfl rfl rfl E30.und inf63 sz63 sd sd) ?_
     try simp only [Int.toNat_natCast]
     refine vb_one 13 rfl (by kernel_rfl) rfl ?_
     refine vo_totree 6 rfl ((by first | exact plain_nilO _ | exact plain_nil1 | exact plain_attrs _ | exact plain_pairsX _)) ?_
     refine vo_stM ?_
     refine vo_weaktree 6 rfl ?_
     refine vo_stM ?_
     refine vo_put (p := .sl _ _ _) rfl rfl rfl rfl rfl rfl rfl hC rfl (by first | decide | (simp [refsOf]; done) | (simp [refsOf, SV.shift1, placeOf]; done)) inf63 sz63 sd ?_
     refine vo_stM ?_
     try simp only [List.set_set, set_attrss]
     refine vo_done ⟨rfl, ?_⟩
     refine vb_nil (by kernel_rfl) ?_
     refine hK3 _ ?_
     refine vc_seq fun K15 hK15 => ?_
     refine vc_region ?_
     refine vo_load_varG rfl rfl rfl Try.underlying33 rfl inf33 sz33 rfl ?_
     refine vo_stM ?_
     refine vo_store_varG rfl rfl rfl rfl inf33 sz33 rfl ?_
     refine vo_stM ?_
     refine vo_nil ?_
     refine hK15 _ ?_
     refine vc_treeown 2 (by omega) rfl ?_
     refine vc_stM ?_
     refine vc_expose 2 (by omega) rfl ?_
     refine vc_stM ?_
     refine vc_treeown 3 (by omega) rfl ?_
     refine vc_stM ?_
     refine vc_expose 3 (by omega) rfl ?_
     refine vc_stM ?_
     refine vc_ret ?_
     change retQ _ _ _ _ _
     refine retQ_sel [] (srows := []) (.inr rfl) hC rfl rfl rfl rfl rfl rfl rfl ?_
     have hM := fun y => med1 ⟨hb1, hb2, hb3⟩ (by omega) ha2 ho1 ho2 y
     first
      | exact ⟨_, _, _, ⟨(hM y18).1, by omega⟩, rfl, rfl⟩
      | exact ⟨_, _, _, ⟨(hM y29).2.1, by omega⟩, rfl, rfl⟩
      | exact ⟨_, _, _, ⟨(hM 0).2.2.1, by omega⟩, rfl, rfl⟩
      | exact ⟨_, _, _, ⟨(hM 0).2.2.2, by omega⟩, rfl, rfl⟩
    ·refine sb_call 8 [0] hC rfl rfl (wnt_none rfl) Try.func59 rfl rfl rfl rfl rfl rfl rfl (one_sat (list := [_,_]) hc (by omega) (by simp) (by simp)) ?_
     rintro _ _ ⟨y18, hy18, rfl, rfl⟩
     refine ⟨Nat.le_of_ble_eq_true rfl, ⟨rfl, rfl, rfl, rfl⟩, .inl rfl, ?_⟩
     refine vb_stM ?_
     refine vb_light0 9 rfl rfl rfl (by kernel_rfl) (by kernel_rfl) (by kernel_rfl) (wnt_none rfl) (l0_build S37 rfl rfl) ?_
     refine vb_stM ?_
     refine vb_any2 5 10 (by kernel_rfl) ?_ ?_
     ·refine sb_extE 5 rfl (fun _ => rfl) (xt_load_take1 rfl rfl (by omega) Try.underlying63 rfl (attrs_at0 (by omega))) fun Rf15 => ?_
      refine vb_stM ?_
      refine vb_treeown 6 (by omega) rfl ?_
      refine vb_stM ?_
      refine vb_ext 10 rfl (by kernel_rfl) rfl (xt_buildSlice E63 rfl rfl rfl rfl) ?_
      refine vb_stM ?_
      refine vb_one 11 rfl (by kernel_rfl) rfl ?_
      refine vo_appendU E63 rfl (by omega) rfl rfl rfl sd sd fun Rt15 => ?_
      refine vo_stM ?_
      try simp only [app_ints, app_intss, app_bools, app_attrs3]
      refine vo_done ⟨rfl, ?_⟩
      refine vb_light0 12 rfl rfl rfl (by kernel_rfl) (by kernel_rfl) (by kernel_rfl) (wnt_none rfl) (l0_index_ref rfl rfl rfl E30.und inf63 sz63 sd sd) ?_
      try simp only [Int.toNat_natCast]
      refine vb_one 13 rfl (by kernel_rfl) rfl ?_
      refine vo_totree 6 rfl ((by first | exact plain_nilO _ | exact plain_nil1 | exact plain_attrs _ | exact plain_pairsX _)) ?_
      refine vo_stM ?_
      refine vo_weaktree 6 rfl ?_
      refine vo_stM ?_
      refine vo_put (p := .sl _ _ _) rfl rfl rfl rfl rfl rfl rfl hC rfl (by first | decide | (simp [refsOf]; done) | (simp [refsOf, SV.shift1, placeOf]; done)) inf63 sz63 sd ?_
      refine vo_stM ?_
      try simp only [List.set_set, set_attrss]
      refine vo_done ⟨rfl, ?_⟩
      refine vb_nil (by kernel_rfl) ?_
      refine hK3 _ ?_
      refine vc_seq fun K16 hK16 => ?_
      refine vc_region ?_
      refine vo_load_varG rfl rfl rfl Try.underlying33 rfl inf33 sz33 rfl ?_
      refine vo_stM ?_
      refine vo_store_varG rfl rfl rfl rfl inf33 sz33 rfl ?_
      refine vo_stM ?_
      refine vo_nil ?_
      refine hK16 _ ?_
      refine vc_treeown 2 (by omega) rfl ?_
      refine vc_stM ?_
      refine vc_expose 2 (by omega) rfl ?_
      refine vc_stM ?_
      refine vc_treeown 3 (by omega) rfl ?_
      refine vc_stM ?_
      refine vc_expose 3 (by omega) rfl ?_
      refine vc_stM ?_
      refine vc_ret ?_
      change retQ _ _ _ _ _
      refine retQ_sel [] (srows := []) (.inr rfl) hC rfl rfl rfl rfl rfl rfl rfl ?_
      have hM := fun y => med1 ⟨hb1, hb2, hb3⟩ (by omega) ha2 ho1 ho2 y
      first
       | exact ⟨_, _, _, ⟨(hM y18).1, by omega⟩, rfl, rfl⟩
       | exact ⟨_, _, _, ⟨(hM y29).2.1, by omega⟩, rfl, rfl⟩
       | exact ⟨_, _, _, ⟨(hM 0).2.2.1, by omega⟩, rfl, rfl⟩
       | exact ⟨_, _, _, ⟨(hM 0).2.2.2, by omega⟩, rfl, rfl⟩
     ·refine sb_ext 10 rfl rfl (xt_buildSlice E63 rfl rfl rfl rfl) ?_
      refine vb_stM ?_
      refine vb_any1 5 (by kernel_rfl) ?_
      refine sb_extE 5 rfl (fun _ => rfl) (xt_load_take1 rfl rfl (by omega) Try.underlying63 rfl (attrs_at0 (by omega))) fun Rf15 => ?_
      refine vb_stM ?_
      refine vb_treeown 7 (by omega) rfl ?_
      refine vb_stM ?_
      refine vb_one 11 rfl (by kernel_rfl) rfl ?_
      refine vo_appendU E63 rfl (by omega) rfl rfl rfl sd sd fun Rt16 => ?_
      refine vo_stM ?_
      try simp only [app_ints, app_intss, app_bools, app_attrs3]
      refine vo_done ⟨rfl, ?_⟩
      refine vb_light0 12 rfl rfl rfl (by kernel_rfl) (by kernel_rfl) (by kernel_rfl) (wnt_none rfl) (l0_index_ref rfl rfl rfl E30.und inf63 sz63 sd sd) ?_
      try simp only [Int.toNat_natCast]
      refine vb_one 13 rfl (by kernel_rfl) rfl ?_
      refine vo_totree 7 rfl ((by first | exact plain_nilO _ | exact plain_nil1 | exact plain_attrs _ | exact plain_pairsX _)) ?_
      refine vo_stM ?_
      refine vo_weaktree 7 rfl ?_
      refine vo_stM ?_
      refine vo_put (p := .sl _ _ _) rfl rfl rfl rfl rfl rfl rfl hC rfl (by first | decide | (simp [refsOf]; done) | (simp [refsOf, SV.shift1, placeOf]; done)) inf63 sz63 sd ?_
      refine vo_stM ?_
      try simp only [List.set_set, set_attrss]
      refine vo_done ⟨rfl, ?_⟩
      refine vb_nil (by kernel_rfl) ?_
      refine hK3 _ ?_
      refine vc_seq fun K17 hK17 => ?_
      refine vc_region ?_
      refine vo_load_varG rfl rfl rfl Try.underlying33 rfl inf33 sz33 rfl ?_
      refine vo_stM ?_
      refine vo_store_varG rfl rfl rfl rfl inf33 sz33 rfl ?_
      refine vo_stM ?_
      refine vo_nil ?_
      refine hK17 _ ?_
      refine vc_treeown 2 (by omega) rfl ?_
      refine vc_stM ?_
      refine vc_expose 2 (by omega) rfl ?_
      refine vc_stM ?_
      refine vc_treeown 3 (by omega) rfl ?_
      refine vc_stM ?_
      refine vc_expose 3 (by omega) rfl ?_
      refine vc_stM ?_
      refine vc_ret ?_
      change retQ _ _ _ _ _
      refine retQ_sel [] (srows := []) (.inr rfl) hC rfl rfl rfl rfl rfl rfl rfl ?_
      have hM := fun y => med1 ⟨hb1, hb2, hb3⟩ (by omega) ha2 ho1 ho2 y
      first
       | exact ⟨_, _, _, ⟨(hM y18).1, by omega⟩, rfl, rfl⟩
       | exact ⟨_, _, _, ⟨(hM y29).2.1, by omega⟩, rfl, rfl⟩
       | exact ⟨_, _, _, ⟨(hM 0).2.2.1, by omega⟩, rfl, rfl⟩
       | exact ⟨_, _, _, ⟨(hM 0).2.2.2, by omega⟩, rfl, rfl⟩
   ·refine sb_extE 5 rfl (fun _ => rfl) (xt_load_take1 rfl rfl (by omega) Try.underlying63 rfl (attrs_at0 (by omega))) fun Rf15 => ?_
    refine vb_stM ?_
    refine vb_treeown 6 (by omega) rfl ?_
    refine vb_stM ?_
    refine vb_any2 1 8 (by kernel_rfl) ?_ ?_
    ·refine sb_light 1 rfl rfl rfl (wnt_none rfl) (lb_load_var hC rfl rfl rfl rfl Try.underlying30 rfl rfl) ?_
     refine vb_any1 8 (by kernel_rfl) ?_
     refine sb_call 8 [0] hC rfl rfl (wnt_none rfl) Try.func59 rfl rfl rfl rfl rfl rfl rfl (one_sat (list := [_,_]) hc (by omega) (by simp) (by simp)) ?_
     rintro _ _ ⟨y18, hy18, rfl, rfl⟩
     refine ⟨Nat.le_of_ble_eq_true rfl, ⟨rfl, rfl, rfl, rfl⟩, .inl rfl, ?_⟩
     refine vb_stM ?_
     refine vb_light0 9 rfl rfl rfl (by kernel_rfl) (by kernel_rfl) (by kernel_rfl) (wnt_none rfl) (l0_build S37 rfl rfl) ?_
     refine vb_stM ?_
     refine vb_ext 10 rfl (by kernel_rfl) rfl (xt_buildSlice E63 rfl rfl rfl rfl) ?_
     refine vb_stM ?_
     refine vb_one 11 rfl (by kernel_rfl) rfl ?_
     refine vo_appendU E63 rfl (by omega) rfl rfl rfl sd sd fun Rt17 => ?_
     refine vo_stM ?_
     try simp only [app_ints, app_intss, app_bools, app_attrs3]
     refine vo_done ⟨rfl, ?_⟩
     refine vb_light0 12 rfl rfl rfl (by kernel_rfl) (by kernel_rfl) (by kernel_rfl) (wnt_none rfl) (l0_index_ref rfl rfl rfl E30.und inf63 sz63 sd sd) ?_
     try simp only [Int.toNat_natCast]
     refine vb_one 13 rfl (by kernel_rfl) rfl ?_
     refine vo_totree 6 rfl ((by first | exact plain_nilO _ | exact plain_nil1 | exact plain_attrs _ | exact plain_pairsX _)) ?_
     refine vo_stM ?_
     refine vo_weaktree 6 rfl ?_
     refine vo_stM ?_
     refine vo_put (p := .sl _ _ _) rfl rfl rfl rfl rfl rfl rfl hC rfl (by first | decide | (simp [refsOf]; done) | (simp [refsOf, SV.shift1, placeOf]; done)) inf63 sz63 sd ?_
     refine vo_stM ?_
     try simp only [List.set_set, set_attrss]
     refine vo_done ⟨rfl, ?_⟩
     refine vb_nil (by kernel_rfl) ?_
     refine hK3 _ ?_
     refine vc_seq fun K18 hK18 => ?_
     refine vc_region ?_
     refine vo_load_varG rfl rfl rfl Try.underlying33 rfl inf33 sz33 rfl ?_
     refine vo_stM ?_
     refine vo_store_varG rfl rfl rfl rfl inf33 sz33 rfl ?_
     refine vo_stM ?_
     refine vo_nil ?_
     refine hK18 _ ?_
     refine vc_treeown 2 (by omega) rfl ?_
     refine vc_stM ?_
     refine vc_expose 2 (by omega) rfl ?_
     refine vc_stM ?_
     refine vc_treeown 3 (by omega) rfl ?_
     refine vc_stM ?_
     refine vc_expose 3 (by omega) rfl ?_
     refine vc_stM ?_
     refine vc_ret ?_
     change retQ _ _ _ _ _
     refine retQ_sel [] (srows := []) (.inr rfl) hC rfl rfl rfl rfl rfl rfl rfl ?_
     have hM := fun y => med1 ⟨hb1, hb2, hb3⟩ (by omega) ha2 ho1 ho2 y
     first
      | exact ⟨_, _, _, ⟨(hM y18).1, by omega⟩, rfl, rfl⟩
      | exact ⟨_, _, _, ⟨(hM y29).2.1, by omega⟩, rfl, rfl⟩
      | exact ⟨_, _, _, ⟨(hM 0).2.2.1, by omega⟩, rfl, rfl⟩
      | exact ⟨_, _, _, ⟨(hM 0).2.2.2, by omega⟩, rfl, rfl⟩
    ·refine sb_call 8 [0] hC rfl rfl (wnt_none rfl) Try.func59 rfl rfl rfl rfl rfl rfl rfl (one_sat (list := [_,_]) hc (by omega) (by simp) (by simp)) ?_
     rintro _ _ ⟨y18, hy18, rfl, rfl⟩
     refine ⟨Nat.le_of_ble_eq_true rfl, ⟨rfl, rfl, rfl, rfl⟩, .inl rfl, ?_⟩
     refine vb_stM ?_
     refine vb_light0 9 rfl rfl rfl (by kernel_rfl) (by kernel_rfl) (by kernel_rfl) (wnt_none rfl) (l0_build S37 rfl rfl) ?_
     refine vb_stM ?_
     refine vb_any2 1 10 (by kernel_rfl) ?_ ?_
     ·refine sb_light 1 rfl rfl rfl (wnt_none rfl) (lb_load_var hC rfl rfl rfl rfl Try.underlying30 rfl rfl) ?_
      refine vb_ext 10 rfl (by kernel_rfl) rfl (xt_buildSlice E63 rfl rfl rfl rfl) ?_
      refine vb_stM ?_
      refine vb_one 11 rfl (by kernel_rfl) rfl ?_
      refine vo_appendU E63 rfl (by omega) rfl rfl rfl sd sd fun Rt18 => ?_
      refine vo_stM ?_
      try simp only [app_ints, app_intss, app_bools, app_attrs3]
      refine vo_done ⟨rfl, ?_⟩
      refine vb_light0 12 rfl rfl rfl (by kernel_rfl) (by kernel_rfl) (by kernel_rfl) (wnt_none rfl) (l0_index_ref rfl rfl rfl E30.und inf63 sz63 sd sd) ?_
      try simp only [Int.toNat_natCast]
      refine vb_one 13 rfl (by kernel_rfl) rfl ?_
      refine vo_totree 6 rfl ((by first | exact plain_nilO _ | exact plain_nil1 | exact plain_attrs _ | exact plain_pairsX _)) ?_
      refine vo_stM ?_
      refine vo_weaktree 6 rfl ?_
      refine vo_stM ?_
      refine vo_put (p := .sl _ _ _) rfl rfl rfl rfl rfl rfl rfl hC rfl (by first | decide | (simp [refsOf]; done) | (simp [refsOf, SV.shift1, placeOf]; done)) inf63 sz63 sd ?_
      refine vo_stM ?_
      try simp only [List.set_set, set_attrss]
      refine vo_done ⟨rfl, ?_⟩
      refine vb_nil (by kernel_rfl) ?_
      refine hK3 _ ?_
      refine vc_seq fun K19 hK19 => ?_
      refine vc_region ?_
      refine vo_load_varG rfl rfl rfl Try.underlying33 rfl inf33 sz33 rfl ?_
      refine vo_stM ?_
      refine vo_store_varG rfl rfl rfl rfl inf33 sz33 rfl ?_
      refine vo_stM ?_
      refine vo_nil ?_
      refine hK19 _ ?_
      refine vc_treeown 2 (by omega) rfl ?_
      refine vc_stM ?_
      refine vc_expose 2 (by omega) rfl ?_
      refine vc_stM ?_
      refine vc_treeown 3 (by omega) rfl ?_
      refine vc_stM ?_
      refine vc_expose 3 (by omega) rfl ?_
      refine vc_stM ?_
      refine vc_ret ?_
      change retQ _ _ _ _ _
      refine retQ_sel [] (srows := []) (.inr rfl) hC rfl rfl rfl rfl rfl rfl rfl ?_
      have hM := fun y => med1 ⟨hb1, hb2, hb3⟩ (by omega) ha2 ho1 ho2 y
      first
       | exact ⟨_, _, _, ⟨(hM y18).1, by omega⟩, rfl, rfl⟩
       | exact ⟨_, _, _, ⟨(hM y29).2.1, by omega⟩, rfl, rfl⟩
       | exact ⟨_, _, _, ⟨(hM 0).2.2.1, by omega⟩, rfl, rfl⟩
       | exact ⟨_, _, _, ⟨(hM 0).2.2.2, by omega⟩, rfl, rfl⟩
     ·refine sb_ext 10 rfl rfl (xt_buildSlice E63 rfl rfl rfl rfl) ?_
      refine vb_stM ?_
      refine vb_any2 1 11 (by kernel_rfl) ?_ ?_
      ·refine sb_light 1 rfl rfl rfl (wnt_none rfl) (lb_load_var hC rfl rfl rfl rfl Try.underlying30 rfl rfl) ?_
       refine vb_one 11 rfl (by kernel_rfl) rfl ?_
       refine vo_appendU E63 rfl (by omega) rfl rfl rfl sd sd fun Rt19 => ?_
       refine vo_stM ?_
       try simp only [app_ints, app_intss, app_bools, app_attrs3]
       refine vo_done ⟨rfl, ?_⟩
       refine vb_light0 12 rfl rfl rfl (by kernel_rfl) (by kernel_rfl) (by kernel_rfl) (wnt_none rfl) (l0_index_ref rfl rfl rfl E30.und inf63 sz63 sd sd) ?_
       try simp only [Int.toNat_natCast]
       refine vb_one 13 rfl (by kernel_rfl) rfl ?_
       refine vo_totree 6 rfl ((by first | exact plain_nilO _ | exact plain_nil1 | exact plain_attrs _ | exact plain_pairsX _)) ?_
       refine vo_stM ?_
       refine vo_weaktree 6 rfl ?_
       refine vo_stM ?_
       refine vo_put (p := .sl _ _ _) rfl rfl rfl rfl rfl rfl rfl hC rfl (by first | decide | (simp [refsOf]; done) | (simp [refsOf, SV.shift1, placeOf]; done)) inf63 sz63 sd ?_
       refine vo_stM ?_
       try simp only [List.set_set, set_attrss]
       refine vo_done ⟨rfl, ?_⟩
       refine vb_nil (by kernel_rfl) ?_
       refine hK3 _ ?_
       refine vc_seq fun K20 hK20 => ?_
       refine vc_region ?_
       refine vo_load_varG rfl rfl rfl Try.underlying33 rfl inf33 sz33 rfl ?_
       refine vo_stM ?_
       refine vo_store_varG rfl rfl rfl rfl inf33 sz33 rfl ?_
       refine vo_stM ?_
       refine vo_nil ?_
       refine hK20 _ ?_
       refine vc_treeown 2 (by omega) rfl ?_
       refine vc_stM ?_
       refine vc_expose 2 (by omega) rfl ?_
       refine vc_stM ?_
       refine vc_treeown 3 (by omega) rfl ?_
       refine vc_stM ?_
       refine vc_expose 3 (by omega) rfl ?_
       refine vc_stM ?_
       refine vc_ret ?_
       change retQ _ _ _ _ _
       refine retQ_sel [] (srows := []) (.inr rfl) hC rfl rfl rfl rfl rfl rfl rfl ?_
       have hM := fun y => med1 ⟨hb1, hb2, hb3⟩ (by omega) ha2 ho1 ho2 y
       first
        | exact ⟨_, _, _, ⟨(hM y18).1, by omega⟩, rfl, rfl⟩
        | exact ⟨_, _, _, ⟨(hM y29).2.1, by omega⟩, rfl, rfl⟩
        | exact ⟨_, _, _, ⟨(hM 0).2.2.1, by omega⟩, rfl, rfl⟩
        | exact ⟨_, _, _, ⟨(hM 0).2.2.2, by omega⟩, rfl, rfl⟩
      ·refine sb_one 11 rfl (by kernel_rfl) ?_
       refine vo_appendU E63 rfl (by omega) rfl rfl rfl sd sd fun Rt20 => ?_
       refine vo_stM ?_
       try simp only [app_ints, app_intss, app_bools, app_attrs3]
       refine vo_done ⟨rfl, ?_⟩
       refine vb_any1 1 (by kernel_rfl) ?_
       refine sb_light 1 rfl rfl rfl (wnt_none rfl) (lb_load_var hC rfl rfl rfl rfl Try.underlying30 rfl rfl) ?_
       refine vb_light0 12 rfl rfl rfl (by kernel_rfl) (by kernel_rfl) (by kernel_rfl) (wnt_none rfl) (l0_index_ref rfl rfl rfl E30.und inf63 sz63 sd sd) ?_
       try simp only [Int.toNat_natCast]
       refine vb_one 13 rfl (by kernel_rfl) rfl ?_
       refine vo_totree 6 rfl ((by first | exact plain_nilO _ | exact plain_nil1 | exact plain_attrs _ | exact plain_pairsX _)) ?_
       refine vo_stM ?_
       refine vo_weaktree 6 rfl ?_
       refine vo_stM ?_
       refine vo_put (p := .sl _ _ _) rfl rfl rfl rfl rfl rfl rfl hC rfl (by first | decide | (simp [refsOf]; done) | (simp [refsOf, SV.shift1, placeOf]; done)) inf63 sz63 sd ?_
       refine vo_stM ?_
       try simp only [List.set_set, set_attrss]
       refine vo_done ⟨rfl, ?_⟩
       refine vb_nil (by kernel_rfl) ?_
       refine hK3 _ ?_
       refine vc_seq fun K21 hK21 => ?_
       refine vc_region ?_
       refine vo_load_varG rfl rfl rfl Try.underlying33 rfl inf33 sz33 rfl ?_
       refine vo_stM ?_
       refine vo_store_varG rfl rfl rfl rfl inf33 sz33 rfl ?_
       refine vo_stM ?_
       refine vo_nil ?_
       refine hK21 _ ?_
       refine vc_treeown 2 (by omega) rfl ?_
       refine vc_stM ?_
       refine vc_expose 2 (by omega) rfl ?_
       refine vc_stM ?_
       refine vc_treeown 3 (by omega) rfl ?_
       refine vc_stM ?_
       refine vc_expose 3 (by omega) rfl ?_
       refine vc_stM ?_
       refine vc_ret ?_
       change retQ _ _ _ _ _
       refine retQ_sel [] (srows := []) (.inr rfl) hC rfl rfl rfl rfl rfl rfl rfl ?_
       have hM := fun y => med1 ⟨hb1, hb2, hb3⟩ (by omega) ha2 ho1 ho2 y
       first
        | exact ⟨_, _, _, ⟨(hM y18).1, by omega⟩, rfl, rfl⟩
        | exact ⟨_, _, _, ⟨(hM y29).2.1, by omega⟩, rfl, rfl⟩
        | exact ⟨_, _, _, ⟨(hM 0).2.2.1, by omega⟩, rfl, rfl⟩
        | exact ⟨_, _, _, ⟨(hM 0).2.2.2, by omega⟩, rfl, rfl⟩
   ·refine sb_call 8 [0] hC rfl rfl (wnt_none rfl) Try.func59 rfl rfl rfl rfl rfl rfl rfl (one_sat (list := [_,_]) hc (by omega) (by simp) (by simp)) ?_
    rintro _ _ ⟨y18, hy18, rfl, rfl⟩
    refine ⟨Nat.le_of_ble_eq_true rfl, ⟨rfl, rfl, rfl, rfl⟩, .inl rfl, ?_⟩
    refine vb_stM ?_
    refine vb_light0 9 rfl rfl rfl (by kernel_rfl) (by kernel_rfl) (by kernel_rfl) (wnt_none rfl) (l0_build S37 rfl rfl) ?_
    refine vb_stM ?_
    refine vb_any3 1 5 10 (by kernel_rfl) ?_ ?_ ?_
    ·refine sb_light 1 rfl rfl rfl (wnt_none rfl) (lb_load_var hC rfl rfl rfl rfl Try.underlying30 rfl rfl) ?_
     refine vb_any2 5 10 (by kernel_rfl) ?_ ?_
     ·refine sb_extE 5 rfl (fun _ => rfl) (xt_load_take1 rfl rfl (by omega) Try.underlying63 rfl (attrs_at0 (by omega))) fun Rf15 => ?_
      refine vb_stM ?_
      refine vb_treeown 6 (by omega) rfl ?_
      refine vb_stM ?_
      refine vb_ext 10 rfl (by kernel_rfl) rfl (xt_buildSlice E63 rfl rfl rfl rfl) ?_
      refine vb_stM ?_
      refine vb_one 11 rfl (by kernel_rfl) rfl ?_
      refine vo_appendU E63 rfl (by omega) rfl rfl rfl sd sd fun Rt21 => ?_
      refine vo_stM ?_
      try simp only [app_ints, app_intss, app_bools, app_attrs3]
      refine vo_done ⟨rfl, ?_⟩
      refine vb_light0 12 rfl rfl rfl (by kernel_rfl) (by kernel_rfl) (by kernel_rfl) (wnt_none rfl) (l0_index_ref rfl rfl rfl E30.und inf63 sz63 sd sd) ?_
      try simp only [Int.toNat_natCast]
      refine vb_one 13 rfl (by kernel_rfl) rfl ?_
      refine vo_totree 6 rfl ((by first | exact plain_nilO _ | exact plain_nil1 | exact plain_attrs _ | exact plain_pairsX _)) ?_
      refine vo_stM ?_
      refine vo_weaktree 6 rfl ?_
      refine vo_stM ?_
      refine vo_put (p := .sl _ _ _) rfl rfl rfl rfl rfl rfl rfl hC rfl (by first | decide | (simp [refsOf]; done) | (simp [refsOf, SV.shift1, placeOf]; done)) inf63 sz63 sd ?_
      refine vo_stM ?_
      try simp only [List.set_set, set_attrss]
      refine vo_done ⟨rfl, ?_⟩
      refine vb_nil (by kernel_rfl) ?_
      refine hK3 _ ?_
      refine vc_seq fun K22 hK22 => ?_
      refine vc_region ?_
      refine vo_load_varG rfl rfl rfl Try.underlying33 rfl inf33 sz33 rfl ?_
      refine vo_stM ?_
      refine vo_store_varG rfl rfl rfl rfl inf33 sz33 rfl ?_
      refine vo_stM ?_
      refine vo_nil ?_
      refine hK22 _ ?_
      refine vc_treeown 2 (by omega) rfl ?_
      refine vc_stM ?_
      refine vc_expose 2 (by omega) rfl ?_
      refine vc_stM ?_
      refine vc_treeown 3 (by omega) rfl ?_
      refine vc_stM ?_
      refine vc_expose 3 (by omega) rfl ?_
      refine vc_stM ?_
      refine vc_ret ?_
      change retQ _ _ _ _ _
      refine retQ_sel [] (srows := []) (.inr rfl) hC rfl rfl rfl rfl rfl rfl rfl ?_
      have hM := fun y => med1 ⟨hb1, hb2, hb3⟩ (by omega) ha2 ho1 ho2 y
      first
       | exact ⟨_, _, _, ⟨(hM y18).1, by omega⟩, rfl, rfl⟩
       | exact ⟨_, _, _, ⟨(hM y29).2.1, by omega⟩, rfl, rfl⟩
       | exact ⟨_, _, _, ⟨(hM 0).2.2.1, by omega⟩, rfl, rfl⟩
       | exact ⟨_, _, _, ⟨(hM 0).2.2.2, by omega⟩, rfl, rfl⟩
     ·refine sb_ext 10 rfl rfl (xt_buildSlice E63 rfl rfl rfl rfl) ?_
      refine vb_stM ?_
      refine vb_any1 5 (by kernel_rfl) ?_
      refine sb_extE 5 rfl (fun _ => rfl) (xt_load_take1 rfl rfl (by omega) Try.underlying63 rfl (attrs_at0 (by omega))) fun Rf15 => ?_
      refine vb_stM ?_
      refine vb_treeown 7 (by omega) rfl ?_
      refine vb_stM ?_
      refine vb_one 11 rfl (by kernel_rfl) rfl ?_
      refine vo_appendU E63 rfl (by omega) rfl rfl rfl sd sd fun Rt22 => ?_
      refine vo_stM ?_
      try simp only [app_ints, app_intss, app_bools, app_attrs3]
      refine vo_done ⟨rfl, ?_⟩
      refine vb_light0 12 rfl rfl rfl (by kernel_rfl) (by kernel_rfl) (by kernel_rfl) (wnt_none rfl) (l0_index_ref rfl rfl rfl E30.und inf63 sz63 sd sd) ?_
      try simp only [Int.toNat_natCast]
      refine vb_one 13 rfl (by kernel_rfl) rfl ?_
      refine vo_totree 7 rfl ((by first | exact plain_nilO _ | exact plain_nil1 | exact plain_attrs _ | exact plain_pairsX _)) ?_
      refine vo_stM ?_
      refine vo_weaktree 7 rfl ?_
      refine vo_stM ?_
      refine vo_put (p := .sl _ _ _) rfl rfl rfl rfl rfl rfl rfl hC rfl (by first | decide | (simp [refsOf]; done) | (simp [refsOf, SV.shift1, placeOf]; done)) inf63 sz63 sd ?_
      refine vo_stM ?_
      try simp only [List.set_set, set_attrss]
      refine vo_done ⟨rfl, ?_⟩
      refine vb_nil (by kernel_rfl) ?_
      refine hK3 _ ?_
      refine vc_seq fun K23 hK23 => ?_
      refine vc_region ?_
      refine vo_load_varG rfl rfl rfl Try.underlying33 rfl inf33 sz33 rfl ?_
      refine vo_stM ?_
      refine vo_store_varG rfl rfl rfl rfl inf33 sz33 rfl ?_
      refine vo_stM ?_
      refine vo_nil ?_
      refine hK23 _ ?_
      refine vc_treeown 2 (by omega) rfl ?_
      refine vc_stM ?_
      refine vc_expose 2 (by omega) rfl ?_
      refine vc_stM ?_
      refine vc_treeown 3 (by omega) rfl ?_
      refine vc_stM ?_
      refine vc_expose 3 (by omega) rfl ?_
      refine vc_stM ?_
      refine vc_ret ?_
      change retQ _ _ _ _ _
      refine retQ_sel [] (srows := []) (.inr rfl) hC rfl rfl rfl rfl rfl rfl rfl ?_
      have hM := fun y => med1 ⟨hb1, hb2, hb3⟩ (by omega) ha2 ho1 ho2 y
      first
       | exact ⟨_, _, _, ⟨(hM y18).1, by omega⟩, rfl, rfl⟩
       | exact ⟨_, _, _, ⟨(hM y29).2.1, by omega⟩, rfl, rfl⟩
       | exact ⟨_, _, _, ⟨(hM 0).2.2.1, by omega⟩, rfl, rfl⟩
       | exact ⟨_, _, _, ⟨(hM 0).2.2.2, by omega⟩, rfl, rfl⟩
    ·refine sb_extE 5 rfl (fun _ => rfl) (xt_load_take1 rfl rfl (by omega) Try.underlying63 rfl (attrs_at0 (by omega))) fun Rf15 => ?_
     refine vb_stM ?_
     refine vb_treeown 6 (by omega) rfl ?_
     refine vb_stM ?_
     refine vb_any2 1 10 (by kernel_rfl) ?_ ?_
     ·refine sb_light 1 rfl rfl rfl (wnt_none rfl) (lb_load_var hC rfl rfl rfl rfl Try.underlying30 rfl rfl) ?_
      refine vb_ext 10 rfl (by kernel_rfl) rfl (xt_buildSlice E63 rfl rfl rfl rfl) ?_
      refine vb_stM ?_
      refine vb_one 11 rfl (by kernel_rfl) rfl ?_
      refine vo_appendU E63 rfl (by omega) rfl rfl rfl sd sd fun Rt23 => ?_
      refine vo_stM ?_
      try simp only [app_ints, app_intss, app_bools, app_attrs3]
      refine vo_done ⟨rfl, ?_⟩
      refine vb_light0 12 rfl rfl rfl (by kernel_rfl) (by kernel_rfl) (by kernel_rfl) (wnt_none rfl) (l0_index_ref rfl rfl rfl E30.und inf63 sz63 sd sd) ?_
      try simp only [Int.toNat_natCast]
      refine vb_one 13 rfl (by kernel_rfl) rfl ?_
      refine vo_totree 6 rfl ((by first | exact plain_nilO _ | exact plain_nil1 | exact plain_attrs _ | exact plain_pairsX _)) ?_
      refine vo_stM ?_
      refine vo_weaktree 6 rfl ?_
      refine vo_stM ?_
      refine vo_put (p := .sl _ _ _) rfl rfl rfl rfl rfl rfl rfl hC rfl (by first | decide | (simp [refsOf]; done) | (simp [refsOf, SV.shift1, placeOf]; done)) inf63 sz63 sd ?_
      refine vo_stM ?_
      try simp only [List.set_set, set_attrss]
      refine vo_done ⟨rfl, ?_⟩
      refine vb_nil (by kernel_rfl) ?_
      refine hK3 _ ?_
      refine vc_seq fun K24 hK24 => ?_
      refine vc_region ?_
      refine vo_load_varG rfl rfl rfl Try.underlying33 rfl inf33 sz33 rfl ?_
      refine vo_stM ?_
      refine vo_store_varG rfl rfl rfl rfl inf33 sz33 rfl ?_
      refine vo_stM ?_
      refine vo_nil ?_
      refine hK24 _ ?_
      refine vc_treeown 2 (by omega) rfl ?_
      refine vc_stM ?_
      refine vc_expose 2 (by omega) rfl ?_
      refine vc_stM ?_
      refine vc_treeown 3 (by omega) rfl ?_
      refine vc_stM ?_
      refine vc_expose 3 (by omega) rfl ?_
      refine vc_stM ?_
      refine vc_ret ?_
      change retQ _ _ _ _ _
      refine retQ_sel [] (srows := []) (.inr rfl) hC rfl rfl rfl rfl rfl rfl rfl ?_
      have hM := fun y => med1 ⟨hb1, hb2, hb3⟩ (by omega) ha2 ho1 ho2 y
      first
       | exact ⟨_, _, _, ⟨(hM y18).1, by omega⟩, rfl, rfl⟩
       | exact ⟨_, _, _, ⟨(hM y29).2.1, by omega⟩, rfl, rfl⟩
       | exact ⟨_, _, _, ⟨(hM 0).2.2.1, by omega⟩, rfl, rfl⟩
       | exact ⟨_, _, _, ⟨(hM 0).2.2.2, by omega⟩, rfl, rfl⟩
     ·refine sb_ext 10 rfl rfl (xt_buildSlice E63 rfl rfl rfl rfl) ?_
      refine vb_stM ?_
      refine vb_any2 1 11 (by kernel_rfl) ?_ ?_
      ·refine sb_light 1 rfl rfl rfl (wnt_none rfl) (lb_load_var hC rfl rfl rfl rfl Try.underlying30 rfl rfl) ?_
       refine vb_one 11 rfl (by kernel_rfl) rfl ?_
       refine vo_appendU E63 rfl (by omega) rfl rfl rfl sd sd fun Rt24 => ?_
       refine vo_stM ?_
       try simp only [app_ints, app_intss, app_bools, app_attrs3]
       refine vo_done ⟨rfl, ?_⟩
       refine vb_light0 12 rfl rfl rfl (by kernel_rfl) (by kernel_rfl) (by kernel_rfl) (wnt_none rfl) (l0_index_ref rfl rfl rfl E30.und inf63 sz63 sd sd) ?_
       try simp only [Int.toNat_natCast]
       refine vb_one 13 rfl (by kernel_rfl) rfl ?_
       refine vo_totree 6 rfl ((by first | exact plain_nilO _ | exact plain_nil1 | exact plain_attrs _ | exact plain_pairsX _)) ?_
       refine vo_stM ?_
       refine vo_weaktree 6 rfl ?_
       refine vo_stM ?_
       refine vo_put (p := .sl _ _ _) rfl rfl rfl rfl rfl rfl rfl hC rfl (by first | decide | (simp [refsOf]; done) | (simp [refsOf, SV.shift1, placeOf]; done)) inf63 sz63 sd ?_
       refine vo_stM ?_
       try simp only [List.set_set, set_attrss]
       refine vo_done ⟨rfl, ?_⟩
       refine vb_nil (by kernel_rfl) ?_
       refine hK3 _ ?_
       refine vc_seq fun K25 hK25 => ?_
       refine vc_region ?_
       refine vo_load_varG rfl rfl rfl Try.underlying33 rfl inf33 sz33 rfl ?_
       refine vo_stM ?_
       refine vo_store_varG rfl rfl rfl rfl inf33 sz33 rfl ?_
       refine vo_stM ?_
       refine vo_nil ?_
       refine hK25 _ ?_
       refine vc_treeown 2 (by omega) rfl ?_
       refine vc_stM ?_
       refine vc_expose 2 (by omega) rfl ?_
       refine vc_stM ?_
       refine vc_treeown 3 (by omega) rfl ?_
       refine vc_stM ?_
       refine vc_expose 3 (by omega) rfl ?_
       refine vc_stM ?_
       refine vc_ret ?_
       change retQ _ _ _ _ _
       refine retQ_sel [] (srows := []) (.inr rfl) hC rfl rfl rfl rfl rfl rfl rfl ?_
       have hM := fun y => med1 ⟨hb1, hb2, hb3⟩ (by omega) ha2 ho1 ho2 y
       first
        | exact ⟨_, _, _, ⟨(hM y18).1, by omega⟩, rfl, rfl⟩
        | exact ⟨_, _, _, ⟨(hM y29).2.1, by omega⟩, rfl, rfl⟩
        | exact ⟨_, _, _, ⟨(hM 0).2.2.1, by omega⟩, rfl, rfl⟩
        | exact ⟨_, _, _, ⟨(hM 0).2.2.2, by omega⟩, rfl, rfl⟩
      ·refine sb_one 11 rfl (by kernel_rfl) ?_
       refine vo_appendU E63 rfl (by omega) rfl rfl rfl sd sd fun Rt25 => ?_
       refine vo_stM ?_
       try simp only [app_ints, app_intss, app_bools, app_attrs3]
       refine vo_done ⟨rfl, ?_⟩
       refine vb_any1 1 (by kernel_rfl) ?_
       refine sb_light 1 rfl rfl rfl (wnt_none rfl) (lb_load_var hC rfl rfl rfl rfl Try.underlying30 rfl rfl) ?_
       refine vb_light0 12 rfl rfl rfl (by kernel_rfl) (by kernel_rfl) (by kernel_rfl) (wnt_none rfl) (l0_index_ref rfl rfl rfl E30.und inf63 sz63 sd sd) ?_
       try simp only [Int.toNat_natCast]
       refine vb_one 13 rfl (by kernel_rfl) rfl ?_
       refine vo_totree 6 rfl ((by first | exact plain_nilO _ | exact plain_nil1 | exact plain_attrs _ | exact plain_pairsX _)) ?_
       refine vo_stM ?_
       refine vo_weaktree 6 rfl ?_
       refine vo_stM ?_
       refine vo_put (p := .sl _ _ _) rfl rfl rfl rfl rfl rfl rfl hC rfl (by first | decide | (simp [refsOf]; done) | (simp [refsOf, SV.shift1, placeOf]; done)) inf63 sz63 sd ?_
       refine vo_stM ?_
       try simp only [List.set_set, set_attrss]
       refine vo_done ⟨rfl, ?_⟩
       refine vb_nil (by kernel_rfl) ?_
       refine hK3 _ ?_
       refine vc_seq fun K26 hK26 => ?_
       refine vc_region ?_
       refine vo_load_varG rfl rfl rfl Try.underlying33 rfl inf33 sz33 rfl ?_
       refine vo_stM ?_
       refine vo_store_varG rfl rfl rfl rfl inf33 sz33 rfl ?_
       refine vo_stM ?_
       refine vo_nil ?_
       refine hK26 _ ?_
       refine vc_treeown 2 (by omega) rfl ?_
       refine vc_stM ?_
       refine vc_expose 2 (by omega) rfl ?_
       refine vc_stM ?_
       refine vc_treeown 3 (by omega) rfl ?_
       refine vc_stM ?_
       refine vc_expose 3 (by omega) rfl ?_
       refine vc_stM ?_
       refine vc_ret ?_
       change retQ _ _ _ _ _
       refine retQ_sel [] (srows := []) (.inr rfl) hC rfl rfl rfl rfl rfl rfl rfl ?_
       have hM := fun y => med1 ⟨hb1, hb2, hb3⟩ (by omega) ha2 ho1 ho2 y
       first
        | exact ⟨_, _, _, ⟨(hM y18).1, by omega⟩, rfl, rfl⟩
        | exact ⟨_, _, _, ⟨(hM y29).2.1, by omega⟩, rfl, rfl⟩
        | exact ⟨_, _, _, ⟨(hM 0).2.2.1, by omega⟩, rfl, rfl⟩
        | exact ⟨_, _, _, ⟨(hM 0).2.2.2, by omega⟩, rfl, rfl⟩
    ·refine sb_ext 10 rfl rfl (xt_buildSlice E63 rfl rfl rfl rfl) ?_
     refine vb_stM ?_
     refine vb_any2 1 5 (by kernel_rfl) ?_ ?_
     ·refine sb_light 1 rfl rfl rfl (wnt_none rfl) (lb_load_var hC rfl rfl rfl rfl Try.underlying30 rfl rfl) ?_
      refine vb_any1 5 (by kernel_rfl) ?_
      refine sb_extE 5 rfl (fun _ => rfl) (xt_load_take1 rfl rfl (by omega) Try.underlying63 rfl (attrs_at0 (by omega))) fun Rf15 => ?_
      refine vb_stM ?_
      refine vb_treeown 7 (by omega) rfl ?_
      refine vb_stM ?_
      refine vb_one 11 rfl (by kernel_rfl) rfl ?_
      refine vo_appendU E63 rfl (by omega) rfl rfl rfl sd sd fun Rt26 => ?_
      refine vo_stM ?_
      try simp only [app_ints, app_intss, app_bools, app_attrs3]
      refine vo_done ⟨rfl, ?_⟩
      refine vb_light0 12 rfl rfl rfl (by kernel_rfl) (by kernel_rfl) (by kernel_rfl) (wnt_none rfl) (l0_index_ref rfl rfl rfl E30.und inf63 sz63 sd sd) ?_
      try simp only [Int.toNat_natCast]
      refine vb_one 13 rfl (by kernel_rfl) rfl ?_
      refine vo_totree 7 rfl ((by first | exact plain_nilO _ | exact plain_nil1 | exact plain_attrs _ | exact plain_pairsX _)) ?_
      refine vo_stM ?_
      refine vo_weaktree 7 rfl ?_
      refine vo_stM ?_
      refine vo_put (p := .sl _ _ _) rfl rfl rfl rfl rfl rfl rfl hC rfl (by first | decide | (simp [refsOf]; done) | (simp [refsOf, SV.shift1, placeOf]; done)) inf63 sz63 sd ?_
      refine vo_stM ?_
      try simp only [List.set_set, set_attrss]
      refine vo_done ⟨rfl, ?_⟩
      refine vb_nil (by kernel_rfl) ?_
      refine hK3 _ ?_
      refine vc_seq fun K27 hK27 => ?_
      refine vc_region ?_
      refine vo_load_varG rfl rfl rfl Try.underlying33 rfl inf33 sz33 rfl ?_
      refine vo_stM ?_
      refine vo_store_varG rfl rfl rfl rfl inf33 sz33 rfl ?_
      refine vo_stM ?_
      refine vo_nil ?_
      refine hK27 _ ?_
      refine vc_treeown 2 (by omega) rfl ?_
      refine vc_stM ?_
      refine vc_expose 2 (by omega) rfl ?_
      refine vc_stM ?_
      refine vc_treeown 3 (by omega) rfl ?_
      refine vc_stM ?_
      refine vc_expose 3 (by omega) rfl ?_
      refine vc_stM ?_
      refine vc_ret ?_
      change retQ _ _ _ _ _
      refine retQ_sel [] (srows := []) (.inr rfl) hC rfl rfl rfl rfl rfl rfl rfl ?_
      have hM := fun y => med1 ⟨hb1, hb2, hb3⟩ (by omega) ha2 ho1 ho2 y
      first
       | exact ⟨_, _, _, ⟨(hM y18).1, by omega⟩, rfl, rfl⟩
       | exact ⟨_, _, _, ⟨(hM y29).2.1, by omega⟩, rfl, rfl⟩
       | exact ⟨_, _, _, ⟨(hM 0).2.2.1, by omega⟩, rfl, rfl⟩
       | exact ⟨_, _, _, ⟨(hM 0).2.2.2, by omega⟩, rfl, rfl⟩
     ·refine sb_extE 5 rfl (fun _ => rfl) (xt_load_take1 rfl rfl (by omega) Try.underlying63 rfl (attrs_at0 (by omega))) fun Rf15 => ?_
      refine vb_stM ?_
      refine vb_treeown 7 (by omega) rfl ?_
      refine vb_stM ?_
      refine vb_any2 1 11 (by kernel_rfl) ?_ ?_
      ·refine sb_light 1 rfl rfl rfl (wnt_none rfl) (lb_load_var hC rfl rfl rfl rfl Try.underlying30 rfl rfl) ?_
       refine vb_one 11 rfl (by kernel_rfl) rfl ?_
       refine vo_appendU E63 rfl (by omega) rfl rfl rfl sd sd fun Rt27 => ?_
       refine vo_stM ?_
       try simp only [app_ints, app_intss, app_bools, app_attrs3]
       refine vo_done ⟨rfl, ?_⟩
       refine vb_light0 12 rfl rfl rfl (by kernel_rfl) (by kernel_rfl) (by kernel_rfl) (wnt_none rfl) (l0_index_ref rfl rfl rfl E30.und inf63 sz63 sd sd) ?_
       try simp only [Int.toNat_natCast]
       refine vb_one 13 rfl (by kernel_rfl) rfl ?_
       refine vo_totree 7 rfl ((by first | exact plain_nilO _ | exact plain_nil1 | exact plain_attrs _ | exact plain_pairsX _)) ?_
       refine vo_stM ?_
       refine vo_weaktree 7 rfl ?_
       refine vo_stM ?_
       refine vo_put (p := .sl _ _ _) rfl rfl rfl rfl rfl rfl rfl hC rfl (by first | decide | (simp [refsOf]; done) | (simp [refsOf, SV.shift1, placeOf]; done)) inf63 sz63 sd ?_
       refine vo_stM ?_
       try simp only [List.set_set, set_attrss]
       refine vo_done ⟨rfl, ?_⟩
       refine vb_nil (by kernel_rfl) ?_
       refine hK3 _ ?_
       refine vc_seq fun K28 hK28 => ?_
       refine vc_region ?_
       refine vo_load_varG rfl rfl rfl Try.underlying33 rfl inf33 sz33 rfl ?_
       refine vo_stM ?_
       refine vo_store_varG rfl rfl rfl rfl inf33 sz33 rfl ?_
       refine vo_stM ?_
       refine vo_nil ?_
       refine hK28 _ ?_
       refine vc_treeown 2 (by omega) rfl ?_
       refine vc_stM ?_
       refine vc_expose 2 (by omega) rfl ?_
       refine vc_stM ?_
       refine vc_treeown 3 (by omega) rfl ?_
       refine vc_stM ?_
       refine vc_expose 3 (by omega) rfl ?_
       refine vc_stM ?_
       refine vc_ret ?_
       change retQ _ _ _ _ _
       refine retQ_sel [] (srows := []) (.inr rfl) hC rfl rfl rfl rfl rfl rfl rfl ?_
       have hM := fun y => med1 ⟨hb1, hb2, hb3⟩ (by omega) ha2 ho1 ho2 y
       first
        | exact ⟨_, _, _, ⟨(hM y18).1, by omega⟩, rfl, rfl⟩
        | exact ⟨_, _, _, ⟨(hM y29).2.1, by omega⟩, rfl, rfl⟩
        | exact ⟨_, _, _, ⟨(hM 0).2.2.1, by omega⟩, rfl, rfl⟩
        | exact ⟨_, _, _, ⟨(hM 0).2.2.2, by omega⟩, rfl, rfl⟩
      ·refine sb_one 11 rfl (by kernel_rfl) ?_
       refine vo_appendU E63 rfl (by omega) rfl rfl rfl sd sd fun Rt28 => ?_
       refine vo_stM ?_
       try simp only [app_ints, app_intss, app_bools, app_attrs3]
       refine vo_done ⟨rfl, ?_⟩
       refine vb_any1 1 (by kernel_rfl) ?_
       refine sb_light 1 rfl rfl rfl (wnt_none rfl) (lb_load_var hC rfl rfl rfl rfl Try.underlying30 rfl rfl) ?_
       refine vb_light0 12 rfl rfl rfl (by kernel_rfl) (by kernel_rfl) (by kernel_rfl) (wnt_none rfl) (l0_index_ref rfl rfl rfl E30.und inf63 sz63 sd sd) ?_
       try simp only [Int.toNat_natCast]
       refine vb_one 13 rfl (by kernel_rfl) rfl ?_
       refine vo_totree 7 rfl ((by first | exact plain_nilO _ | exact plain_nil1 | exact plain_attrs _ | exact plain_pairsX _)) ?_
       refine vo_stM ?_
       refine vo_weaktree 7 rfl ?_
       refine vo_stM ?_
       refine vo_put (p := .sl _ _ _) rfl rfl rfl rfl rfl rfl rfl hC rfl (by first | decide | (simp [refsOf]; done) | (simp [refsOf, SV.shift1, placeOf]; done)) inf63 sz63 sd ?_
       refine vo_stM ?_
       try simp only [List.set_set, set_attrss]
       refine vo_done ⟨rfl, ?_⟩
       refine vb_nil (by kernel_rfl) ?_
       refine hK3 _ ?_
       refine vc_seq fun K29 hK29 => ?_
       refine vc_region ?_
       refine vo_load_varG rfl rfl rfl Try.underlying33 rfl inf33 sz33 rfl ?_
       refine vo_stM ?_
       refine vo_store_varG rfl rfl rfl rfl inf33 sz33 rfl ?_
       refine vo_stM ?_
       refine vo_nil ?_
       refine hK29 _ ?_
       refine vc_treeown 2 (by omega) rfl ?_
       refine vc_stM ?_
       refine vc_expose 2 (by omega) rfl ?_
       refine vc_stM ?_
       refine vc_treeown 3 (by omega) rfl ?_
       refine vc_stM ?_
       refine vc_expose 3 (by omega) rfl ?_
       refine vc_stM ?_
       refine vc_ret ?_
       change retQ _ _ _ _ _
       refine retQ_sel [] (srows := []) (.inr rfl) hC rfl rfl rfl rfl rfl rfl rfl ?_
       have hM := fun y => med1 ⟨hb1, hb2, hb3⟩ (by omega) ha2 ho1 ho2 y
       first
        | exact ⟨_, _, _, ⟨(hM y18).1, by omega⟩, rfl, rfl⟩
        | exact ⟨_, _, _, ⟨(hM y29).2.1, by omega⟩, rfl, rfl⟩
        | exact ⟨_, _, _, ⟨(hM 0).2.2.1, by omega⟩, rfl, rfl⟩
        | exact ⟨_, _, _, ⟨(hM 0).2.2.2, by omega⟩, rfl, rfl⟩
 ·try simp only [zq0, zq1, zq2, zq3, zq4, zq5, zq6, zq7, zq8, zq9, zqa, zqb, zqc, zqd, zqe, zqf] at hc1
  refine vc_seq fun K30 hK30 => ?_
  refine vc_region ?_
  refine vo_binI rfl rfl rfl rfl trivial ?_
  refine vo_assign_pv rfl rfl ?_
  refine vo_nil ?_
  refine hK30 _ ?_
  refine vc_cond rfl (fun hc2 => ?_) (fun hc2 => ?_)
  ·try simp only [zq0, zq1, zq2, zq3, zq4, zq5, zq6, zq7, zq8, zq9, zqa, zqb, zqc, zqd, zqe, zqf] at hc2
   refine vc_drawB [7, 9] (by kernel_rfl) ?_
   change VLB [7, 9] _ _ _ 10 _ _ _
   refine vb_light0 0 rfl rfl rfl (by kernel_rfl) (by kernel_rfl) (by kernel_rfl) (wnt_none rfl) (l0_fieldAddr_ptr rfl Try.underlying33 rfl inf31 (by rw [sz31]; decide)) ?_
   try simp only [Nat.zero_add]
   refine vb_light 1 [0, 2, 3, 4, 5, 6] rfl rfl rfl (by kernel_rfl) (by kernel_rfl) (by kernel_rfl) (by kernel_rfl) (by kernel_rfl) (wnt_none rfl) (lb_load_var hC rfl rfl rfl rfl Try.underlying31 rfl rfl) ?_
   refine vb_light0 2 rfl rfl rfl (by kernel_rfl) (by kernel_rfl) (by kernel_rfl) (wnt_none rfl) (l0_move_ptr rfl) ?_
   refine vb_ext 3 rfl (by kernel_rfl) rfl (xt_buildSlice E49 rfl rfl rfl rfl) ?_
   refine vb_stM ?_
   refine vb_expose 5 (by omega) rfl ?_
   refine vb_stM ?_
   refine vb_weaken 28 rfl ?_
   refine vb_stM ?_
   refine vb_any1 4 (by kernel_rfl) ?_
   refine sb_call 4 [0] hC rfl rfl (wnt_none rfl) Try.func59 rfl rfl rfl rfl rfl rfl rfl (one_sat (list := [_,_]) hc (by omega) (by simp) (by simp)) ?_
   rintro _ _ ⟨y29, hy29, rfl, rfl⟩
   refine ⟨Nat.le_of_ble_eq_true rfl, ⟨rfl, rfl, rfl, rfl⟩, .inl rfl, ?_⟩
   refine vb_stM ?_
   refine vb_light0 5 rfl rfl rfl (by kernel_rfl) (by kernel_rfl) (by kernel_rfl) (wnt_none rfl) (l0_build S62n rfl rfl) ?_
   refine vb_stM ?_
   refine vb_ext 6 rfl (by kernel_rfl) rfl (xt_buildSlice E31 rfl rfl rfl rfl) ?_
   refine vb_stM ?_
   refine vb_one 7 rfl (by kernel_rfl) rfl ?_
   refine vo_totree 6 rfl ((by first | exact plain_nilO _ | exact plain_nil1 | exact plain_attrs _ | exact plain_pairsX _)) ?_
   refine vo_stM ?_
   refine vo_append_treeG E31 rfl (by omega) (by omega) rfl rfl rfl rfl rfl sd sd sd ?_
   refine vo_stM ?_
   try simp only [app_ints, app_intss, app_bools, app_attrs3]
   refine vo_nilcell 3 (W.objs.length) 1 2 (p' := .agg _) rfl (get_endP _ _ _) rfl rfl ?_
   refine vo_stM ?_
   try simp only [PV.cells, List.set_cons_succ, List.set_cons_zero, set_endO]
   refine vo_done ⟨rfl, ?_⟩
   refine vb_light0 8 rfl rfl rfl (by kernel_rfl) (by kernel_rfl) (by kernel_rfl) (wnt_none rfl) (l0_fieldAddr_ptr rfl Try.underlying33 rfl inf31 (by rw [sz31]; decide)) ?_
   try simp only [Nat.zero_add]
   refine vb_one 9 rfl (by kernel_rfl) rfl ?_
   refine vo_store_varG rfl rfl rfl rfl inf31 sz31 rfl ?_
   refine vo_stM ?_
   refine vo_done ⟨rfl, ?_⟩
   refine vb_nil (by kernel_rfl) ?_
   refine hK3 _ ?_
   refine vc_seq fun K31 hK31 => ?_
   refine vc_region ?_
   refine vo_load_varG rfl rfl rfl Try.underlying33 rfl inf33 sz33 rfl ?_
   refine vo_stM ?_
   refine vo_store_varG rfl rfl rfl rfl inf33 sz33 rfl ?_
   refine vo_stM ?_
   refine vo_nil ?_
   refine hK31 _ ?_
   refine vc_treeown 2 (by omega) rfl ?_
   refine vc_stM ?_
   refine vc_expose 2 (by omega) rfl ?_
   refine vc_stM ?_
   refine vc_treeown 3 (by omega) rfl ?_
   refine vc_stM ?_
   refine vc_expose 3 (by omega) rfl ?_
   refine vc_stM ?_
   refine vc_ret ?_
   change retQ _ _ _ _ _
   refine retQ_sel [] (srows := []) (.inr rfl) hC rfl rfl rfl rfl rfl rfl rfl ?_
   have hM := fun y => med1 ⟨hb1, hb2, hb3⟩ (by omega) ha2 ho1 ho2 y
   first
    | exact ⟨_, _, _, ⟨(hM y18).1, by omega⟩, rfl, rfl⟩
    | exact ⟨_, _, _, ⟨(hM y29).2.1, by omega⟩, rfl, rfl⟩
    | exact ⟨_, _, _, ⟨(hM 0).2.2.1, by omega⟩, rfl, rfl⟩
    | exact ⟨_, _, _, ⟨(hM 0).2.2.2, by omega⟩, rfl, rfl⟩
  ·try simp only [zq0, zq1, zq2, zq3, zq4, zq5, zq6, zq7, zq8, zq9, zqa, zqb, zqc, zqd, zqe, zqf] at hc2
   refine vc_seq fun K32 hK32 => ?_
   refine vc_region ?_
   refine vo_binI rfl rfl rfl rfl trivial ?_
   refine vo_assign_pv rfl rfl ?_
   refine vo_nil ?_
   refine hK32 _ ?_
   refine vc_cond rfl (fun hc3 => ?_) (fun hc3 => ?_)
   ·try simp only [zq0, zq1, zq2, zq3, zq4, zq5, zq6, zq7, zq8, zq9, zqa, zqb, zqc, zqd, zqe, zqf] at hc3
    refine vc_region ?_
    refine vo_fieldAddr_ptr rfl rfl Try.underlying33 rfl inf30 (by rw [sz30]; decide) ?_
    try simp only [Nat.zero_add]
    refine vo_load_var rfl rfl rfl Try.underlying30 rfl rfl ?_
    refine vo_buildSlice E30 rfl rfl rfl rfl rfl ?_
    refine vo_stM ?_
    refine vo_totree 5 rfl ((by first | exact plain_nilO _ | exact plain_nil1 | exact plain_attrs _ | exact plain_pairsX _)) ?_
    refine vo_stM ?_
    refine vo_append_treeG E30 rfl (by omega) (by omega) rfl rfl rfl rfl rfl sd sd sd ?_
    refine vo_stM ?_
    try simp only [app_ints, app_intss, app_bools, app_attrs3]
    refine vo_nilcell 2 (W.attrs.length) 0 3 (p' := .sl none 3 []) rfl (get_endP _ _ _) rfl rfl ?_
    refine vo_stM ?_
    try simp only [set_endA]
    refine vo_fieldAddr_ptr rfl rfl Try.underlying33 rfl inf30 (by rw [sz30]; decide) ?_
    try simp only [Nat.zero_add]
    refine vo_store_varG rfl rfl rfl rfl inf30 sz30 rfl ?_
    refine vo_stM ?_
    refine vo_nil ?_
    refine hK3 _ ?_
    refine vc_seq fun K33 hK33 => ?_
    refine vc_region ?_
    refine vo_load_varG rfl rfl rfl Try.underlying33 rfl inf33 sz33 rfl ?_
    refine vo_stM ?_
    refine vo_store_varG rfl rfl rfl rfl inf33 sz33 rfl ?_
    refine vo_stM ?_
    refine vo_nil ?_
    refine hK33 _ ?_
    refine vc_treeown 2 (by omega) rfl ?_
    refine vc_stM ?_
    refine vc_expose 2 (by omega) rfl ?_
    refine vc_stM ?_
    refine vc_treeown 3 (by omega) rfl ?_
    refine vc_stM ?_
    refine vc_expose 3 (by omega) rfl ?_
    refine vc_stM ?_
    refine vc_ret ?_
    change retQ _ _ _ _ _
    refine retQ_sel [] (srows := []) (.inr rfl) hC rfl rfl rfl rfl rfl rfl rfl ?_
    have hM := fun y => med1 ⟨hb1, hb2, hb3⟩ (by omega) ha2 ho1 ho2 y
    first
     | exact ⟨_, _, _, ⟨(hM y18).1, by omega⟩, rfl, rfl⟩
     | exact ⟨_, _, _, ⟨(hM y29).2.1, by omega⟩, rfl, rfl⟩
     | exact ⟨_, _, _, ⟨(hM 0).2.2.1, by omega⟩, rfl, rfl⟩
     | exact ⟨_, _, _, ⟨(hM 0).2.2.2, by omega⟩, rfl, rfl⟩
   ·try simp only [zq0, zq1, zq2, zq3, zq4, zq5, zq6, zq7, zq8, zq9, zqa, zqb, zqc, zqd, zqe, zqf] at hc3
    refine vc_skip ?_
    refine hK3 _ ?_
    refine vc_seq fun K34 hK34 => ?_
    refine vc_region ?_
    refine vo_load_varG rfl rfl rfl Try.underlying33 rfl inf33 sz33 rfl ?_
    refine vo_stM ?_
    refine vo_store_varG rfl rfl rfl rfl inf33 sz33 rfl ?_
    refine vo_stM ?_
    refine vo_nil ?_
    refine hK34 _ ?_
    refine vc_treeown 2 (by omega) rfl ?_
    refine vc_stM ?_
    refine vc_expose 2 (by omega) rfl ?_
    refine vc_stM ?_
    refine vc_treeown 3 (by omega) rfl ?_
    refine vc_stM ?_
    refine vc_expose 3 (by omega) rfl ?_
    refine vc_stM ?_
    refine vc_ret ?_
    change retQ _ _ _ _ _
    refine retQ_sel [] (srows := []) (.inr rfl) hC rfl rfl rfl rfl rfl rfl rfl ?_
    have hM := fun y => med1 ⟨hb1, hb2, hb3⟩ (by omega) ha2 ho1 ho2 y
    first
     | exact ⟨_, _, _, ⟨(hM y18).1, by omega⟩, rfl, rfl⟩
     | exact ⟨_, _, _, ⟨(hM y29).2.1, by omega⟩, rfl, rfl⟩
     | exact ⟨_, _, _, ⟨(hM 0).2.2.1, by omega⟩, rfl, rfl⟩
     | exact ⟨_, _, _, ⟨(hM 0).2.2.2, by omega⟩, rfl, rfl⟩

end Go.Vl

/- Arguments of which less is said: what a contract says of those holds of them. -/
namespace Go.Vl
set_option linter.unusedVariables false
set_option linter.unusedSimpArgs false
open Go.RowKit

mutual
def PV.wk : PV → PV
  | .sl _ e xs => .sl none e (PV.wks xs)
  | .agg cs => .agg (PV.wks cs)
  | p => p
def PV.wks : List PV → List PV
  | [] => []
  | x :: xs => x.wk :: PV.wks xs
end
theorem PV.wks_map : ∀ l : List PV, PV.wks l = l.map PV.wk
  | [] => by simp [PV.wks]
  | x :: l => by simp [PV.wks, PV.wks_map l]
theorem PV.wk_sl (nl : Option Bool) (e : Nat) (xs : List PV) : (PV.sl nl e xs).wk = .sl none e (xs.map PV.wk) := by simp [PV.wk, PV.wks_map]
theorem PV.wk_agg (cs : List PV) : (PV.agg cs).wk = .agg (cs.map PV.wk) := by simp [PV.wk, PV.wks_map]
theorem PV.wk_int (k : IntKind) (n : Int) : (PV.int k n).wk = .int k n := by simp [PV.wk]
theorem PV.wk_bool (b : Bool) : (PV.bool b).wk = .bool b := by simp [PV.wk]
theorem PV.wk_isAgg (p : PV) : p.wk.isAgg = p.isAgg := by cases p <;> simp [PV.wk, PV.isAgg]
theorem PV.wk_cells (p : PV) : p.wk.cells = p.cells.map PV.wk := by
  cases p <;> simp [PV.wk, PV.cells, PV.wks_map]
theorem PV.wk_fits {p : PV} {e : Nat} (h : p.fits e) : p.wk.fits e := by
  refine ⟨by rw [PV.wk_cells, List.length_map]; exact h.1, fun j c hc => ?_⟩
  rw [PV.wk_cells] at hc
  simp only [List.getElem?_map, Option.map_eq_some_iff] at hc
  obtain ⟨c', hc', rfl⟩ := hc
  rw [PV.wk_isAgg]; exact h.2 j c' hc'
theorem RP.wk {w : World} {G : Nat → Prop} {p : PV} {v : Value} (h : RP w G p v) : RP w G p.wk v := by
  induction h with
  | int k n => rw [PV.wk_int]; exact .int k n
  | bool b => rw [PV.wk_bool]; exact .bool b
  | str s => simp only [PV.wk]; exact .str s
  | nilsl nl e h => rw [PV.wk_sl]; exact .nilsl none e (by simp)
  | sl nl e xs a len cap f h hs hl hcap hg hw hc hr ih =>
    rw [PV.wk_sl]
    refine .sl none e _ a len cap f (by simp) (fun h => hs (by simpa using h)) (by simpa using hl) hcap (fun h => hg (by simpa using h)) (fun i x hx => ?_) (fun i x j c hx hcj => ?_) (fun i x j c hx hcj => ?_)
    · simp only [List.getElem?_map, Option.map_eq_some_iff] at hx
      obtain ⟨x', hx', rfl⟩ := hx
      exact PV.wk_fits (hw i x' hx')
    · simp only [List.getElem?_map, Option.map_eq_some_iff] at hx
      obtain ⟨x', hx', rfl⟩ := hx
      rw [PV.wk_cells] at hcj
      simp only [List.getElem?_map, Option.map_eq_some_iff] at hcj
      obtain ⟨c', hc', rfl⟩ := hcj
      exact hc i x' j c' hx' hc'
    · simp only [List.getElem?_map, Option.map_eq_some_iff] at hx
      obtain ⟨x', hx', rfl⟩ := hx
      rw [PV.wk_cells] at hcj
      simp only [List.getElem?_map, Option.map_eq_some_iff] at hcj
      obtain ⟨c', hc', rfl⟩ := hcj
      exact ih i x' j c' hx' hc'
  | agg cs vs hl h1 h ih =>
    rw [PV.wk_agg]
    refine .agg _ vs (by simpa using hl) (fun j c hc => ?_) (fun j c v hc hv => ?_)
    · simp only [List.getElem?_map, Option.map_eq_some_iff] at hc
      obtain ⟨c', hc', rfl⟩ := hc
      rw [PV.wk_isAgg]; exact h1 j c' hc'
    · simp only [List.getElem?_map, Option.map_eq_some_iff] at hc
      obtain ⟨c', hc', rfl⟩ := hc
      exact ih j c' v hc' hv
  | gone v h => simp only [PV.wk]; exact .gone v h
  | ifc t p v h ih => simp only [PV.wk]; exact .ifc t p v h
  | nilifc => simp only [PV.wk]; exact .nilifc
  | fn f cs us a g hl hp hg h1 hc hr => simp only [PV.wk]; exact .fn f cs us a g hl hp hg h1 hc hr

def SV.wk : SV → SV
  | .pv f p => .pv f p.wk
  | s => s

theorem SatAt.wk {P : Program} {f : FuncId} {args args2 : List SV} {rows : List Row} {R : List SV → List Row → Prop} (e : args.map SV.wk = args2) (h : SatAt P f args2 rows R) : SatAt P f args rows R := by
  subst e
  intro C m vals hnb hA hv hs
  refine h C m vals hnb hA (by simpa using hv) { hs with env := fun t => ?_ }
  have := hs.env t
  show RS _ _ _ _ (look (enumE 0 (args.map SV.wk)) t) _
  change RS _ _ _ _ (look (enumE 0 args) t) _ at this
  rw [look_enumE] at this ⊢
  simp only [Nat.zero_le, if_true, Nat.sub_zero, List.getElem?_map] at this ⊢
  cases ht : args[t]? with
  | none => rw [ht] at this; simpa using this
  | some x =>
    rw [ht] at this
    simp only [Option.getD_some, Option.map_some] at this ⊢
    generalize vals.getD t undef = v at this ⊢
    cases this with
    | pv fr p v hp => exact .pv _ _ _ hp.wk
    | any v => exact .any v
    | val u => exact .val _
    | und => exact .und
    | ref id h => exact .ref id h
    | ptr id e i o b hid h => exact .ptr id e i o b hid h
    | adr fr cs a f hs hg h1 hc hr => exact .adr fr cs a f hs hg h1 hc hr
    | tup vs us hl h => exact .tup vs us hl h
    | ag vs us hl h h1 => exact .ag vs us hl h h1
    | sub id e l h c v hid hs => exact .sub id e l h c _ hid hs
    | clo f ids us hl h => exact .clo f ids us hl h
end Go.Vl

/- '==' and '!=' on structs of three and four numbers. -/
namespace Go.Vl
set_option linter.unusedVariables false
set_option linter.unusedSimpArgs false
open Go.RowKit

/-- Structs of 3 numbers are compared number by number. -/
def EqI3 (P : Program) (T : TypeId) : Prop :=
  (∀ (x1 x2 x3 y1 y2 y3 : Int) (w : World), (Op.equalIn 10000 T (.agg #[.int .i64 x1, .int .i64 x2, .int .i64 x3]) (.agg #[.int .i64 y1, .int .i64 y2, .int .i64 y3])).run P w = .ok (x1 == y1 && x2 == y2 && x3 == y3) w) ∧ P.eqGuardType P.depth T = false

section
variable {P : Program} {C : Ctx} {Q : Go.Exit → St → Prop} {s : St} {ops : Array Oper} {rest : List Oper} {t : Nat} {ty : TypeId} {pos : String} {af : Array Edge}

end

/-- Structs of 4 numbers are compared number by number. -/
def EqI4 (P : Program) (T : TypeId) : Prop :=
  (∀ (x1 x2 x3 x4 y1 y2 y3 y4 : Int) (w : World), (Op.equalIn 10000 T (.agg #[.int .i64 x1, .int .i64 x2, .int .i64 x3, .int .i64 x4]) (.agg #[.int .i64 y1, .int .i64 y2, .int .i64 y3, .int .i64 y4])).run P w = .ok (x1 == y1 && x2 == y2 && x3 == y3 && x4 == y4) w) ∧ P.eqGuardType P.depth T = false

section
variable {P : Program} {C : Ctx} {Q : Go.Exit → St → Prop} {s : St} {ops : Array Oper} {rest : List Oper} {t : Nat} {ty : TypeId} {pos : String} {af : Array Edge}

end
end Go.Vl

/- An operation that makes memory, under a guard; 'make' in a statement whose order of evaluation is open. -/
namespace Go.Vl
set_option linter.unusedVariables false
set_option linter.unusedSimpArgs false
open Go.RowKit
section
variable {late : List Nat} {P : Program} {C : Ctx} {ops : Array Oper} {K : St → Prop} {s s1 : St} {n : Nat} {listed : Array Bool}
end
section
variable {P : Program} {C : Ctx} {s : St} {t : Nat} {ty : TypeId} {pos : String} {af : Array Edge}
end
end Go.Vl

namespace Go.Vl
set_option linter.unusedVariables false
set_option linter.unusedSimpArgs false
open Go.Proofs

theorem wk_ints (l : List (List Int)) : (l.map ints).map PV.wk = l.map ints := by
  rw [List.map_map]; refine List.map_congr_left fun x _ => ?_
  simp only [Function.comp, PV.wk_sl, List.map_map]
  congr 1
theorem askOf_sat {nl : Option Bool} {c : List (Fin 256)} {p : Nat} (hc : c.length ≤ 2000) (hp : p < 980000) : SatAt Try.prog 56 [.ptr 0 0 0 0] [rdr nl c p] (fun res rows => ∃ (W : WorldM) (q : Nat) (f : Bool) (z y : Int), (medW W ∧ q ≤ p + 430) ∧ res = [.pv f (worldP W), i64 z, i64 y] ∧ rows = [rdr nl c q]) := by
 refine sat_entry_G (rs := [(2, some (33, 3)), (3, none), (4, none)]) Try.func56 rfl rfl (Nat.le_of_ble_eq_true rfl) (Nat.le_of_ble_eq_true rfl) (resTs3 ⟨_, _, Try.underlying33, rfl, inf33, sz33⟩ trivial trivial) fun C hC => ?_
 rw [Try.ntmps56]
 replace hC : C.nb = 1 := hC
 refine vc_seq fun K1 hK1 => ?_
 refine vc_region ?_
 refine vo_alloc Z33 rfl ?_
 refine vo_stM ?_
 refine vo_assign_pv rfl rfl ?_
 refine vo_assign_pv rfl rfl ?_
 refine vo_nil ?_
 refine hK1 _ ?_
 refine vc_seq fun K2 hK2 => ?_
 refine vc_region ?_
 refine vo_move_ptr rfl rfl ?_
 refine vo_call [0] Try.func103 rfl rfl rfl rfl rfl rfl rfl (anyWorld_sat hc (by omega)) ?_
 rintro _ _ ⟨W, q, f, ⟨hW, hq⟩, rfl, rfl⟩
 refine ⟨Nat.le_of_ble_eq_true rfl, ⟨rfl, rfl, rfl, rfl⟩, .inl rfl, ?_⟩
 refine vo_stM ?_
 have hW2 := hW
 obtain ⟨⟨hb1, hb2, hb3⟩, ⟨hb4, hb5⟩, hb6, hb7⟩ := hW2
 refine vo_alloc Z33 rfl ?_
 refine vo_stM ?_
 refine vo_store_varS rfl rfl rfl inf33 sz33 rfl ?_
 refine vo_stM ?_
 refine vo_nil ?_
 refine hK2 _ ?_
 refine vc_seq fun K3 hK3 => ?_
 refine vc_drawBD [22] [0, 1, 2, 3, 4, 5, 6, 7, 8, 9, 10, 11, 12, 13, 14, 15, 16, 17, 18, 19, 20, 21, 22, 23, 24] [0, 1, 2, 3, 4, 5, 6, 7, 8, 9, 10, 11, 12, 13, 14, 15, 16, 17, 18, 19, 20, 21, 22, 23, 24] (by kernel_rfl) (by kernel_rfl) (by kernel_rfl) (by kernel_rfl) ?_
 change VLB [22] _ _ _ 25 _ _ _
 refine vb_light 0 [1, 2, 3, 4, 5, 6, 7, 8, 9, 10, 11, 12, 13, 14, 15, 16, 17, 18, 19, 20, 21] rfl rfl rfl (by kernel_rfl) (by kernel_rfl) (by kernel_rfl) (by kernel_rfl) (by kernel_rfl) (wnt_none rfl) (lb_load_varS hC rfl rfl rfl rfl Try.underlying33 rfl inf33 sz33 rfl rfl) ?_
 refine vb_light0 1 rfl rfl rfl (by kernel_rfl) (by kernel_rfl) (by kernel_rfl) (wnt_none rfl) (l0_move_ptr rfl) ?_
 refine vb_light0 2 rfl rfl rfl (by kernel_rfl) (by kernel_rfl) (by kernel_rfl) (wnt_none rfl) (l0_fieldAddr_ptr rfl Try.underlying33 rfl inf22 (by rw [sz22]; decide)) ?_
 try simp only [Nat.zero_add]
 refine vb_light 3 [0, 1, 2, 6, 7, 8, 9, 10, 11, 12, 13, 14, 17, 18] rfl rfl rfl (by kernel_rfl) (by kernel_rfl) (by kernel_rfl) (by kernel_rfl) (by kernel_rfl) (wnt_none rfl) (lb_load_var hC rfl rfl rfl rfl Try.underlying22 rfl rfl) ?_
 refine vb_light0 4 rfl rfl rfl (by kernel_rfl) (by kernel_rfl) (by kernel_rfl) (wnt_none rfl) (l0_len_pv rfl Try.underlying22) ?_
 refine vb_light0 5 rfl rfl rfl (by kernel_rfl) (by kernel_rfl) (by kernel_rfl) (wnt_none rfl) (l0_binI rfl rfl rfl sd) ?_
 refine vb_light0 6 rfl rfl rfl (by kernel_rfl) (by kernel_rfl) (by kernel_rfl) (wnt_none rfl) (l0_move_ptr rfl) ?_
 refine vb_light0 7 rfl rfl rfl (by kernel_rfl) (by kernel_rfl) (by kernel_rfl) (wnt_none rfl) (l0_fieldAddr_ptr rfl Try.underlying33 rfl inf22 (by rw [sz22]; decide)) ?_
 try simp only [Nat.zero_add]
 refine vb_light 8 [0, 1, 2, 3, 4, 5, 6, 7, 11, 12, 13, 14, 17, 18] rfl rfl rfl (by kernel_rfl) (by kernel_rfl) (by kernel_rfl) (by kernel_rfl) (by kernel_rfl) (wnt_none rfl) (lb_load_var hC rfl rfl rfl rfl Try.underlying22 rfl rfl) ?_
 refine vb_light0 9 rfl rfl rfl (by kernel_rfl) (by kernel_rfl) (by kernel_rfl) (wnt_none rfl) (l0_len_pv rfl Try.underlying22) ?_
 refine vb_light0 11 rfl rfl rfl (by kernel_rfl) (by kernel_rfl) (by kernel_rfl) (wnt_none rfl) (l0_fieldAddr_ptr rfl Try.underlying33 rfl inf22 (by rw [sz22]; decide)) ?_
 try simp only [Nat.zero_add]
 refine vb_light 12 [0, 1, 2, 3, 4, 5, 6, 7, 8, 9, 10, 11, 17, 18] rfl rfl rfl (by kernel_rfl) (by kernel_rfl) (by kernel_rfl) (by kernel_rfl) (by kernel_rfl) (wnt_none rfl) (lb_load_var hC rfl rfl rfl rfl Try.underlying22 rfl rfl) ?_
 refine vb_light0 13 rfl rfl rfl (by kernel_rfl) (by kernel_rfl) (by kernel_rfl) (wnt_none rfl) (l0_len_pv rfl Try.underlying22) ?_
 refine vb_light0 14 rfl rfl rfl (by kernel_rfl) (by kernel_rfl) (by kernel_rfl) (wnt_none rfl) (l0_binI rfl rfl rfl sd) ?_
 refine vb_light0 17 rfl rfl rfl (by kernel_rfl) (by kernel_rfl) (by kernel_rfl) (wnt_none rfl) (l0_move_ptr rfl) ?_
 refine vb_light0 18 rfl rfl rfl (by kernel_rfl) (by kernel_rfl) (by kernel_rfl) (wnt_none rfl) (l0_move_ptr rfl) ?_
 refine vb_any1 10 (by kernel_rfl) ?_
 refine sb_call 10 [0] hC rfl rfl (wnt_none rfl) Try.func58 rfl rfl rfl rfl rfl rfl rfl (pick_sat hc (by omega)) ?_
 rintro _ _ ⟨x18, ⟨hx180, hx181⟩, rfl, rfl⟩
 refine ⟨Nat.le_of_ble_eq_true rfl, ⟨rfl, rfl, rfl, rfl⟩, .inl rfl, ?_⟩
 refine vb_stM ?_
 refine vb_ext 15 rfl (by kernel_rfl) rfl (xt_buildSlice E49 rfl rfl rfl rfl) ?_
 refine vb_stM ?_
 refine vb_expose 3 (by omega) rfl ?_
 refine vb_stM ?_
 refine vb_weaken 23 rfl ?_
 refine vb_stM ?_
 refine vb_any1 16 (by kernel_rfl) ?_
 refine sb_call 16 [0] hC rfl rfl (wnt_none rfl) Try.func59 rfl rfl rfl rfl rfl rfl rfl (one_sat (list := [_,_,_,_,_]) hc (by omega) (by simp) (by simp)) ?_
 rintro _ _ ⟨y24, hy24, rfl, rfl⟩
 refine ⟨Nat.le_of_ble_eq_true rfl, ⟨rfl, rfl, rfl, rfl⟩, .inl rfl, ?_⟩
 refine vb_stM ?_
 refine vb_any1 19 (by kernel_rfl) ?_
 refine sb_call 19 [0] hC rfl rfl (wnt_none rfl) Try.func58 rfl rfl rfl rfl rfl rfl rfl (pick_sat hc (by omega)) ?_
 rintro _ _ ⟨x27, ⟨hx270, hx271⟩, rfl, rfl⟩
 refine ⟨Nat.le_of_ble_eq_true rfl, ⟨rfl, rfl, rfl, rfl⟩, .inl rfl, ?_⟩
 refine vb_stM ?_
 refine vb_ext 20 rfl (by kernel_rfl) rfl (xt_buildSlice E49 rfl rfl rfl rfl) ?_
 refine vb_stM ?_
 refine vb_expose 4 (by omega) rfl ?_
 refine vb_stM ?_
 refine vb_weaken 28 rfl ?_
 refine vb_stM ?_
 refine vb_any1 21 (by kernel_rfl) ?_
 refine sb_call 21 [0] hC rfl rfl (wnt_none rfl) Try.func59 rfl rfl rfl rfl rfl rfl rfl (one_sat (list := [_,_,_,_,_,_,_]) hc (by omega) (by simp) (by simp)) ?_
 rintro _ _ ⟨y29, hy29, rfl, rfl⟩
 refine ⟨Nat.le_of_ble_eq_true rfl, ⟨rfl, rfl, rfl, rfl⟩, .inl rfl, ?_⟩
 refine vb_stM ?_
 refine vb_one 22 rfl (by kernel_rfl) rfl ?_
 refine vo_store_varS rfl rfl rfl inf33 sz33 rfl ?_
 refine vo_stM ?_
 refine vo_done ⟨rfl, ?_⟩
 refine vb_light0 23 rfl rfl rfl (by kernel_rfl) (by kernel_rfl) (by kernel_rfl) (wnt_none rfl) (l0_assign_pv rfl) ?_
 refine vb_light0 24 rfl rfl rfl (by kernel_rfl) (by kernel_rfl) (by kernel_rfl) (wnt_none rfl) (l0_assign_pv rfl) ?_
 refine vb_nil (by kernel_rfl) ?_
 refine hK3 _ ?_
 refine vc_ret ?_
 change retQ _ _ _ _ _
 refine retQ_sel [] (srows := []) (.inr rfl) hC rfl rfl rfl rfl rfl rfl rfl ?_
 exact ⟨W, _, _, _, _, ⟨hW, by omega⟩, rfl, rfl⟩

end Go.Vl

namespace Go.Vl
set_option linter.unusedVariables false
set_option linter.unusedSimpArgs false
open Go.Proofs

end Go.Vl

namespace Go.Vl
set_option linter.unusedVariables false
set_option linter.unusedSimpArgs false
open Go.Proofs

end Go.Vl

namespace Go.Vl
set_option linter.unusedVariables false
set_option linter.unusedSimpArgs false
open Go.Proofs

end Go.Vl

namespace Go.Vl
set_option linter.unusedVariables false
set_option linter.unusedSimpArgs false
open Go.Proofs
end Go.Vl

namespace Go.Vl
set_option linter.unusedVariables false
set_option linter.unusedSimpArgs false
open Go.Proofs
theorem ordM_ne {b : List (List Int)} {c : Nat} (h : ordM b c ≠ []) : (∀ x ∈ b.getD c [], (ordT b c).getD x.toNat [] ≠ []) ∧ hds (mergeM (ordL (ordT b c) (b.getD c []) ++ [b.getD c []])).2 = [] ∧ ordM b c = (c : Int) :: (mergeM (ordL (ordT b c) (b.getD c []) ++ [b.getD c []])).1 := by
  have h1 : ∀ x ∈ b.getD c [], (ordT b c).getD x.toNat [] ≠ [] := by
    intro x hx e
    apply h
    unfold ordM ordS
    rw [if_pos ⟨x, hx, e⟩]
  by_cases h2 : hds (mergeM (ordL (ordT b c) (b.getD c []) ++ [b.getD c []])).2 = []
  · exact ⟨h1, h2, by rw [ordM_go h1, if_pos h2]⟩
  · exact (h (by rw [ordM_go h1, if_neg h2])).elim
end Go.Vl

namespace Go.Vl
set_option linter.unusedVariables false
set_option linter.unusedSimpArgs false
open Go.Proofs

end Go.Vl

namespace Go.Vl
set_option linter.unusedVariables false
set_option linter.unusedSimpArgs false
open Go.Proofs

theorem gbt {b : Bool} (h : b = true) : [bo b] = [bo true] := by rw [h]
end Go.Vl

namespace Go.Vl
set_option linter.unusedVariables false
set_option linter.unusedSimpArgs false
open Go.Proofs

end Go.Vl

namespace Go.Vl
set_option linter.unusedVariables false
set_option linter.unusedSimpArgs false
end Go.Vl

namespace Go.Vl
set_option linter.unusedVariables false
set_option linter.unusedSimpArgs false
open Go.Proofs

end Go.Vl

namespace Go.Vl
set_option linter.unusedVariables false
set_option linter.unusedSimpArgs false
open Go.Proofs

theorem wk_attrss (l : List (List AttrM)) : (l.map attrsP).map PV.wk = l.map attrsP := by
  rw [List.map_map]; refine List.map_congr_left fun x _ => ?_
  simp only [Function.comp, PV.wk_sl, List.map_map]
  congr 1
end Go.Vl

namespace Go.Vl
set_option linter.unusedVariables false
set_option linter.unusedSimpArgs false
open Go.Proofs

theorem bindO_owner (r : Int × AttrM) (x c : Int) : (bindO r x c).owner = if 0 ≤ r.1 then r.1 else -1 := by
  unfold bindO bindM none0
  repeat' split
  all_goals first | rfl | (exfalso; omega) | simp_all
theorem rst_head (c : Int) (r : List Int) : rstM (c :: r) c = r := by
  have e : findM c (c :: r) 0 = 0 := by simp [findM]
  unfold rstM; rw [e]; rfl
theorem ownrs_cons (A : List (List AttrM)) (n x : Int) (r : List Int) : ownrs A n (x :: r) = x :: ownrs A n r ∨ ownrs A n (x :: r) = ownrs A n r := by
  unfold ownrs; rw [List.filter_cons]; split
  · exact .inl rfl
  · exact .inr rfl
theorem hook_has {w : WorldM} {c : Int} (hv : hasC w c) : hasO ⟨w.bases, w.attrs, [⟨c, []⟩]⟩ 0 := by
  refine ⟨⟨hv.1.1, hv.1.2.1, by simp, hv.1.2.2.2.1, fun o ho => ?_⟩, by omega, by simp⟩
  rw [List.mem_singleton.1 ho]
  exact ⟨hv.2, by simp, by simp [nms], fun p hp => by cases hp⟩
theorem hook_super {w : WorldM} {c y : Int} (hv : hasC w c) : (superM ⟨w.bases, w.attrs, [⟨c, []⟩]⟩ 0 c y).owner = hookO w c y := by
  have hc : c.toNat < w.bases.length := by have := hv.2; omega
  unfold superM hookO
  rw [if_pos (hook_has hv), if_pos hv]
  show (bindO (fnd w.attrs y (rstM (ordM w.bases c.toNat) c)) 0 c).owner = _
  rw [bindO_owner, ownM_yes hv]
  have hn := (ordM_ok hv.1.1.1 c.toNat hc).1
  have h0 : ∀ x ∈ ordM w.bases c.toNat, 0 ≤ x := fun x hx => ((ordIn_of hv.1 hv.2.1 hv.2.2).2 x hx).1
  have e := (ordM_ne (hv.1.1.2 _ hc)).2.2
  rw [show ((c.toNat : Nat) : Int) = c by have := hv.2; omega] at e
  generalize (mergeM (ordL (ordT w.bases c.toNat) (w.bases.getD c.toNat []) ++ [w.bases.getD c.toNat []])).1 = r at e
  rw [e] at hn h0 ⊢
  rw [rst_head]
  have hcr : c ∉ ownrs w.attrs y r := fun h => (List.nodup_cons.1 hn).1 ((List.mem_filter.1 h).1)
  have e2 : hkO c (ownrs w.attrs y (c :: r)) = hkO c (ownrs w.attrs y r) := by
    rcases ownrs_cons w.attrs y c r with h | h
    · rw [h]; simp [hkO]
    · rw [h]
  rw [e2, hkO_notin hcr]
  cases h9 : ownrs w.attrs y r with
  | nil => rw [(fnd_ownrs _ _ _).1 h9]; rfl
  | cons x t =>
    have h8 := (fnd_ownrs _ _ _).2 x t h9
    rw [h8.1]
    have : 0 ≤ x := h0 x (List.mem_cons_of_mem _ h8.2.2)
    simp [this]
theorem hookN_yes {w : WorldM} {c : Int} (hv : hasC w c) : hookN w c = hkN (w.attrs.getD c.toNat []) := by unfold hookN; rw [if_pos hv]
theorem hkN_mem {l : List AttrM} {k : Nat} (h : k < l.length) (hp : (l.getD k ⟨0, 0, 0⟩).kind = 2 ∨ (l.getD k ⟨0, 0, 0⟩).kind = 3) : (l.getD k ⟨0, 0, 0⟩).name ∈ hkN l := by
  unfold hkN
  exact List.mem_map.2 ⟨_, List.mem_filter.2 ⟨getD_mem h _, by simpa using hp⟩, rfl⟩
theorem SW_one {w : WorldM} {o : Int} (h : SW w) : SW ⟨w.bases, w.attrs, [⟨o, []⟩]⟩ := ⟨h.1, h.2.1, by simp, fun p hp => by rw [List.mem_singleton.1 hp]; unfold SO; simp⟩

theorem DrawHooksOf_sat {nl : Option Bool} {c : List (Fin 256)} (hl : c.length < 1000000000) : SatAt Try.prog 26 [.pv false (.sl nl 1 (c.map byteP))] [] (fun res rows => ∃ (W : WorldM) (f : Bool) (z y : Int), medW W ∧ res = [.pv f (worldP W), i64 z, i64 y] ∧ rows = []) := by
 refine sat_entry_G (rs := [(2, some (33, 3)), (3, none), (4, none)]) Try.func26 rfl rfl (Nat.le_of_ble_eq_true rfl) (Nat.le_of_ble_eq_true rfl) (resTs3 ⟨_, _, Try.underlying33, rfl, inf33, sz33⟩ trivial trivial) fun C hC => ?_
 rw [Try.ntmps26]
 replace hC : C.nb = 0 := hC
 refine vc_seq fun K1 hK1 => ?_
 refine vc_region ?_
 refine vo_alloc Z33 rfl ?_
 refine vo_stM ?_
 refine vo_assign_pv rfl rfl ?_
 refine vo_assign_pv rfl rfl ?_
 refine vo_nil ?_
 refine hK1 _ ?_
 refine vc_seq fun K2 hK2 => ?_
 refine vc_region ?_
 refine vo_move_pv rfl rfl ?_
 refine vo_call [] Try.func55 rfl rfl rfl rfl rfl rfl rfl (newReader_sat (by omega)) ?_
 rintro _ _ ⟨nl2, c2, hc, rfl, rfl⟩
 refine ⟨Nat.le_of_ble_eq_true rfl, ⟨rfl, rfl, rfl, rfl⟩, .inl rfl, ?_⟩
 refine vo_stM ?_
 refine vo_call [1] Try.func56 rfl rfl rfl rfl rfl rfl rfl (askOf_sat hc (by omega)) ?_
 rintro _ _ ⟨W, q, f, z, y, ⟨hW, hq⟩, rfl, rfl⟩
 refine ⟨Nat.le_of_ble_eq_true rfl, ⟨rfl, rfl, rfl, rfl⟩, .inl rfl, ?_⟩
 refine vo_stM ?_
 refine vo_extract rfl rfl rfl ?_
 refine vo_extract rfl rfl rfl ?_
 refine vo_extract rfl rfl rfl ?_
 refine vo_store_varS rfl rfl rfl inf33 sz33 rfl ?_
 refine vo_stM ?_
 refine vo_assign_pv rfl rfl ?_
 refine vo_assign_pv rfl rfl ?_
 refine vo_nil ?_
 refine hK2 _ ?_
 refine vc_ret ?_
 change retQ _ _ _ _ _
 refine retQ_sel [] (srows := []) (.inr rfl) hC rfl rfl rfl rfl rfl rfl rfl ?_
 exact ⟨W, _, z, y, hW, rfl, rfl⟩

set_option maxHeartbeats 4000000 in
theorem FnHooksOf_sat {nl : Option Bool} {code : List (Fin 256)} : SatAt Try.prog 7 [.pv false (.sl nl 1 (code.map byteP))] [] (fun res rows => res = [bo true] ∧ rows = []) := by
 refine sat_entry_G (rs := [(2, none)]) Try.func7 rfl rfl (Nat.le_of_ble_eq_true rfl) (Nat.le_of_ble_eq_true rfl) (resTs1 trivial) fun C hC => ?_
 rw [Try.ntmps7]
 replace hC : C.nb = 0 := hC
 refine vc_seq fun K1 hK1 => ?_
 refine vc_region ?_
 refine vo_assign_pv rfl rfl ?_
 refine vo_nil ?_
 refine hK1 _ ?_
 refine vc_seq fun K2 hK2 => ?_
 refine vc_seq fun K3 hK3 => ?_
 refine vc_region ?_
 refine vo_move_pv rfl rfl ?_
 refine vo_len_pv rfl rfl Try.underlying44 ?_
 refine vo_binI rfl rfl rfl rfl trivial ?_
 refine vo_nil ?_
 refine hK3 _ ?_
 refine vc_cond rfl (fun hc1 => ?_) (fun hc1 => ?_)
 ·try simp only [zq0, zq1, zq2, zq3, zq4, zq5, zq6, zq7, zq8, zq9, zqa, zqb, zqc, zqd, zqe, zqf] at hc1
  refine vc_seq fun K4 hK4 => ?_
  refine vc_region ?_
  refine vo_assign_pv rfl rfl ?_
  refine vo_nil ?_
  refine hK4 _ ?_
  refine vc_ret ?_
  (try clear hK4); (try clear hK3); (try clear hK2); (try clear hK1)
  change retQ _ _ _ _ _
  refine retQ_sel [] (srows := []) (.inr rfl) hC rfl rfl rfl rfl rfl rfl rfl ?_
  first | exact ⟨rfl, rfl⟩ | (exfalso; simp_all; done) | (refine ⟨gbt ?_, rfl⟩; first | simp_all | (simp; omega))
 ·try simp only [zq0, zq1, zq2, zq3, zq4, zq5, zq6, zq7, zq8, zq9, zqa, zqb, zqc, zqd, zqe, zqf] at hc1
  refine vc_skip ?_
  refine hK2 _ ?_
  refine vc_seq fun K5 hK5 => ?_
  refine vc_region ?_
  refine vo_move_pv rfl rfl ?_
  refine vo_call0 Try.func26 rfl rfl rfl rfl (DrawHooksOf_sat (by omega)) ?_
  rintro _ _ ⟨W, f, z, y, hW, rfl, rfl⟩
  refine ⟨rfl, rfl, .inl rfl, ?_⟩
  refine vo_stM ?_
  have hW2 := hW
  obtain ⟨⟨hb1, hb2, hb3⟩, ⟨hb4, hb5⟩, hb6, hb7⟩ := hW2
  refine vo_move rfl ?_
  refine vo_stM ?_
  refine vo_extract rfl rfl rfl ?_
  refine vo_extract rfl rfl rfl ?_
  refine vo_extract rfl rfl rfl ?_
  refine vo_alloc Z33 rfl ?_
  refine vo_stM ?_
  refine vo_store_varS rfl rfl rfl inf33 sz33 rfl ?_
  refine vo_stM ?_
  refine vo_assign_pv rfl rfl ?_
  refine vo_assign_pv rfl rfl ?_
  refine vo_nil ?_
  refine hK5 _ ?_
  refine vc_seq fun K6 hK6 => ?_
  refine vc_region ?_
  refine vo_load_varS rfl rfl rfl Try.underlying33 rfl inf33 sz33 rfl rfl ?_
  refine vo_move_pv rfl rfl ?_
  refine vo_move_pv rfl rfl ?_
  refine vo_call [] Try.func27 rfl rfl rfl rfl rfl rfl rfl (hooksOwn_sat hW.sw) ?_
  rintro _ _ ⟨nlg, rfl, rfl⟩
  refine ⟨Nat.le_of_ble_eq_true rfl, ⟨rfl, rfl, rfl, rfl⟩, .inl rfl, ?_⟩
  refine vo_stM ?_
  refine vo_move rfl ?_
  refine vo_stM ?_
  refine vo_extract rfl rfl rfl ?_
  refine vo_extract rfl rfl rfl ?_
  refine vo_expose 1 (by omega) rfl ?_
  refine vo_stM ?_
  refine vo_weaken 27 rfl ?_
  refine vo_stM ?_
  refine vo_assign_pv rfl rfl ?_
  refine vo_assign_pv rfl rfl ?_
  refine vo_nil ?_
  refine hK6 _ ?_
  refine vc_seq fun K7 hK7 => ?_
  refine vc_region ?_
  refine vo_load_varS rfl rfl rfl Try.underlying33 rfl inf33 sz33 rfl rfl ?_
  refine vo_move_pv rfl rfl ?_
  refine vo_move_pv rfl rfl ?_
  refine vo_call0 Try.func28 rfl rfl rfl rfl (specHooksOf_sat hW.sw) ?_
  rintro _ _ ⟨nlp, rfl, rfl⟩
  refine ⟨rfl, rfl, .inl rfl, ?_⟩
  refine vo_stM ?_
  refine vo_move rfl ?_
  refine vo_stM ?_
  refine vo_extract rfl rfl rfl ?_
  refine vo_extract rfl rfl rfl ?_
  refine vo_assign_pv rfl rfl ?_
  refine vo_assign_pv rfl rfl ?_
  refine vo_nil ?_
  refine hK7 _ ?_
  refine vc_seq fun K8 hK8 => ?_
  refine vc_seq fun K9 hK9 => ?_
  refine vc_region ?_
  refine vo_move_pv rfl rfl ?_
  refine vo_move_pv rfl rfl ?_
  refine vo_call0 Try.func29 rfl rfl rfl rfl (equalInts_sat (a := hookN W z) (b := hookN W z) (by have := hookN_len (w := W) (c := z) hW.sw; omega) (by have := hookN_len (w := W) (c := z) hW.sw; omega)) ?_
  rintro _ _ ⟨rfl, rfl⟩
  refine ⟨rfl, rfl, .inl rfl, ?_⟩
  refine vo_stM ?_
  refine vo_not rfl rfl ?_
  refine vo_move_pv rfl rfl ?_
  refine vo_split 40 rfl (fun hg2 => ?_) (fun hg2 => ?_)
  ·try simp only [zq0, zq1, zq2, zq3, zq4, zq5, zq6, zq7, zq8, zq9, zqa, zqb, zqc, zqd, zqe, zqf] at hg2
   refine vo_guard_off rfl rfl rfl rfl rfl ?_
   refine vo_guard_off rfl rfl rfl rfl rfl ?_
   refine vo_guard_off rfl rfl rfl rfl rfl ?_
   refine vo_pick_t rfl rfl ?_
   refine vo_move_pv rfl rfl ?_
   refine vo_guard_off rfl rfl rfl rfl rfl ?_
   refine vo_guard_off rfl rfl rfl rfl rfl ?_
   refine vo_guard_off rfl rfl rfl rfl rfl ?_
   refine vo_pick_t rfl rfl ?_
   refine vo_move_pv rfl rfl ?_
   refine vo_guard_off rfl rfl rfl rfl rfl ?_
   refine vo_guard_off rfl rfl rfl rfl rfl ?_
   refine vo_pick_t rfl rfl ?_
   refine vo_move_pv rfl rfl ?_
   refine vo_guard_off rfl rfl rfl rfl rfl ?_
   refine vo_guard_off rfl rfl rfl rfl rfl ?_
   refine vo_guard_off rfl rfl rfl rfl rfl ?_
   refine vo_guard_off rfl rfl rfl rfl rfl ?_
   refine vo_guard_off rfl rfl rfl rfl rfl ?_
   refine vo_pick_t rfl rfl ?_
   refine vo_nil ?_
   refine hK9 _ ?_
   refine vc_cond_t rfl ?_
   refine vc_seq fun K10 hK10 => ?_
   refine vc_region ?_
   refine vo_move_pv rfl rfl ?_
   refine vo_move_pv rfl rfl ?_
   refine vo_call0 Try.func29 rfl rfl rfl rfl (equalInts_sat (a := hookN W z) (b := hookN W z) (by have := hookN_len (w := W) (c := z) hW.sw; omega) (by have := hookN_len (w := W) (c := z) hW.sw; omega)) ?_
   rintro _ _ ⟨rfl, rfl⟩
   refine ⟨rfl, rfl, .inl rfl, ?_⟩
   refine vo_stM ?_
   refine vo_move_pv rfl rfl ?_
   refine vo_split 64 rfl (fun hg3 => ?_) (fun hg3 => ?_)
   ·try simp only [zq0, zq1, zq2, zq3, zq4, zq5, zq6, zq7, zq8, zq9, zqa, zqb, zqc, zqd, zqe, zqf] at hg3
    refine vo_guard_on rfl rfl rfl ?_
    refine vo_move_pv rfl rfl ?_
    refine vo_guard_on rfl rfl rfl ?_
    refine vo_move_pv rfl rfl ?_
    refine vo_guard_on rfl rfl rfl ?_
    refine vo_binI rfl rfl rfl rfl trivial ?_
    refine vo_pick_t rfl rfl ?_
    refine vo_assign_pv rfl rfl ?_
    refine vo_nil ?_
    refine hK10 _ ?_
    refine vc_ret ?_
    (try clear hK10); (try clear hK9); (try clear hK8); (try clear hK7); (try clear hK6); (try clear hK5); (try clear hK4); (try clear hK3); (try clear hK2); (try clear hK1)
    change retQ _ _ _ _ _
    refine retQ_sel [] (srows := []) (.inr rfl) hC rfl rfl rfl rfl rfl rfl rfl ?_
    first | exact ⟨rfl, rfl⟩ | (exfalso; simp_all; done) | (refine ⟨gbt ?_, rfl⟩; first | simp_all | (simp; omega))
   ·try simp only [zq0, zq1, zq2, zq3, zq4, zq5, zq6, zq7, zq8, zq9, zqa, zqb, zqc, zqd, zqe, zqf] at hg3
    refine vo_guard_off rfl rfl rfl rfl rfl ?_
    refine vo_guard_off rfl rfl rfl rfl rfl ?_
    refine vo_guard_off rfl rfl rfl rfl rfl ?_
    refine vo_pick_f rfl rfl ?_
    refine vo_assign_pv rfl rfl ?_
    refine vo_nil ?_
    refine hK10 _ ?_
    refine vc_ret ?_
    (try clear hK10); (try clear hK9); (try clear hK8); (try clear hK7); (try clear hK6); (try clear hK5); (try clear hK4); (try clear hK3); (try clear hK2); (try clear hK1)
    change retQ _ _ _ _ _
    refine retQ_sel [] (srows := []) (.inr rfl) hC rfl rfl rfl rfl rfl rfl rfl ?_
    first | exact ⟨rfl, rfl⟩ | (exfalso; simp_all; done) | (refine ⟨gbt ?_, rfl⟩; first | simp_all | (simp; omega))
  ·try simp only [zq0, zq1, zq2, zq3, zq4, zq5, zq6, zq7, zq8, zq9, zqa, zqb, zqc, zqd, zqe, zqf] at hg2
   refine vo_guard_on rfl rfl rfl ?_
   refine vo_move_pv rfl rfl ?_
   refine vo_guard_on rfl rfl rfl ?_
   refine vo_move_pv rfl rfl ?_
   refine vo_guard_on rfl rfl rfl ?_
   refine vo_binI rfl rfl rfl rfl trivial ?_
   refine vo_pick_f rfl rfl ?_
   refine vo_move_pv rfl rfl ?_
   refine vo_split 45 rfl (fun hg4 => ?_) (fun hg4 => ?_)
   ·try simp only [zq0, zq1, zq2, zq3, zq4, zq5, zq6, zq7, zq8, zq9, zqa, zqb, zqc, zqd, zqe, zqf] at hg4
    refine vo_guard_off rfl rfl rfl rfl rfl ?_
    refine vo_guard_off rfl rfl rfl rfl rfl ?_
    refine vo_guard_off rfl rfl rfl rfl rfl ?_
    refine vo_pick_t rfl rfl ?_
    refine vo_move_pv rfl rfl ?_
    refine vo_guard_off rfl rfl rfl rfl rfl ?_
    refine vo_guard_off rfl rfl rfl rfl rfl ?_
    refine vo_pick_t rfl rfl ?_
    refine vo_move_pv rfl rfl ?_
    refine vo_guard_off rfl rfl rfl rfl rfl ?_
    refine vo_guard_off rfl rfl rfl rfl rfl ?_
    refine vo_guard_off rfl rfl rfl rfl rfl ?_
    refine vo_guard_off rfl rfl rfl rfl rfl ?_
    refine vo_guard_off rfl rfl rfl rfl rfl ?_
    refine vo_pick_t rfl rfl ?_
    refine vo_nil ?_
    refine hK9 _ ?_
    refine vc_cond_t rfl ?_
    refine vc_seq fun K11 hK11 => ?_
    refine vc_region ?_
    refine vo_move_pv rfl rfl ?_
    refine vo_move_pv rfl rfl ?_
    refine vo_call0 Try.func29 rfl rfl rfl rfl (equalInts_sat (a := hookN W z) (b := hookN W z) (by have := hookN_len (w := W) (c := z) hW.sw; omega) (by have := hookN_len (w := W) (c := z) hW.sw; omega)) ?_
    rintro _ _ ⟨rfl, rfl⟩
    refine ⟨rfl, rfl, .inl rfl, ?_⟩
    refine vo_stM ?_
    refine vo_move_pv rfl rfl ?_
    refine vo_split 64 rfl (fun hg5 => ?_) (fun hg5 => ?_)
    ·try simp only [zq0, zq1, zq2, zq3, zq4, zq5, zq6, zq7, zq8, zq9, zqa, zqb, zqc, zqd, zqe, zqf] at hg5
     refine vo_guard_on rfl rfl rfl ?_
     refine vo_move_pv rfl rfl ?_
     refine vo_guard_on rfl rfl rfl ?_
     refine vo_move_pv rfl rfl ?_
     refine vo_guard_on rfl rfl rfl ?_
     refine vo_binI rfl rfl rfl rfl trivial ?_
     refine vo_pick_t rfl rfl ?_
     refine vo_assign_pv rfl rfl ?_
     refine vo_nil ?_
     refine hK11 _ ?_
     refine vc_ret ?_
     (try clear hK11); (try clear hK10); (try clear hK9); (try clear hK8); (try clear hK7); (try clear hK6); (try clear hK5); (try clear hK4); (try clear hK3); (try clear hK2); (try clear hK1)
     change retQ _ _ _ _ _
     refine retQ_sel [] (srows := []) (.inr rfl) hC rfl rfl rfl rfl rfl rfl rfl ?_
     first | exact ⟨rfl, rfl⟩ | (exfalso; simp_all; done) | (refine ⟨gbt ?_, rfl⟩; first | simp_all | (simp; omega))
    ·try simp only [zq0, zq1, zq2, zq3, zq4, zq5, zq6, zq7, zq8, zq9, zqa, zqb, zqc, zqd, zqe, zqf] at hg5
     refine vo_guard_off rfl rfl rfl rfl rfl ?_
     refine vo_guard_off rfl rfl rfl rfl rfl ?_
     refine vo_guard_off rfl rfl rfl rfl rfl ?_
     refine vo_pick_f rfl rfl ?_
     refine vo_assign_pv rfl rfl ?_
     refine vo_nil ?_
     refine hK11 _ ?_
     refine vc_ret ?_
     (try clear hK11); (try clear hK10); (try clear hK9); (try clear hK8); (try clear hK7); (try clear hK6); (try clear hK5); (try clear hK4); (try clear hK3); (try clear hK2); (try clear hK1)
     change retQ _ _ _ _ _
     refine retQ_sel [] (srows := []) (.inr rfl) hC rfl rfl rfl rfl rfl rfl rfl ?_
     first | exact ⟨rfl, rfl⟩ | (exfalso; simp_all; done) | (refine ⟨gbt ?_, rfl⟩; first | simp_all | (simp; omega))
   ·try simp only [zq0, zq1, zq2, zq3, zq4, zq5, zq6, zq7, zq8, zq9, zqa, zqb, zqc, zqd, zqe, zqf] at hg4
    refine vo_guard_on rfl rfl rfl ?_
    refine vo_load_varS rfl rfl rfl Try.underlying33 rfl inf33 sz33 rfl rfl ?_
    refine vo_guard_on rfl rfl rfl ?_
    refine vo_call0 Try.func24 rfl rfl rfl rfl (implValidWorld_sat hW.sw) ?_
    rintro _ _ ⟨rfl, rfl⟩
    refine ⟨rfl, rfl, .inl rfl, ?_⟩
    refine vo_stM ?_
    refine vo_guard_on rfl rfl rfl ?_
    refine vo_not rfl rfl ?_
    refine vo_pick_f rfl rfl ?_
    refine vo_move_pv rfl rfl ?_
    refine vo_split 50 rfl (fun hg6 => ?_) (fun hg6 => ?_)
    ·try simp only [zq0, zq1, zq2, zq3, zq4, zq5, zq6, zq7, zq8, zq9, zqa, zqb, zqc, zqd, zqe, zqf] at hg6
     refine vo_guard_off rfl rfl rfl rfl rfl ?_
     refine vo_guard_off rfl rfl rfl rfl rfl ?_
     refine vo_pick_t rfl rfl ?_
     refine vo_move_pv rfl rfl ?_
     refine vo_guard_off rfl rfl rfl rfl rfl ?_
     refine vo_guard_off rfl rfl rfl rfl rfl ?_
     refine vo_guard_off rfl rfl rfl rfl rfl ?_
     refine vo_guard_off rfl rfl rfl rfl rfl ?_
     refine vo_guard_off rfl rfl rfl rfl rfl ?_
     refine vo_pick_t rfl rfl ?_
     refine vo_nil ?_
     refine hK9 _ ?_
     refine vc_cond_t rfl ?_
     refine vc_seq fun K12 hK12 => ?_
     refine vc_region ?_
     refine vo_move_pv rfl rfl ?_
     refine vo_move_pv rfl rfl ?_
     refine vo_call0 Try.func29 rfl rfl rfl rfl (equalInts_sat (a := hookN W z) (b := hookN W z) (by have := hookN_len (w := W) (c := z) hW.sw; omega) (by have := hookN_len (w := W) (c := z) hW.sw; omega)) ?_
     rintro _ _ ⟨rfl, rfl⟩
     refine ⟨rfl, rfl, .inl rfl, ?_⟩
     refine vo_stM ?_
     refine vo_move_pv rfl rfl ?_
     refine vo_split 64 rfl (fun hg7 => ?_) (fun hg7 => ?_)
     ·try simp only [zq0, zq1, zq2, zq3, zq4, zq5, zq6, zq7, zq8, zq9, zqa, zqb, zqc, zqd, zqe, zqf] at hg7
      refine vo_guard_on rfl rfl rfl ?_
      refine vo_move_pv rfl rfl ?_
      refine vo_guard_on rfl rfl rfl ?_
      refine vo_move_pv rfl rfl ?_
      refine vo_guard_on rfl rfl rfl ?_
      refine vo_binI rfl rfl rfl rfl trivial ?_
      refine vo_pick_t rfl rfl ?_
      refine vo_assign_pv rfl rfl ?_
      refine vo_nil ?_
      refine hK12 _ ?_
      refine vc_ret ?_
      (try clear hK12); (try clear hK11); (try clear hK10); (try clear hK9); (try clear hK8); (try clear hK7); (try clear hK6); (try clear hK5); (try clear hK4); (try clear hK3); (try clear hK2); (try clear hK1)
      change retQ _ _ _ _ _
      refine retQ_sel [] (srows := []) (.inr rfl) hC rfl rfl rfl rfl rfl rfl rfl ?_
      first | exact ⟨rfl, rfl⟩ | (exfalso; simp_all; done) | (refine ⟨gbt ?_, rfl⟩; first | simp_all | (simp; omega))
     ·try simp only [zq0, zq1, zq2, zq3, zq4, zq5, zq6, zq7, zq8, zq9, zqa, zqb, zqc, zqd, zqe, zqf] at hg7
      refine vo_guard_off rfl rfl rfl rfl rfl ?_
      refine vo_guard_off rfl rfl rfl rfl rfl ?_
      refine vo_guard_off rfl rfl rfl rfl rfl ?_
      refine vo_pick_f rfl rfl ?_
      refine vo_assign_pv rfl rfl ?_
      refine vo_nil ?_
      refine hK12 _ ?_
      refine vc_ret ?_
      (try clear hK12); (try clear hK11); (try clear hK10); (try clear hK9); (try clear hK8); (try clear hK7); (try clear hK6); (try clear hK5); (try clear hK4); (try clear hK3); (try clear hK2); (try clear hK1)
      change retQ _ _ _ _ _
      refine retQ_sel [] (srows := []) (.inr rfl) hC rfl rfl rfl rfl rfl rfl rfl ?_
      first | exact ⟨rfl, rfl⟩ | (exfalso; simp_all; done) | (refine ⟨gbt ?_, rfl⟩; first | simp_all | (simp; omega))
    ·try simp only [zq0, zq1, zq2, zq3, zq4, zq5, zq6, zq7, zq8, zq9, zqa, zqb, zqc, zqd, zqe, zqf] at hg6
     refine vo_guard_on rfl rfl rfl ?_
     refine vo_move_pv rfl rfl ?_
     refine vo_guard_on rfl rfl rfl ?_
     refine vo_binI rfl rfl rfl rfl trivial ?_
     refine vo_pick_f rfl rfl ?_
     refine vo_move_pv rfl rfl ?_
     refine vo_split 54 rfl (fun hg8 => ?_) (fun hg8 => ?_)
     ·try simp only [zq0, zq1, zq2, zq3, zq4, zq5, zq6, zq7, zq8, zq9, zqa, zqb, zqc, zqd, zqe, zqf] at hg8
      refine vo_guard_off rfl rfl rfl rfl rfl ?_
      refine vo_guard_off rfl rfl rfl rfl rfl ?_
      refine vo_guard_off rfl rfl rfl rfl rfl ?_
      refine vo_guard_off rfl rfl rfl rfl rfl ?_
      refine vo_guard_off rfl rfl rfl rfl rfl ?_
      refine vo_pick_t rfl rfl ?_
      refine vo_nil ?_
      refine hK9 _ ?_
      refine vc_cond_t rfl ?_
      refine vc_seq fun K13 hK13 => ?_
      refine vc_region ?_
      refine vo_move_pv rfl rfl ?_
      refine vo_move_pv rfl rfl ?_
      refine vo_call0 Try.func29 rfl rfl rfl rfl (equalInts_sat (a := hookN W z) (b := hookN W z) (by have := hookN_len (w := W) (c := z) hW.sw; omega) (by have := hookN_len (w := W) (c := z) hW.sw; omega)) ?_
      rintro _ _ ⟨rfl, rfl⟩
      refine ⟨rfl, rfl, .inl rfl, ?_⟩
      refine vo_stM ?_
      refine vo_move_pv rfl rfl ?_
      refine vo_split 64 rfl (fun hg9 => ?_) (fun hg9 => ?_)
      ·try simp only [zq0, zq1, zq2, zq3, zq4, zq5, zq6, zq7, zq8, zq9, zqa, zqb, zqc, zqd, zqe, zqf] at hg9
       refine vo_guard_on rfl rfl rfl ?_
       refine vo_move_pv rfl rfl ?_
       refine vo_guard_on rfl rfl rfl ?_
       refine vo_move_pv rfl rfl ?_
       refine vo_guard_on rfl rfl rfl ?_
       refine vo_binI rfl rfl rfl rfl trivial ?_
       refine vo_pick_t rfl rfl ?_
       refine vo_assign_pv rfl rfl ?_
       refine vo_nil ?_
       refine hK13 _ ?_
       refine vc_ret ?_
       (try clear hK13); (try clear hK12); (try clear hK11); (try clear hK10); (try clear hK9); (try clear hK8); (try clear hK7); (try clear hK6); (try clear hK5); (try clear hK4); (try clear hK3); (try clear hK2); (try clear hK1)
       change retQ _ _ _ _ _
       refine retQ_sel [] (srows := []) (.inr rfl) hC rfl rfl rfl rfl rfl rfl rfl ?_
       first | exact ⟨rfl, rfl⟩ | (exfalso; simp_all; done) | (refine ⟨gbt ?_, rfl⟩; first | simp_all | (simp; omega))
      ·try simp only [zq0, zq1, zq2, zq3, zq4, zq5, zq6, zq7, zq8, zq9, zqa, zqb, zqc, zqd, zqe, zqf] at hg9
       refine vo_guard_off rfl rfl rfl rfl rfl ?_
       refine vo_guard_off rfl rfl rfl rfl rfl ?_
       refine vo_guard_off rfl rfl rfl rfl rfl ?_
       refine vo_pick_f rfl rfl ?_
       refine vo_assign_pv rfl rfl ?_
       refine vo_nil ?_
       refine hK13 _ ?_
       refine vc_ret ?_
       (try clear hK13); (try clear hK12); (try clear hK11); (try clear hK10); (try clear hK9); (try clear hK8); (try clear hK7); (try clear hK6); (try clear hK5); (try clear hK4); (try clear hK3); (try clear hK2); (try clear hK1)
       change retQ _ _ _ _ _
       refine retQ_sel [] (srows := []) (.inr rfl) hC rfl rfl rfl rfl rfl rfl rfl ?_
       first | exact ⟨rfl, rfl⟩ | (exfalso; simp_all; done) | (refine ⟨gbt ?_, rfl⟩; first | simp_all | (simp; omega))
     ·try simp only [zq0, zq1, zq2, zq3, zq4, zq5, zq6, zq7, zq8, zq9, zqa, zqb, zqc, zqd, zqe, zqf] at hg8
      refine vo_guard_on rfl rfl rfl ?_
      refine vo_move_pv rfl rfl ?_
      refine vo_guard_on rfl rfl rfl ?_
      refine vo_fieldAddr_ptr rfl rfl Try.underlying33 rfl inf22 (by rw [sz22]; decide) ?_
      try simp only [Nat.zero_add]
      refine vo_guard_on rfl rfl rfl ?_
      refine vo_load_var rfl rfl rfl Try.underlying22 rfl rfl ?_
      refine vo_guard_on rfl rfl rfl ?_
      refine vo_len_pv rfl rfl Try.underlying22 ?_
      refine vo_guard_on rfl rfl rfl ?_
      refine vo_binI rfl rfl rfl rfl trivial ?_
      refine vo_pick_f rfl rfl ?_
      refine vo_nil ?_
      refine hK9 _ ?_
      refine vc_cond rfl (fun hc10 => ?_) (fun hc10 => ?_)
      ·try simp only [zq0, zq1, zq2, zq3, zq4, zq5, zq6, zq7, zq8, zq9, zqa, zqb, zqc, zqd, zqe, zqf] at hc10
       refine vc_seq fun K14 hK14 => ?_
       refine vc_region ?_
       refine vo_move_pv rfl rfl ?_
       refine vo_move_pv rfl rfl ?_
       refine vo_call0 Try.func29 rfl rfl rfl rfl (equalInts_sat (a := hookN W z) (b := hookN W z) (by have := hookN_len (w := W) (c := z) hW.sw; omega) (by have := hookN_len (w := W) (c := z) hW.sw; omega)) ?_
       rintro _ _ ⟨rfl, rfl⟩
       refine ⟨rfl, rfl, .inl rfl, ?_⟩
       refine vo_stM ?_
       refine vo_move_pv rfl rfl ?_
       refine vo_split 64 rfl (fun hg11 => ?_) (fun hg11 => ?_)
       ·try simp only [zq0, zq1, zq2, zq3, zq4, zq5, zq6, zq7, zq8, zq9, zqa, zqb, zqc, zqd, zqe, zqf] at hg11
        refine vo_guard_on rfl rfl rfl ?_
        refine vo_move_pv rfl rfl ?_
        refine vo_guard_on rfl rfl rfl ?_
        refine vo_move_pv rfl rfl ?_
        refine vo_guard_on rfl rfl rfl ?_
        refine vo_binI rfl rfl rfl rfl trivial ?_
        refine vo_pick_t rfl rfl ?_
        refine vo_assign_pv rfl rfl ?_
        refine vo_nil ?_
        refine hK14 _ ?_
        refine vc_ret ?_
        (try clear hK14); (try clear hK13); (try clear hK12); (try clear hK11); (try clear hK10); (try clear hK9); (try clear hK8); (try clear hK7); (try clear hK6); (try clear hK5); (try clear hK4); (try clear hK3); (try clear hK2); (try clear hK1)
        change retQ _ _ _ _ _
        refine retQ_sel [] (srows := []) (.inr rfl) hC rfl rfl rfl rfl rfl rfl rfl ?_
        first | exact ⟨rfl, rfl⟩ | (exfalso; simp_all; done) | (refine ⟨gbt ?_, rfl⟩; first | simp_all | (simp; omega))
       ·try simp only [zq0, zq1, zq2, zq3, zq4, zq5, zq6, zq7, zq8, zq9, zqa, zqb, zqc, zqd, zqe, zqf] at hg11
        refine vo_guard_off rfl rfl rfl rfl rfl ?_
        refine vo_guard_off rfl rfl rfl rfl rfl ?_
        refine vo_guard_off rfl rfl rfl rfl rfl ?_
        refine vo_pick_f rfl rfl ?_
        refine vo_assign_pv rfl rfl ?_
        refine vo_nil ?_
        refine hK14 _ ?_
        refine vc_ret ?_
        (try clear hK14); (try clear hK13); (try clear hK12); (try clear hK11); (try clear hK10); (try clear hK9); (try clear hK8); (try clear hK7); (try clear hK6); (try clear hK5); (try clear hK4); (try clear hK3); (try clear hK2); (try clear hK1)
        change retQ _ _ _ _ _
        refine retQ_sel [] (srows := []) (.inr rfl) hC rfl rfl rfl rfl rfl rfl rfl ?_
        first | exact ⟨rfl, rfl⟩ | (exfalso; simp_all; done) | (refine ⟨gbt ?_, rfl⟩; first | simp_all | (simp; omega))
      ·try simp only [zq0, zq1, zq2, zq3, zq4, zq5, zq6, zq7, zq8, zq9, zqa, zqb, zqc, zqd, zqe, zqf] at hc10
       have hv : hasC W z := ⟨by assumption, by omega, by omega⟩
       have hca := hv.1.2.1
       have hsu := hook_super (y := y) hv
       have hna := hookN_yes hv
       have hak : (W.attrs.getD z.toNat []).length ≤ 4 := hb5 _ (getD_mem (by omega) _)
       have hnl := hkN_len (W.attrs.getD z.toNat [])
       refine vc_skip ?_
       refine hK8 _ ?_
       refine vc_seq fun K15 hK15 => ?_
       refine vc_region ?_
       refine vo_fieldAddr_ptr rfl rfl Try.underlying33 rfl inf22 (by rw [sz22]; decide) ?_
       try simp only [Nat.zero_add]
       refine vo_load_var rfl rfl rfl Try.underlying22 rfl rfl ?_
       refine vo_fieldAddr_ptr rfl rfl Try.underlying33 rfl inf30 (by rw [sz30]; decide) ?_
       try simp only [Nat.zero_add]
       refine vo_load_var rfl rfl rfl Try.underlying30 rfl rfl ?_
       refine vo_move_pv rfl rfl ?_
       refine vo_build S62 rfl rfl rfl ?_
       refine vo_stM ?_
       refine vo_buildSlice E31 rfl rfl rfl rfl rfl ?_
       refine vo_stM ?_
       refine vo_expose 2 (by omega) rfl ?_
       refine vo_stM ?_
       refine vo_weaken 75 rfl ?_
       refine vo_stM ?_
       refine vo_build S33 rfl rfl rfl ?_
       refine vo_stM ?_
       refine vo_alloc Z33 rfl ?_
       refine vo_stM ?_
       refine vo_store_varS rfl rfl rfl inf33 sz33 rfl ?_
       refine vo_stM ?_
       refine vo_nil ?_
       refine hK15 _ ?_
       refine vc_seq fun K16 hK16 => ?_
       refine vc_region ?_
       refine vo_assign_pv rfl rfl ?_
       refine vo_nil ?_
       refine hK16 _ ?_
       refine vc_seq fun K17 hK17 => ?_
       refine vc_seq fun K18 hK18 => ?_
       refine vc_region ?_
       refine vo_assign_pv rfl rfl ?_
       refine vo_nil ?_
       refine hK18 _ ?_
       refine vc_block ?_
       refine vc_stM ?_
       refine vc_loopE [3, 4, 5, 6, 7, 10] [11, 12] [] _ _ (fun mz vs rs => ∃ (i : Nat) (n : Int), mz = (W.attrs.getD z.toNat []).length - i ∧ (i ≤ (W.attrs.getD z.toNat []).length) ∧ (n = ((hkN ((W.attrs.getD z.toNat []).take i)).length : Nat)) ∧ vs = [i64 n, i64 i] ∧ rs = []) ((W.attrs.getD z.toNat []).length) rfl rfl (le_len hC rfl) ⟨rfl, rfl, rfl⟩ rfl ⟨0, 0, rfl, (Nat.zero_le _), rfl, rfl, rfl⟩ ?_
       rintro mz vs rs - - ⟨i, n, rfl, hi, hn, rfl, rfl⟩
       refine vc_stM ?_
       refine vc_seq fun K19 hK19 => ?_
       refine vc_seq fun K20 hK20 => ?_
       refine vc_region ?_
       refine vo_move_pv rfl rfl ?_
       refine vo_fieldAddr_ptr rfl rfl Try.underlying33 rfl inf30 (by rw [sz30]; decide) ?_
       try simp only [Nat.zero_add]
       refine vo_load_var rfl rfl rfl Try.underlying30 rfl rfl ?_
       refine vo_move_pv rfl rfl ?_
       refine vo_index_pv (.sl none 3 []) rfl rfl rfl E30.und inf63 sz63 sd sd ?_
       simp only [Int.toNat_natCast, Int.toNat_zero, getD_ints, getD_intss, getD_bools, getD_bytes, PV.cells, getD_ops, getD_pairs, getD_insts, getD_attrs, getD_attrss, getD_objs, getD_ordP]
       refine vo_load_adr rfl rfl Try.underlying63 rfl ?_
       refine vo_len_pv rfl rfl Try.underlying63 ?_
       refine vo_binI rfl rfl rfl rfl trivial ?_
       refine vo_nil ?_
       refine hK20 _ ?_
       refine vc_cond rfl (fun hc12 => ?_) (fun hc12 => ?_)
       ·try simp only [zq0, zq1, zq2, zq3, zq4, zq5, zq6, zq7, zq8, zq9, zqa, zqb, zqc, zqd, zqe, zqf] at hc12
        have hkl := hkN_len ((W.attrs.getD z.toNat []).take i)
        rw [List.length_take] at hkl
        refine vc_skip ?_
        refine hK19 _ ?_
        refine vc_seq fun K21 hK21 => ?_
        refine vc_block ?_
        refine vc_seq fun K22 hK22 => ?_
        refine vc_region ?_
        refine vo_fieldAddr_ptr rfl rfl Try.underlying33 rfl inf30 (by rw [sz30]; decide) ?_
        try simp only [Nat.zero_add]
        refine vo_load_var rfl rfl rfl Try.underlying30 rfl rfl ?_
        refine vo_move_pv rfl rfl ?_
        refine vo_index_pv (.sl none 3 []) rfl rfl rfl E30.und inf63 sz63 sd sd ?_
        simp only [Int.toNat_natCast, Int.toNat_zero, getD_ints, getD_intss, getD_bools, getD_bytes, PV.cells, getD_ops, getD_pairs, getD_insts, getD_attrs, getD_attrss, getD_objs, getD_ordP]
        refine vo_load_adr rfl rfl Try.underlying63 rfl ?_
        refine vo_move_pv rfl rfl ?_
        refine vo_index_pv (.agg [(.int .i64 0), (.int .i64 0), (.int .i64 0)]) rfl rfl rfl E63.und inf37 sz37 sd sd ?_
        simp only [Int.toNat_natCast, Int.toNat_zero, getD_ints, getD_intss, getD_bools, getD_bytes, PV.cells, getD_ops, getD_pairs, getD_insts, getD_attrs, getD_attrss, getD_objs, getD_ordP]
        refine vo_fieldAddr_adr rfl rfl Try.underlying37 rfl inf3 (by rw [sz3]; decide) ?_
        refine vo_load_adr rfl rfl Try.underlying3 rfl ?_
        refine vo_binI rfl rfl rfl rfl trivial ?_
        refine vo_move_pv rfl rfl ?_
        refine vo_split 97 rfl (fun hg13 => ?_) (fun hg13 => ?_)
        ·try simp only [zq0, zq1, zq2, zq3, zq4, zq5, zq6, zq7, zq8, zq9, zqa, zqb, zqc, zqd, zqe, zqf] at hg13
         refine vo_guard_off rfl rfl rfl rfl rfl ?_
         refine vo_guard_off rfl rfl rfl rfl rfl ?_
         refine vo_guard_off rfl rfl rfl rfl rfl ?_
         refine vo_guard_off rfl rfl rfl rfl rfl ?_
         refine vo_guard_off rfl rfl rfl rfl rfl ?_
         refine vo_guard_off rfl rfl rfl rfl rfl ?_
         refine vo_guard_off rfl rfl rfl rfl rfl ?_
         refine vo_guard_off rfl rfl rfl rfl rfl ?_
         refine vo_guard_off rfl rfl rfl rfl rfl ?_
         refine vo_guard_off rfl rfl rfl rfl rfl ?_
         refine vo_pick_t rfl rfl ?_
         refine vo_nil ?_
         refine hK22 _ ?_
         refine vc_cond_t rfl ?_
         refine vc_seq fun K23 hK23 => ?_
         refine vc_region ?_
         refine vo_move_pv rfl rfl ?_
         refine vo_binI rfl rfl rfl rfl sd ?_
         refine vo_assign_pv rfl rfl ?_
         refine vo_nil ?_
         refine hK23 _ ?_
         refine vc_seq fun K24 hK24 => ?_
         refine vc_region ?_
         refine vo_move_pv rfl rfl ?_
         refine vo_fieldAddr_ptr rfl rfl Try.underlying33 rfl inf30 (by rw [sz30]; decide) ?_
         try simp only [Nat.zero_add]
         refine vo_load_var rfl rfl rfl Try.underlying30 rfl rfl ?_
         refine vo_move_pv rfl rfl ?_
         refine vo_index_pv (.sl none 3 []) rfl rfl rfl E30.und inf63 sz63 sd sd ?_
         simp only [Int.toNat_natCast, Int.toNat_zero, getD_ints, getD_intss, getD_bools, getD_bytes, PV.cells, getD_ops, getD_pairs, getD_insts, getD_attrs, getD_attrss, getD_objs, getD_ordP]
         refine vo_load_adr rfl rfl Try.underlying63 rfl ?_
         refine vo_move_pv rfl rfl ?_
         refine vo_index_pv (.agg [(.int .i64 0), (.int .i64 0), (.int .i64 0)]) rfl rfl rfl E63.und inf37 sz37 sd sd ?_
         simp only [Int.toNat_natCast, Int.toNat_zero, getD_ints, getD_intss, getD_bools, getD_bytes, PV.cells, getD_ops, getD_pairs, getD_insts, getD_attrs, getD_attrss, getD_objs, getD_ordP]
         refine vo_fieldAddr_adr rfl rfl Try.underlying37 rfl inf3 (by rw [sz3]; decide) ?_
         refine vo_load_adr rfl rfl Try.underlying3 rfl ?_
         refine vo_call0 Try.func22 rfl rfl rfl rfl (isIn_sat (list := hookN W z) (by have := hookN_len (w := W) (c := z) hW.sw; omega)) ?_
         rintro _ _ ⟨rfl, rfl⟩
         refine ⟨rfl, rfl, .inl rfl, ?_⟩
         refine vo_stM ?_
         refine vo_not rfl rfl ?_
         refine vo_nil ?_
         refine hK24 _ ?_
         refine vc_cond rfl (fun hc14 => ?_) (fun hc14 => ?_)
         ·try simp only [zq0, zq1, zq2, zq3, zq4, zq5, zq6, zq7, zq8, zq9, zqa, zqb, zqc, zqd, zqe, zqf] at hc14
          exact absurd (by rw [hna]; exact hkN_mem (by omega) (.inl (by omega))) hc14
         ·try simp only [zq0, zq1, zq2, zq3, zq4, zq5, zq6, zq7, zq8, zq9, zqa, zqb, zqc, zqd, zqe, zqf] at hc14
          refine vc_skip ?_
          refine hK21 _ ?_
          refine vc_region ?_
          refine vo_move_pv rfl rfl ?_
          refine vo_binI rfl rfl rfl rfl sd ?_
          refine vo_assign_pv rfl rfl ?_
          refine vo_nil ?_
          (try clear hK24); (try clear hK23); (try clear hK22); (try clear hK21); (try clear hK20); (try clear hK19); (try clear hK18); (try clear hK17); (try clear hK16); (try clear hK15); (try clear hK14); (try clear hK13); (try clear hK12); (try clear hK11); (try clear hK10); (try clear hK9); (try clear hK8); (try clear hK7); (try clear hK6); (try clear hK5); (try clear hK4); (try clear hK3); (try clear hK2); (try clear hK1)
          change againE _ _ _ _ _ _ _ _ _ _
          refine againE_mk rfl rfl rfl rfl rfl rfl ⟨_, ?_, i + 1, n + 1, rfl, ?_, ?_, rfl, rfl⟩
          ·omega
          ·omega
          ·rw [hkN_yes (by omega) (by omega), List.length_append, hn]; rfl
        ·try simp only [zq0, zq1, zq2, zq3, zq4, zq5, zq6, zq7, zq8, zq9, zqa, zqb, zqc, zqd, zqe, zqf] at hg13
         refine vo_guard_on rfl rfl rfl ?_
         refine vo_fieldAddr_ptr rfl rfl Try.underlying33 rfl inf30 (by rw [sz30]; decide) ?_
         try simp only [Nat.zero_add]
         refine vo_guard_on rfl rfl rfl ?_
         refine vo_load_var rfl rfl rfl Try.underlying30 rfl rfl ?_
         refine vo_guard_on rfl rfl rfl ?_
         refine vo_move_pv rfl rfl ?_
         refine vo_guard_on rfl rfl rfl ?_
         refine vo_index_pv (.sl none 3 []) rfl rfl rfl E30.und inf63 sz63 sd sd ?_
         simp only [Int.toNat_natCast, Int.toNat_zero, getD_ints, getD_intss, getD_bools, getD_bytes, PV.cells, getD_ops, getD_pairs, getD_insts, getD_attrs, getD_attrss, getD_objs, getD_ordP]
         refine vo_guard_on rfl rfl rfl ?_
         refine vo_load_adr rfl rfl Try.underlying63 rfl ?_
         refine vo_guard_on rfl rfl rfl ?_
         refine vo_move_pv rfl rfl ?_
         refine vo_guard_on rfl rfl rfl ?_
         refine vo_index_pv (.agg [(.int .i64 0), (.int .i64 0), (.int .i64 0)]) rfl rfl rfl E63.und inf37 sz37 sd sd ?_
         simp only [Int.toNat_natCast, Int.toNat_zero, getD_ints, getD_intss, getD_bools, getD_bytes, PV.cells, getD_ops, getD_pairs, getD_insts, getD_attrs, getD_attrss, getD_objs, getD_ordP]
         refine vo_guard_on rfl rfl rfl ?_
         refine vo_fieldAddr_adr rfl rfl Try.underlying37 rfl inf3 (by rw [sz3]; decide) ?_
         refine vo_guard_on rfl rfl rfl ?_
         refine vo_load_adr rfl rfl Try.underlying3 rfl ?_
         refine vo_guard_on rfl rfl rfl ?_
         refine vo_binI rfl rfl rfl rfl trivial ?_
         refine vo_pick_f rfl rfl ?_
         refine vo_nil ?_
         refine hK22 _ ?_
         refine vc_cond rfl (fun hc15 => ?_) (fun hc15 => ?_)
         ·try simp only [zq0, zq1, zq2, zq3, zq4, zq5, zq6, zq7, zq8, zq9, zqa, zqb, zqc, zqd, zqe, zqf] at hc15
          refine vc_seq fun K25 hK25 => ?_
          refine vc_region ?_
          refine vo_move_pv rfl rfl ?_
          refine vo_binI rfl rfl rfl rfl sd ?_
          refine vo_assign_pv rfl rfl ?_
          refine vo_nil ?_
          refine hK25 _ ?_
          refine vc_seq fun K26 hK26 => ?_
          refine vc_region ?_
          refine vo_move_pv rfl rfl ?_
          refine vo_fieldAddr_ptr rfl rfl Try.underlying33 rfl inf30 (by rw [sz30]; decide) ?_
          try simp only [Nat.zero_add]
          refine vo_load_var rfl rfl rfl Try.underlying30 rfl rfl ?_
          refine vo_move_pv rfl rfl ?_
          refine vo_index_pv (.sl none 3 []) rfl rfl rfl E30.und inf63 sz63 sd sd ?_
          simp only [Int.toNat_natCast, Int.toNat_zero, getD_ints, getD_intss, getD_bools, getD_bytes, PV.cells, getD_ops, getD_pairs, getD_insts, getD_attrs, getD_attrss, getD_objs, getD_ordP]
          refine vo_load_adr rfl rfl Try.underlying63 rfl ?_
          refine vo_move_pv rfl rfl ?_
          refine vo_index_pv (.agg [(.int .i64 0), (.int .i64 0), (.int .i64 0)]) rfl rfl rfl E63.und inf37 sz37 sd sd ?_
          simp only [Int.toNat_natCast, Int.toNat_zero, getD_ints, getD_intss, getD_bools, getD_bytes, PV.cells, getD_ops, getD_pairs, getD_insts, getD_attrs, getD_attrss, getD_objs, getD_ordP]
          refine vo_fieldAddr_adr rfl rfl Try.underlying37 rfl inf3 (by rw [sz3]; decide) ?_
          refine vo_load_adr rfl rfl Try.underlying3 rfl ?_
          refine vo_call0 Try.func22 rfl rfl rfl rfl (isIn_sat (list := hookN W z) (by have := hookN_len (w := W) (c := z) hW.sw; omega)) ?_
          rintro _ _ ⟨rfl, rfl⟩
          refine ⟨rfl, rfl, .inl rfl, ?_⟩
          refine vo_stM ?_
          refine vo_not rfl rfl ?_
          refine vo_nil ?_
          refine hK26 _ ?_
          refine vc_cond rfl (fun hc16 => ?_) (fun hc16 => ?_)
          ·try simp only [zq0, zq1, zq2, zq3, zq4, zq5, zq6, zq7, zq8, zq9, zqa, zqb, zqc, zqd, zqe, zqf] at hc16
           exact absurd (by rw [hna]; exact hkN_mem (by omega) (.inr (by omega))) hc16
          ·try simp only [zq0, zq1, zq2, zq3, zq4, zq5, zq6, zq7, zq8, zq9, zqa, zqb, zqc, zqd, zqe, zqf] at hc16
           refine vc_skip ?_
           refine hK21 _ ?_
           refine vc_region ?_
           refine vo_move_pv rfl rfl ?_
           refine vo_binI rfl rfl rfl rfl sd ?_
           refine vo_assign_pv rfl rfl ?_
           refine vo_nil ?_
           (try clear hK26); (try clear hK25); (try clear hK24); (try clear hK23); (try clear hK22); (try clear hK21); (try clear hK20); (try clear hK19); (try clear hK18); (try clear hK17); (try clear hK16); (try clear hK15); (try clear hK14); (try clear hK13); (try clear hK12); (try clear hK11); (try clear hK10); (try clear hK9); (try clear hK8); (try clear hK7); (try clear hK6); (try clear hK5); (try clear hK4); (try clear hK3); (try clear hK2); (try clear hK1)
           change againE _ _ _ _ _ _ _ _ _ _
           refine againE_mk rfl rfl rfl rfl rfl rfl ⟨_, ?_, i + 1, n + 1, rfl, ?_, ?_, rfl, rfl⟩
           ·omega
           ·omega
           ·rw [hkN_yes (by omega) (by omega), List.length_append, hn]; rfl
         ·try simp only [zq0, zq1, zq2, zq3, zq4, zq5, zq6, zq7, zq8, zq9, zqa, zqb, zqc, zqd, zqe, zqf] at hc15
          refine vc_skip ?_
          refine hK21 _ ?_
          refine vc_region ?_
          refine vo_move_pv rfl rfl ?_
          refine vo_binI rfl rfl rfl rfl sd ?_
          refine vo_assign_pv rfl rfl ?_
          refine vo_nil ?_
          (try clear hK26); (try clear hK25); (try clear hK24); (try clear hK23); (try clear hK22); (try clear hK21); (try clear hK20); (try clear hK19); (try clear hK18); (try clear hK17); (try clear hK16); (try clear hK15); (try clear hK14); (try clear hK13); (try clear hK12); (try clear hK11); (try clear hK10); (try clear hK9); (try clear hK8); (try clear hK7); (try clear hK6); (try clear hK5); (try clear hK4); (try clear hK3); (try clear hK2); (try clear hK1)
          change againE _ _ _ _ _ _ _ _ _ _
          refine againE_mk rfl rfl rfl rfl rfl rfl ⟨_, ?_, i + 1, n, rfl, ?_, ?_, rfl, rfl⟩
          ·omega
          ·omega
          ·rw [hkN_no (by omega) (by omega), hn]
       ·try simp only [zq0, zq1, zq2, zq3, zq4, zq5, zq6, zq7, zq8, zq9, zqa, zqb, zqc, zqd, zqe, zqf] at hc12
        have hfin : n = ((hookN W z).length : Int) := by rw [hn, take_all (by omega), hna]
        refine vc_exit ?_
        refine hK17 _ ?_
        refine vc_seq fun K27 hK27 => ?_
        refine vc_region ?_
        refine vo_load_varS rfl rfl rfl Try.underlying33 rfl inf33 sz33 rfl rfl ?_
        refine vo_move_pv rfl rfl ?_
        refine vo_move_pv rfl rfl ?_
        refine vo_call0 Try.func30 rfl rfl rfl rfl (SatAt.wk (args2 := [.pv false (worldP (⟨W.bases, W.attrs, [⟨z, []⟩]⟩ : WorldM)), i64 0, i64 z, i64 y]) (by simp only [List.reverse_cons, List.reverse_nil, List.nil_append, List.cons_append, List.map_cons, List.map_nil, SV.wk, PV.wk_agg, PV.wk_sl, wk_ints, PV.wk_int, wk_attrss] <;> rfl) (implSuperAttr_sat (w := (⟨W.bases, W.attrs, [⟨z, []⟩]⟩ : WorldM)) (SW_one hW.sw))) ?_
        rintro _ _ ⟨rfl, rfl⟩
        refine ⟨rfl, rfl, .inl rfl, ?_⟩
        refine vo_stM ?_
        refine vo_field1 rfl rfl Try.underlying65 rfl Try.underlying3 rfl rfl ?_
        refine vo_move_pv rfl rfl ?_
        refine vo_binI rfl rfl rfl rfl trivial ?_
        refine vo_move_pv rfl rfl ?_
        refine vo_split 130 rfl (fun hg17 => ?_) (fun hg17 => ?_)
        ·try simp only [zq0, zq1, zq2, zq3, zq4, zq5, zq6, zq7, zq8, zq9, zqa, zqb, zqc, zqd, zqe, zqf] at hg17
         refine vo_guard_on rfl rfl rfl ?_
         refine vo_move_pv rfl rfl ?_
         refine vo_guard_on rfl rfl rfl ?_
         refine vo_move_pv rfl rfl ?_
         refine vo_guard_on rfl rfl rfl ?_
         refine vo_len_pv rfl rfl Try.underlying49 ?_
         refine vo_guard_on rfl rfl rfl ?_
         refine vo_binI rfl rfl rfl rfl trivial ?_
         refine vo_pick_t rfl rfl ?_
         refine vo_assign_pv rfl rfl ?_
         refine vo_nil ?_
         refine hK27 _ ?_
         refine vc_ret ?_
         (try clear hK27); (try clear hK26); (try clear hK25); (try clear hK24); (try clear hK23); (try clear hK22); (try clear hK21); (try clear hK20); (try clear hK19); (try clear hK18); (try clear hK17); (try clear hK16); (try clear hK15); (try clear hK14); (try clear hK13); (try clear hK12); (try clear hK11); (try clear hK10); (try clear hK9); (try clear hK8); (try clear hK7); (try clear hK6); (try clear hK5); (try clear hK4); (try clear hK3); (try clear hK2); (try clear hK1)
         change retQ _ _ _ _ _
         refine retQ_sel [] (srows := []) (.inr rfl) hC rfl rfl rfl rfl rfl rfl rfl ?_
         first | exact ⟨rfl, rfl⟩ | (exfalso; simp_all; done) | (refine ⟨gbt ?_, rfl⟩; first | simp_all | (simp; omega))
        ·try simp only [zq0, zq1, zq2, zq3, zq4, zq5, zq6, zq7, zq8, zq9, zqa, zqb, zqc, zqd, zqe, zqf] at hg17
         exact absurd hsu hg17

end Go.Vl
