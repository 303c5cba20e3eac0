/- Part 6 of the texts that the proof of FnSuperAttrFirst is built on. -/
import Derived.Test.YtdkgldahahggfaaVl5
namespace Go.Vl
set_option linter.unusedVariables false
set_option linter.unusedSimpArgs false
open Go.Proofs

def medW (w : WorldM) : Prop := (1 ≤ w.bases.length ∧ w.bases.length ≤ 9 ∧ ∀ l ∈ w.bases, l.length ≤ 3) ∧ (w.attrs.length ≤ 10 ∧ ∀ l ∈ w.attrs, l.length ≤ 4) ∧ w.objs.length ≤ 4 ∧ ∀ o ∈ w.objs, o.pairs.length ≤ 3
theorem medW.sw {w : WorldM} (h : medW w) : SW w := by
  obtain ⟨⟨_, h1, h2⟩, ⟨h3, h4⟩, h5, h6⟩ := h
  exact ⟨⟨by omega, fun l hl => by have := h2 l hl; omega⟩, ⟨by omega, fun l hl => by have := h4 l hl; omega⟩, by omega, fun o ho => by have := h6 o ho; unfold SO; omega⟩
theorem attrs_at0 {A : List (List AttrM)} (h : 0 < A.length) : (A.map attrsP)[0]? = some (.sl none 3 ((A.getD 0 []).map attrP)) := getP [] h
theorem app_attrs3 (l : List AttrM) (a b c : Int) : l.map attrP ++ [.agg [.int .i64 a, .int .i64 b, .int .i64 c]] = (l ++ [(⟨a, b, c⟩ : AttrM)]).map attrP := by simp
theorem set_attrss (l : List (List AttrM)) (i : Nat) (a : List AttrM) : (l.map attrsP).set i (.sl none 3 (a.map attrP)) = (l.set i a).map attrsP := by simp [List.map_set]
theorem get_endP {α : Type} (f : α → PV) (l : List α) (x : PV) : (l.map f ++ [x])[l.length]? = some x := by simp
theorem set_endO (l : List ObjM) (a : Int) (x : PV) : (l.map objP ++ [x]).set l.length (.agg [.int .i64 a, .sl none 2 []]) = (l ++ [(⟨a, []⟩ : ObjM)]).map objP := by
  rw [List.set_append_right _ _ (by simp)]; simp
theorem set_endA (l : List (List AttrM)) (x : PV) : (l.map attrsP ++ [x]).set l.length (.sl none 3 []) = (l ++ [([] : List AttrM)]).map attrsP := by
  rw [List.set_append_right _ _ (by simp)]; simp
theorem set_all {α : Type} {p : α → Prop} {l : List α} {x : α} (h : ∀ y ∈ l, p y) (hx : p x) (i : Nat) : ∀ y ∈ l.set i x, p y := by
  intro y hy
  rcases List.mem_or_eq_of_mem_set hy with h1 | h1
  · exact h y h1
  · rw [h1]; exact hx
theorem med1 {W : WorldM} (hb : 1 ≤ W.bases.length ∧ W.bases.length ≤ 9 ∧ ∀ l ∈ W.bases, l.length ≤ 3) (ha1 : W.attrs.length ≤ 9) (ha2 : ∀ l ∈ W.attrs, l.length ≤ 3) (ho1 : W.objs.length ≤ 3) (ho2 : ∀ o ∈ W.objs, o.pairs.length ≤ 3) (y : Int) :
    medW ⟨W.bases, W.attrs.set 0 (W.attrs.getD 0 [] ++ [⟨y, 1, 0⟩]), W.objs⟩ ∧ medW ⟨W.bases, W.attrs, W.objs ++ [⟨y, []⟩]⟩ ∧ medW ⟨W.bases, W.attrs ++ [[]], W.objs⟩ ∧ medW ⟨W.bases, W.attrs, W.objs⟩ := by
  refine ⟨⟨hb, ⟨by rw [List.length_set]; omega, set_all (fun l hl => Nat.le_succ_of_le (ha2 l hl)) (by rw [List.length_append, List.length_singleton]; have := getD_all (p := fun l : List AttrM => l.length ≤ 3) ha2 [] (by simp) 0; omega) 0⟩, Nat.le_succ_of_le ho1, ho2⟩,
    ⟨hb, ⟨by show W.attrs.length ≤ 10; omega, fun l hl => Nat.le_succ_of_le (ha2 l hl)⟩, by rw [List.length_append, List.length_singleton]; omega, app_all ho2 (by simp)⟩,
    ⟨hb, ⟨by rw [List.length_append, List.length_singleton]; omega, app_all (fun l hl => Nat.le_succ_of_le (ha2 l hl)) (by simp)⟩, Nat.le_succ_of_le ho1, ho2⟩,
    ⟨hb, ⟨by show W.attrs.length ≤ 10; omega, fun l hl => Nat.le_succ_of_le (ha2 l hl)⟩, Nat.le_succ_of_le ho1, ho2⟩⟩
theorem plain_nilO (a : Int) : plainX [.agg [.int .i64 a, .sl (some true) 2 []]] := by
  intro x hx c hc
  rw [List.mem_singleton] at hx; subst hx
  simp [PV.cells] at hc
  rcases hc with rfl | rfl <;> rfl
theorem plain_nil1 : plainX [.sl (some true) 0 []] := by
  intro x hx c hc
  rw [List.mem_singleton] at hx; subst hx
  simp [PV.cells] at hc; subst hc; rfl
set_option maxHeartbeats 4000000 in
theorem anyWorld_sat {nl : Option Bool} {c : List (Fin 256)} {p : Nat} (hc : c.length ≤ 2000) (hp : p < 989000) : SatAt Try.prog 98 [.ptr 0 0 0 0] [rdr nl c p] (fun res rows => ∃ (W : WorldM) (q : Nat) (f : Bool), (medW W ∧ q ≤ p + 420) ∧ res = [.pv f (worldP W)] ∧ rows = [rdr nl c q]) := by
 refine sat_entry_G (rs := [(2, some (27, 3))]) Try.func98 rfl rfl (Nat.le_of_ble_eq_true rfl) (Nat.le_of_ble_eq_true rfl) (resTs1 ⟨_, _, Try.underlying27, rfl, inf27, sz27⟩) fun C hC => ?_
 rw [Try.ntmps98]
 replace hC : C.nb = 1 := hC
 refine vc_seq fun K1 hK1 => ?_
 refine vc_region ?_
 refine vo_alloc Z27 rfl ?_
 refine vo_stM ?_
 refine vo_nil ?_
 refine hK1 _ ?_
 refine vc_seq fun K2 hK2 => ?_
 refine vc_region ?_
 refine vo_move_ptr rfl rfl ?_
 refine vo_call [0] Try.func135 rfl rfl rfl rfl rfl rfl rfl (someWorld_sat hc (by omega)) ?_
 rintro _ _ ⟨W, q, f, ⟨⟨⟨hb1, hb2, hb3⟩, ⟨ha1, ha2⟩, ho1, ho2⟩, hq⟩, rfl, rfl⟩
 refine ⟨Nat.le_of_ble_eq_true rfl, ⟨rfl, rfl, rfl, rfl⟩, .inl rfl, ?_⟩
 refine vo_stM ?_
 refine vo_alloc Z27 rfl ?_
 refine vo_stM ?_
 refine vo_store_varG rfl rfl rfl rfl inf27 sz27 rfl ?_
 refine vo_stM ?_
 refine vo_nil ?_
 refine hK2 _ ?_
 refine vc_seq fun K3 hK3 => ?_
 refine vc_seq fun K4 hK4 => ?_
 refine vc_region ?_
 refine vo_move_ptr rfl rfl ?_
 refine vo_call [0] Try.func72 rfl rfl rfl rfl rfl rfl rfl (pick_sat hc (by omega)) ?_
 rintro _ _ ⟨x7, ⟨hx70, hx71⟩, rfl, rfl⟩
 refine ⟨Nat.le_of_ble_eq_true rfl, ⟨rfl, rfl, rfl, rfl⟩, .inl rfl, ?_⟩
 refine vo_stM ?_
 refine vo_nil ?_
 refine hK4 _ ?_
 refine vc_block ?_
 refine vc_seq fun K5 hK5 => ?_
 refine vc_region ?_
 refine vo_binI rfl rfl rfl rfl trivial ?_
 refine vo_assign_pv rfl rfl ?_
 refine vo_nil ?_
 refine hK5 _ ?_
 refine vc_cond rfl (fun hc1 => ?_) (fun hc1 => ?_)
 ·try simp only [zq0, zq1, zq2, zq3, zq4, zq5, zq6, zq7, zq8, zq9, zqa, zqb, zqc, zqd, zqe, zqf] at hc1
  have hat0 : (W.attrs.getD 0 []).length ≤ 3 := getD_all (p := fun l : List AttrM => l.length ≤ 3) ha2 [] (by simp) 0
  refine vc_drawB [11, 13] (by kernel_rfl) ?_
  change VLB [11, 13] _ _ _ 14 _ _ _
  refine vb_light0 0 rfl rfl rfl (by kernel_rfl) (by kernel_rfl) (by kernel_rfl) (wnt_none rfl) (l0_fieldAddr_ptr rfl Try.underlying27 rfl inf24 (by rw [sz24]; decide)) ?_
  try simp only [Nat.zero_add]
  refine vb_light0 2 rfl rfl rfl (by kernel_rfl) (by kernel_rfl) (by kernel_rfl) (wnt_none rfl) (l0_fieldAddr_ptr rfl Try.underlying27 rfl inf24 (by rw [sz24]; decide)) ?_
  try simp only [Nat.zero_add]
  refine vb_light 3 [0, 1, 2, 6, 7, 8, 9, 10] rfl rfl rfl (by kernel_rfl) (by kernel_rfl) (by kernel_rfl) (by kernel_rfl) (by kernel_rfl) (wnt_none rfl) (lb_load_var hC rfl rfl rfl rfl Try.underlying24 rfl rfl) ?_
  refine vb_light0 4 rfl rfl rfl (by kernel_rfl) (by kernel_rfl) (by kernel_rfl) (wnt_none rfl) (l0_index_ref rfl rfl rfl E24.und inf52 sz52 sd sd) ?_
  try simp only [Int.toNat_natCast]
  refine vb_light0 6 rfl rfl rfl (by kernel_rfl) (by kernel_rfl) (by kernel_rfl) (wnt_none rfl) (l0_move_ptr rfl) ?_
  refine vb_any3 1 5 7 (by kernel_rfl) ?_ ?_ ?_
  ·refine sb_light 1 rfl rfl rfl (wnt_none rfl) (lb_load_var hC rfl rfl rfl rfl Try.underlying24 rfl rfl) ?_
   refine vb_any2 5 7 (by kernel_rfl) ?_ ?_
   ·refine sb_extE 5 rfl (fun _ => rfl) (xt_load_take1 rfl rfl (by omega) Try.underlying52 rfl (attrs_at0 (by omega))) fun Rf15 => ?_
    refine vb_stM ?_
    refine vb_treeown 5 (by omega) rfl ?_
    refine vb_stM ?_
    refine vb_ext 7 rfl (by kernel_rfl) rfl (xt_buildSlice E34 rfl rfl rfl rfl) ?_
    refine vb_stM ?_
    refine vb_expose 6 (by omega) rfl ?_
    refine vb_stM ?_
    refine vb_weaken 17 rfl ?_
    refine vb_stM ?_
    refine vb_any1 8 (by kernel_rfl) ?_
    refine sb_call 8 [0] hC rfl rfl (wnt_none rfl) Try.func99 rfl rfl rfl rfl rfl rfl rfl (one_sat (list := [_,_]) hc (by omega) (by simp) (by simp)) ?_
    rintro _ _ ⟨y18, hy18, rfl, rfl⟩
    refine ⟨Nat.le_of_ble_eq_true rfl, ⟨rfl, rfl, rfl, rfl⟩, .inl rfl, ?_⟩
    refine vb_stM ?_
    refine vb_light0 9 rfl rfl rfl (by kernel_rfl) (by kernel_rfl) (by kernel_rfl) (wnt_none rfl) (l0_build S31 rfl rfl) ?_
    refine vb_stM ?_
    refine vb_ext 10 rfl (by kernel_rfl) rfl (xt_buildSlice E52 rfl rfl rfl rfl) ?_
    refine vb_stM ?_
    refine vb_one 11 rfl (by kernel_rfl) rfl ?_
    refine vo_appendU E52 rfl (by omega) rfl rfl rfl sd sd fun Rt5 => ?_
    refine vo_stM ?_
    try simp only [app_ints, app_intss, app_bools, app_attrs3]
    refine vo_done ⟨rfl, ?_⟩
    refine vb_light0 12 rfl rfl rfl (by kernel_rfl) (by kernel_rfl) (by kernel_rfl) (wnt_none rfl) (l0_index_ref rfl rfl rfl E24.und inf52 sz52 sd sd) ?_
    try simp only [Int.toNat_natCast]
    refine vb_one 13 rfl (by kernel_rfl) rfl ?_
    refine vo_totree 5 rfl ((by first | exact plain_nilO _ | exact plain_nil1 | exact plain_attrs _ | exact plain_pairsX _)) ?_
    refine vo_stM ?_
    refine vo_weaktree 5 rfl ?_
    refine vo_stM ?_
    refine vo_put (p := .sl _ _ _) rfl rfl rfl rfl rfl rfl rfl hC rfl (by first | decide | simp [refsOf]) inf52 sz52 sd ?_
    refine vo_stM ?_
    try simp only [List.set_set, set_attrss]
    refine vo_done ⟨rfl, ?_⟩
    refine vb_nil (by kernel_rfl) ?_
    refine hK3 _ ?_
    refine vc_seq fun K6 hK6 => ?_
    refine vc_region ?_
    refine vo_load_varG rfl rfl rfl Try.underlying27 rfl inf27 sz27 rfl ?_
    refine vo_stM ?_
    refine vo_store_varG rfl rfl rfl rfl inf27 sz27 rfl ?_
    refine vo_stM ?_
    refine vo_nil ?_
    refine hK6 _ ?_
    refine vc_treeown 2 (by omega) rfl ?_
    refine vc_stM ?_
    refine vc_expose 2 (by omega) rfl ?_
    refine vc_stM ?_
    refine vc_treeown 3 (by omega) rfl ?_
    refine vc_stM ?_
    refine vc_expose 3 (by omega) rfl ?_
    refine vc_stM ?_
    refine vc_ret ?_
    change retQ _ _ _ _ _
    refine retQ_sel [] (srows := []) (.inr rfl) hC rfl rfl rfl rfl rfl rfl rfl ?_
    have hM := fun y => med1 ⟨hb1, hb2, hb3⟩ (by omega) ha2 ho1 ho2 y
    first
     | exact ⟨_, _, _, ⟨(hM y18).1, by omega⟩, rfl, rfl⟩
     | exact ⟨_, _, _, ⟨(hM y29).2.1, by omega⟩, rfl, rfl⟩
     | exact ⟨_, _, _, ⟨(hM 0).2.2.1, by omega⟩, rfl, rfl⟩
     | exact ⟨_, _, _, ⟨(hM 0).2.2.2, by omega⟩, rfl, rfl⟩
   ·refine sb_ext 7 rfl rfl (xt_buildSlice E34 rfl rfl rfl rfl) ?_
    refine vb_stM ?_
    refine vb_expose 5 (by omega) rfl ?_
    refine vb_stM ?_
    refine vb_weaken 17 rfl ?_
    refine vb_stM ?_
    refine vb_any2 5 8 (by kernel_rfl) ?_ ?_
    ·refine sb_extE 5 rfl (fun _ => rfl) (xt_load_take1 rfl rfl (by omega) Try.underlying52 rfl (attrs_at0 (by omega))) fun Rf15 => ?_
     refine vb_stM ?_
     refine vb_treeown 6 (by omega) rfl ?_
     refine vb_stM ?_
     refine vb_any1 8 (by kernel_rfl) ?_
     refine sb_call 8 [0] hC rfl rfl (wnt_none rfl) Try.func99 rfl rfl rfl rfl rfl rfl rfl (one_sat (list := [_,_]) hc (by omega) (by simp) (by simp)) ?_
     rintro _ _ ⟨y18, hy18, rfl, rfl⟩
     refine ⟨Nat.le_of_ble_eq_true rfl, ⟨rfl, rfl, rfl, rfl⟩, .inl rfl, ?_⟩
     refine vb_stM ?_
     refine vb_light0 9 rfl rfl rfl (by kernel_rfl) (by kernel_rfl) (by kernel_rfl) (wnt_none rfl) (l0_build S31 rfl rfl) ?_
     refine vb_stM ?_
     refine vb_ext 10 rfl (by kernel_rfl) rfl (xt_buildSlice E52 rfl rfl rfl rfl) ?_
     refine vb_stM ?_
     refine vb_one 11 rfl (by kernel_rfl) rfl ?_
     refine vo_appendU E52 rfl (by omega) rfl rfl rfl sd sd fun Rt6 => ?_
     refine vo_stM ?_
     try simp only [app_ints, app_intss, app_bools, app_attrs3]
     refine vo_done ⟨rfl, ?_⟩
     refine vb_light0 12 rfl rfl rfl (by kernel_rfl) (by kernel_rfl) (by kernel_rfl) (wnt_none rfl) (l0_index_ref rfl rfl rfl E24.und inf52 sz52 sd sd) ?_
     try simp only [Int.toNat_natCast]
     refine vb_one 13 rfl (by kernel_rfl) rfl ?_
     refine vo_totree 6 rfl ((by first | exact plain_nilO _ | exact plain_nil1 | exact plain_attrs _ | exact plain_pairsX _)) ?_
     refine vo_stM ?_
     refine vo_weaktree 6 rfl ?_
     refine vo_stM ?_
     refine vo_put (p := .sl _ _ _) rfl rfl rfl rfl rfl rfl rfl hC rfl (by first | decide | simp [refsOf]) inf52 sz52 sd ?_
     refine vo_stM ?_
     try simp only [List.set_set, set_attrss]
     refine vo_done ⟨rfl, ?_⟩
     refine vb_nil (by kernel_rfl) ?_
     refine hK3 _ ?_
     refine vc_seq fun K7 hK7 => ?_
     refine vc_region ?_
     refine vo_load_varG rfl rfl rfl Try.underlying27 rfl inf27 sz27 rfl ?_
     refine vo_stM ?_
     refine vo_store_varG rfl rfl rfl rfl inf27 sz27 rfl ?_
     refine vo_stM ?_
     refine vo_nil ?_
     refine hK7 _ ?_
     refine vc_treeown 2 (by omega) rfl ?_
     refine vc_stM ?_
     refine vc_expose 2 (by omega) rfl ?_
     refine vc_stM ?_
     refine vc_treeown 3 (by omega) rfl ?_
     refine vc_stM ?_
     refine vc_expose 3 (by omega) rfl ?_
     refine vc_stM ?_
     refine vc_ret ?_
     change retQ _ _ _ _ _
     refine retQ_sel [] (srows := []) (.inr rfl) hC rfl rfl rfl rfl rfl rfl rfl ?_
     have hM := fun y => med1 ⟨hb1, hb2, hb3⟩ (by omega) ha2 ho1 ho2 y
     first
      | exact ⟨_, _, _, ⟨(hM y18).1, by omega⟩, rfl, rfl⟩
      | exact ⟨_, _, _, ⟨(hM y29).2.1, by omega⟩, rfl, rfl⟩
      | exact ⟨_, _, _, ⟨(hM 0).2.2.1, by omega⟩, rfl, rfl⟩
      | exact ⟨_, _, _, ⟨(hM 0).2.2.2, by omega⟩, rfl, rfl⟩
    ·refine sb_call 8 [0] hC rfl rfl (wnt_none rfl) Try.func99 rfl rfl rfl rfl rfl rfl rfl (one_sat (list := [_,_]) hc (by omega) (by simp) (by simp)) ?_
     rintro _ _ ⟨y18, hy18, rfl, rfl⟩
     refine ⟨Nat.le_of_ble_eq_true rfl, ⟨rfl, rfl, rfl, rfl⟩, .inl rfl, ?_⟩
     refine vb_stM ?_
     refine vb_light0 9 rfl rfl rfl (by kernel_rfl) (by kernel_rfl) (by kernel_rfl) (wnt_none rfl) (l0_build S31 rfl rfl) ?_
     refine vb_stM ?_
     refine vb_any2 5 10 (by kernel_rfl) ?_ ?_
     ·refine sb_extE 5 rfl (fun _ => rfl) (xt_load_take1 rfl rfl (by omega) Try.underlying52 rfl (attrs_at0 (by omega))) fun Rf15 => ?_
      refine vb_stM ?_
      refine vb_treeown 6 (by omega) rfl ?_
      refine vb_stM ?_
      refine vb_ext 10 rfl (by kernel_rfl) rfl (xt_buildSlice E52 rfl rfl rfl rfl) ?_
      refine vb_stM ?_
      refine vb_one 11 rfl (by kernel_rfl) rfl ?_
      refine vo_appendU E52 rfl (by omega) rfl rfl rfl sd sd fun Rt7 => ?_
      refine vo_stM ?_
      try simp only [app_ints, app_intss, app_bools, app_attrs3]
      refine vo_done ⟨rfl, ?_⟩
      refine vb_light0 12 rfl rfl rfl (by kernel_rfl) (by kernel_rfl) (by kernel_rfl) (wnt_none rfl) (l0_index_ref rfl rfl rfl E24.und inf52 sz52 sd sd) ?_
      try simp only [Int.toNat_natCast]
      refine vb_one 13 rfl (by kernel_rfl) rfl ?_
      refine vo_totree 6 rfl ((by first | exact plain_nilO _ | exact plain_nil1 | exact plain_attrs _ | exact plain_pairsX _)) ?_
      refine vo_stM ?_
      refine vo_weaktree 6 rfl ?_
      refine vo_stM ?_
      refine vo_put (p := .sl _ _ _) rfl rfl rfl rfl rfl rfl rfl hC rfl (by first | decide | simp [refsOf]) inf52 sz52 sd ?_
      refine vo_stM ?_
      try simp only [List.set_set, set_attrss]
      refine vo_done ⟨rfl, ?_⟩
      refine vb_nil (by kernel_rfl) ?_
      refine hK3 _ ?_
      refine vc_seq fun K8 hK8 => ?_
      refine vc_region ?_
      refine vo_load_varG rfl rfl rfl Try.underlying27 rfl inf27 sz27 rfl ?_
      refine vo_stM ?_
      refine vo_store_varG rfl rfl rfl rfl inf27 sz27 rfl ?_
      refine vo_stM ?_
      refine vo_nil ?_
      refine hK8 _ ?_
      refine vc_treeown 2 (by omega) rfl ?_
      refine vc_stM ?_
      refine vc_expose 2 (by omega) rfl ?_
      refine vc_stM ?_
      refine vc_treeown 3 (by omega) rfl ?_
      refine vc_stM ?_
      refine vc_expose 3 (by omega) rfl ?_
      refine vc_stM ?_
      refine vc_ret ?_
      change retQ _ _ _ _ _
      refine retQ_sel [] (srows := []) (.inr rfl) hC rfl rfl rfl rfl rfl rfl rfl ?_
      have hM := fun y => med1 ⟨hb1, hb2, hb3⟩ (by omega) ha2 ho1 ho2 y
      first
       | exact ⟨_, _, _, ⟨(hM y18).1, by omega⟩, rfl, rfl⟩
       | exact ⟨_, _, _, ⟨(hM y29).2.1, by omega⟩, rfl, rfl⟩
       | exact ⟨_, _, _, ⟨(hM 0).2.2.1, by omega⟩, rfl, rfl⟩
       | exact ⟨_, _, _, ⟨(hM 0).2.2.2, by omega⟩, rfl, rfl⟩
     ·refine sb_ext 10 rfl rfl (xt_buildSlice E52 rfl rfl rfl rfl) ?_
      refine vb_stM ?_
      refine vb_any1 5 (by kernel_rfl) ?_
      refine sb_extE 5 rfl (fun _ => rfl) (xt_load_take1 rfl rfl (by omega) Try.underlying52 rfl (attrs_at0 (by omega))) fun Rf15 => ?_
      refine vb_stM ?_
      refine vb_treeown 7 (by omega) rfl ?_
      refine vb_stM ?_
      refine vb_one 11 rfl (by kernel_rfl) rfl ?_
      refine vo_appendU E52 rfl (by omega) rfl rfl rfl sd sd fun Rt8 => ?_
      refine vo_stM ?_
      try simp only [app_ints, app_intss, app_bools, app_attrs3]
      refine vo_done ⟨rfl, ?_⟩
      refine vb_light0 12 rfl rfl rfl (by kernel_rfl) (by kernel_rfl) (by kernel_rfl) (wnt_none rfl) (l0_index_ref rfl rfl rfl E24.und inf52 sz52 sd sd) ?_
      try simp only [Int.toNat_natCast]
      refine vb_one 13 rfl (by kernel_rfl) rfl ?_
      refine vo_totree 7 rfl ((by first | exact plain_nilO _ | exact plain_nil1 | exact plain_attrs _ | exact plain_pairsX _)) ?_
      refine vo_stM ?_
      refine vo_weaktree 7 rfl ?_
      refine vo_stM ?_
      refine vo_put (p := .sl _ _ _) rfl rfl rfl rfl rfl rfl rfl hC rfl (by first | decide | simp [refsOf]) inf52 sz52 sd ?_
      refine vo_stM ?_
      try simp only [List.set_set, set_attrss]
      refine vo_done ⟨rfl, ?_⟩
      refine vb_nil (by kernel_rfl) ?_
      refine hK3 _ ?_
      refine vc_seq fun K9 hK9 => ?_
      refine vc_region ?_
      refine vo_load_varG rfl rfl rfl Try.underlying27 rfl inf27 sz27 rfl ?_
      refine vo_stM ?_
      refine vo_store_varG rfl rfl rfl rfl inf27 sz27 rfl ?_
      refine vo_stM ?_
      refine vo_nil ?_
      refine hK9 _ ?_
      refine vc_treeown 2 (by omega) rfl ?_
      refine vc_stM ?_
      refine vc_expose 2 (by omega) rfl ?_
      refine vc_stM ?_
      refine vc_treeown 3 (by omega) rfl ?_
      refine vc_stM ?_
      refine vc_expose 3 (by omega) rfl ?_
      refine vc_stM ?_
      refine vc_ret ?_
      change retQ _ _ _ _ _
      refine retQ_sel [] (srows := []) (.inr rfl) hC rfl rfl rfl rfl rfl rfl rfl ?_
      have hM := fun y => med1 ⟨hb1, hb2, hb3⟩ (by omega) ha2 ho1 ho2 y
      first
       | exact ⟨_, _, _, ⟨(hM y18).1, by omega⟩, rfl, rfl⟩
       | exact ⟨_, _, _, ⟨(hM y29).2.1, by omega⟩, rfl, rfl⟩
       | exact ⟨_, _, _, ⟨(hM 0).2.2.1, by omega⟩, rfl, rfl⟩
       | exact ⟨_, _, _, ⟨(hM 0).2.2.2, by omega⟩, rfl, rfl⟩
  ·refine sb_extE 5 rfl (fun _ => rfl) (xt_load_take1 rfl rfl (by omega) Try.underlying52 rfl (attrs_at0 (by omega))) fun Rf15 => ?_
   refine vb_stM ?_
   refine vb_treeown 5 (by omega) rfl ?_
   refine vb_stM ?_
   refine vb_any2 1 7 (by kernel_rfl) ?_ ?_
   ·refine sb_light 1 rfl rfl rfl (wnt_none rfl) (lb_load_var hC rfl rfl rfl rfl Try.underlying24 rfl rfl) ?_
    refine vb_ext 7 rfl (by kernel_rfl) rfl (xt_buildSlice E34 rfl rfl rfl rfl) ?_
    refine vb_stM ?_
    refine vb_expose 6 (by omega) rfl ?_
    refine vb_stM ?_
    refine vb_weaken 17 rfl ?_
    refine vb_stM ?_
    refine vb_any1 8 (by kernel_rfl) ?_
    refine sb_call 8 [0] hC rfl rfl (wnt_none rfl) Try.func99 rfl rfl rfl rfl rfl rfl rfl (one_sat (list := [_,_]) hc (by omega) (by simp) (by simp)) ?_
    rintro _ _ ⟨y18, hy18, rfl, rfl⟩
    refine ⟨Nat.le_of_ble_eq_true rfl, ⟨rfl, rfl, rfl, rfl⟩, .inl rfl, ?_⟩
    refine vb_stM ?_
    refine vb_light0 9 rfl rfl rfl (by kernel_rfl) (by kernel_rfl) (by kernel_rfl) (wnt_none rfl) (l0_build S31 rfl rfl) ?_
    refine vb_stM ?_
    refine vb_ext 10 rfl (by kernel_rfl) rfl (xt_buildSlice E52 rfl rfl rfl rfl) ?_
    refine vb_stM ?_
    refine vb_one 11 rfl (by kernel_rfl) rfl ?_
    refine vo_appendU E52 rfl (by omega) rfl rfl rfl sd sd fun Rt9 => ?_
    refine vo_stM ?_
    try simp only [app_ints, app_intss, app_bools, app_attrs3]
    refine vo_done ⟨rfl, ?_⟩
    refine vb_light0 12 rfl rfl rfl (by kernel_rfl) (by kernel_rfl) (by kernel_rfl) (wnt_none rfl) (l0_index_ref rfl rfl rfl E24.und inf52 sz52 sd sd) ?_
    try simp only [Int.toNat_natCast]
    refine vb_one 13 rfl (by kernel_rfl) rfl ?_
    refine vo_totree 5 rfl ((by first | exact plain_nilO _ | exact plain_nil1 | exact plain_attrs _ | exact plain_pairsX _)) ?_
    refine vo_stM ?_
    refine vo_weaktree 5 rfl ?_
    refine vo_stM ?_
    refine vo_put (p := .sl _ _ _) rfl rfl rfl rfl rfl rfl rfl hC rfl (by first | decide | simp [refsOf]) inf52 sz52 sd ?_
    refine vo_stM ?_
    try simp only [List.set_set, set_attrss]
    refine vo_done ⟨rfl, ?_⟩
    refine vb_nil (by kernel_rfl) ?_
    refine hK3 _ ?_
    refine vc_seq fun K10 hK10 => ?_
    refine vc_region ?_
    refine vo_load_varG rfl rfl rfl Try.underlying27 rfl inf27 sz27 rfl ?_
    refine vo_stM ?_
    refine vo_store_varG rfl rfl rfl rfl inf27 sz27 rfl ?_
    refine vo_stM ?_
    refine vo_nil ?_
    refine hK10 _ ?_
    refine vc_treeown 2 (by omega) rfl ?_
    refine vc_stM ?_
    refine vc_expose 2 (by omega) rfl ?_
    refine vc_stM ?_
    refine vc_treeown 3 (by omega) rfl ?_
    refine vc_stM ?_
    refine vc_expose 3 (by omega) rfl ?_
    refine vc_stM ?_
    refine vc_ret ?_
    change retQ _ _ _ _ _
    refine retQ_sel [] (srows := []) (.inr rfl) hC rfl rfl rfl rfl rfl rfl rfl ?_
    have hM := fun y => med1 ⟨hb1, hb2, hb3⟩ (by omega) ha2 ho1 ho2 y
    first
     | exact ⟨_, _, _, ⟨(hM y18).1, by omega⟩, rfl, rfl⟩
     | exact ⟨_, _, _, ⟨(hM y29).2.1, by omega⟩, rfl, rfl⟩
     | exact ⟨_, _, _, ⟨(hM 0).2.2.1, by omega⟩, rfl, rfl⟩
     | exact ⟨_, _, _, ⟨(hM 0).2.2.2, by omega⟩, rfl, rfl⟩
   ·refine sb_ext 7 rfl rfl (xt_buildSlice E34 rfl rfl rfl rfl) ?_
    refine vb_stM ?_
    refine vb_expose 6 (by omega) rfl ?_
    refine vb_stM ?_
    refine vb_weaken 17 rfl ?_
    refine vb_stM ?_
    refine vb_any2 1 8 (by kernel_rfl) ?_ ?_
    ·refine sb_light 1 rfl rfl rfl (wnt_none rfl) (lb_load_var hC rfl rfl rfl rfl Try.underlying24 rfl rfl) ?_
     refine vb_any1 8 (by kernel_rfl) ?_
     refine sb_call 8 [0] hC rfl rfl (wnt_none rfl) Try.func99 rfl rfl rfl rfl rfl rfl rfl (one_sat (list := [_,_]) hc (by omega) (by simp) (by simp)) ?_
     rintro _ _ ⟨y18, hy18, rfl, rfl⟩
     refine ⟨Nat.le_of_ble_eq_true rfl, ⟨rfl, rfl, rfl, rfl⟩, .inl rfl, ?_⟩
     refine vb_stM ?_
     refine vb_light0 9 rfl rfl rfl (by kernel_rfl) (by kernel_rfl) (by kernel_rfl) (wnt_none rfl) (l0_build S31 rfl rfl) ?_
     refine vb_stM ?_
     refine vb_ext 10 rfl (by kernel_rfl) rfl (xt_buildSlice E52 rfl rfl rfl rfl) ?_
     refine vb_stM ?_
     refine vb_one 11 rfl (by kernel_rfl) rfl ?_
     refine vo_appendU E52 rfl (by omega) rfl rfl rfl sd sd fun Rt10 => ?_
     refine vo_stM ?_
     try simp only [app_ints, app_intss, app_bools, app_attrs3]
     refine vo_done ⟨rfl, ?_⟩
     refine vb_light0 12 rfl rfl rfl (by kernel_rfl) (by kernel_rfl) (by kernel_rfl) (wnt_none rfl) (l0_index_ref rfl rfl rfl E24.und inf52 sz52 sd sd) ?_
     try simp only [Int.toNat_natCast]
     refine vb_one 13 rfl (by kernel_rfl) rfl ?_
     refine vo_totree 5 rfl ((by first | exact plain_nilO _ | exact plain_nil1 | exact plain_attrs _ | exact plain_pairsX _)) ?_
     refine vo_stM ?_
     refine vo_weaktree 5 rfl ?_
     refine vo_stM ?_
     refine vo_put (p := .sl _ _ _) rfl rfl rfl rfl rfl rfl rfl hC rfl (by first | decide | simp [refsOf]) inf52 sz52 sd ?_
     refine vo_stM ?_
     try simp only [List.set_set, set_attrss]
     refine vo_done ⟨rfl, ?_⟩
     refine vb_nil (by kernel_rfl) ?_
     refine hK3 _ ?_
     refine vc_seq fun K11 hK11 => ?_
     refine vc_region ?_
     refine vo_load_varG rfl rfl rfl Try.underlying27 rfl inf27 sz27 rfl ?_
     refine vo_stM ?_
     refine vo_store_varG rfl rfl rfl rfl inf27 sz27 rfl ?_
     refine vo_stM ?_
     refine vo_nil ?_
     refine hK11 _ ?_
     refine vc_treeown 2 (by omega) rfl ?_
     refine vc_stM ?_
     refine vc_expose 2 (by omega) rfl ?_
     refine vc_stM ?_
     refine vc_treeown 3 (by omega) rfl ?_
     refine vc_stM ?_
     refine vc_expose 3 (by omega) rfl ?_
     refine vc_stM ?_
     refine vc_ret ?_
     change retQ _ _ _ _ _
     refine retQ_sel [] (srows := []) (.inr rfl) hC rfl rfl rfl rfl rfl rfl rfl ?_
     have hM := fun y => med1 ⟨hb1, hb2, hb3⟩ (by omega) ha2 ho1 ho2 y
     first
      | exact ⟨_, _, _, ⟨(hM y18).1, by omega⟩, rfl, rfl⟩
      | exact ⟨_, _, _, ⟨(hM y29).2.1, by omega⟩, rfl, rfl⟩
      | exact ⟨_, _, _, ⟨(hM 0).2.2.1, by omega⟩, rfl, rfl⟩
      | exact ⟨_, _, _, ⟨(hM 0).2.2.2, by omega⟩, rfl, rfl⟩
    ·refine sb_call 8 [0] hC rfl rfl (wnt_none rfl) Try.func99 rfl rfl rfl rfl rfl rfl rfl (one_sat (list := [_,_]) hc (by omega) (by simp) (by simp)) ?_
     rintro _ _ ⟨y18, hy18, rfl, rfl⟩
     refine ⟨Nat.le_of_ble_eq_true rfl, ⟨rfl, rfl, rfl, rfl⟩, .inl rfl, ?_⟩
     refine vb_stM ?_
     refine vb_light0 9 rfl rfl rfl (by kernel_rfl) (by kernel_rfl) (by kernel_rfl) (wnt_none rfl) (l0_build S31 rfl rfl) ?_
     refine vb_stM ?_
     refine vb_any2 1 10 (by kernel_rfl) ?_ ?_
     ·refine sb_light 1 rfl rfl rfl (wnt_none rfl) (lb_load_var hC rfl rfl rfl rfl Try.underlying24 rfl rfl) ?_
      refine vb_ext 10 rfl (by kernel_rfl) rfl (xt_buildSlice E52 rfl rfl rfl rfl) ?_
      refine vb_stM ?_
      refine vb_one 11 rfl (by kernel_rfl) rfl ?_
      refine vo_appendU E52 rfl (by omega) rfl rfl rfl sd sd fun Rt11 => ?_
      refine vo_stM ?_
      try simp only [app_ints, app_intss, app_bools, app_attrs3]
      refine vo_done ⟨rfl, ?_⟩
      refine vb_light0 12 rfl rfl rfl (by kernel_rfl) (by kernel_rfl) (by kernel_rfl) (wnt_none rfl) (l0_index_ref rfl rfl rfl E24.und inf52 sz52 sd sd) ?_
      try simp only [Int.toNat_natCast]
      refine vb_one 13 rfl (by kernel_rfl) rfl ?_
      refine vo_totree 5 rfl ((by first | exact plain_nilO _ | exact plain_nil1 | exact plain_attrs _ | exact plain_pairsX _)) ?_
      refine vo_stM ?_
      refine vo_weaktree 5 rfl ?_
      refine vo_stM ?_
      refine vo_put (p := .sl _ _ _) rfl rfl rfl rfl rfl rfl rfl hC rfl (by first | decide | simp [refsOf]) inf52 sz52 sd ?_
      refine vo_stM ?_
      try simp only [List.set_set, set_attrss]
      refine vo_done ⟨rfl, ?_⟩
      refine vb_nil (by kernel_rfl) ?_
      refine hK3 _ ?_
      refine vc_seq fun K12 hK12 => ?_
      refine vc_region ?_
      refine vo_load_varG rfl rfl rfl Try.underlying27 rfl inf27 sz27 rfl ?_
      refine vo_stM ?_
      refine vo_store_varG rfl rfl rfl rfl inf27 sz27 rfl ?_
      refine vo_stM ?_
      refine vo_nil ?_
      refine hK12 _ ?_
      refine vc_treeown 2 (by omega) rfl ?_
      refine vc_stM ?_
      refine vc_expose 2 (by omega) rfl ?_
      refine vc_stM ?_
      refine vc_treeown 3 (by omega) rfl ?_
      refine vc_stM ?_
      refine vc_expose 3 (by omega) rfl ?_
      refine vc_stM ?_
      refine vc_ret ?_
      change retQ _ _ _ _ _
      refine retQ_sel [] (srows := []) (.inr rfl) hC rfl rfl rfl rfl rfl rfl rfl ?_
      have hM := fun y => med1 ⟨hb1, hb2, hb3⟩ (by omega) ha2 ho1 ho2 y
      first
       | exact ⟨_, _, _, ⟨(hM y18).1, by omega⟩, rfl, rfl⟩
       | exact ⟨_, _, _, ⟨(hM y29).2.1, by omega⟩, rfl, rfl⟩
       | exact ⟨_, _, _, ⟨(hM 0).2.2.1, by omega⟩, rfl, rfl⟩
       | exact ⟨_, _, _, ⟨(hM 0).2.2.2, by omega⟩, rfl, rfl⟩
     ·refine sb_ext 10 rfl rfl (xt_buildSlice E52 rfl rfl rfl rfl) ?_
      refine vb_stM ?_
      refine vb_any2 1 11 (by kernel_rfl) ?_ ?_
      ·refine sb_light 1 rfl rfl rfl (wnt_none rfl) (lb_load_var hC rfl rfl rfl rfl Try.underlying24 rfl rfl) ?_
       refine vb_one 11 rfl (by kernel_rfl) rfl ?_
       refine vo_appendU E52 rfl (by omega) rfl rfl rfl sd sd fun Rt12 => ?_
       refine vo_stM ?_
       try simp only [app_ints, app_intss, app_bools, app_attrs3]
       refine vo_done ⟨rfl, ?_⟩
       refine vb_light0 12 rfl rfl rfl (by kernel_rfl) (by kernel_rfl) (by kernel_rfl) (wnt_none rfl) (l0_index_ref rfl rfl rfl E24.und inf52 sz52 sd sd) ?_
       try simp only [Int.toNat_natCast]
       refine vb_one 13 rfl (by kernel_rfl) rfl ?_
       refine vo_totree 5 rfl ((by first | exact plain_nilO _ | exact plain_nil1 | exact plain_attrs _ | exact plain_pairsX _)) ?_
       refine vo_stM ?_
       refine vo_weaktree 5 rfl ?_
       refine vo_stM ?_
       refine vo_put (p := .sl _ _ _) rfl rfl rfl rfl rfl rfl rfl hC rfl (by first | decide | simp [refsOf]) inf52 sz52 sd ?_
       refine vo_stM ?_
       try simp only [List.set_set, set_attrss]
       refine vo_done ⟨rfl, ?_⟩
       refine vb_nil (by kernel_rfl) ?_
       refine hK3 _ ?_
       refine vc_seq fun K13 hK13 => ?_
       refine vc_region ?_
       refine vo_load_varG rfl rfl rfl Try.underlying27 rfl inf27 sz27 rfl ?_
       refine vo_stM ?_
       refine vo_store_varG rfl rfl rfl rfl inf27 sz27 rfl ?_
       refine vo_stM ?_
       refine vo_nil ?_
       refine hK13 _ ?_
       refine vc_treeown 2 (by omega) rfl ?_
       refine vc_stM ?_
       refine vc_expose 2 (by omega) rfl ?_
       refine vc_stM ?_
       refine vc_treeown 3 (by omega) rfl ?_
       refine vc_stM ?_
       refine vc_expose 3 (by omega) rfl ?_
       refine vc_stM ?_
       refine vc_ret ?_
       change retQ _ _ _ _ _
       refine retQ_sel [] (srows := []) (.inr rfl) hC rfl rfl rfl rfl rfl rfl rfl ?_
       have hM := fun y => med1 ⟨hb1, hb2, hb3⟩ (by omega) ha2 ho1 ho2 y
       first
        | exact ⟨_, _, _, ⟨(hM y18).1, by omega⟩, rfl, rfl⟩
        | exact ⟨_, _, _, ⟨(hM y29).2.1, by omega⟩, rfl, rfl⟩
        | exact ⟨_, _, _, ⟨(hM 0).2.2.1, by omega⟩, rfl, rfl⟩
        | exact ⟨_, _, _, ⟨(hM 0).2.2.2, by omega⟩, rfl, rfl⟩
      ·refine sb_one 11 rfl (by kernel_rfl) ?_
       refine vo_appendU E52 rfl (by omega) rfl rfl rfl sd sd fun Rt13 => ?_
       refine vo_stM ?_
       try simp only [app_ints, app_intss, app_bools, app_attrs3]
       refine vo_done ⟨rfl, ?_⟩
       refine vb_any1 1 (by kernel_rfl) ?_
       refine sb_light 1 rfl rfl rfl (wnt_none rfl) (lb_load_var hC rfl rfl rfl rfl Try.underlying24 rfl rfl) ?_
       refine vb_light0 12 rfl rfl rfl (by kernel_rfl) (by kernel_rfl) (by kernel_rfl) (wnt_none rfl) (l0_index_ref rfl rfl rfl E24.und inf52 sz52 sd sd) ?_
       try simp only [Int.toNat_natCast]
       refine vb_one 13 rfl (by kernel_rfl) rfl ?_
       refine vo_totree 5 rfl ((by first | exact plain_nilO _ | exact plain_nil1 | exact plain_attrs _ | exact plain_pairsX _)) ?_
       refine vo_stM ?_
       refine vo_weaktree 5 rfl ?_
       refine vo_stM ?_
       refine vo_put (p := .sl _ _ _) rfl rfl rfl rfl rfl rfl rfl hC rfl (by first | decide | simp [refsOf]) inf52 sz52 sd ?_
       refine vo_stM ?_
       try simp only [List.set_set, set_attrss]
       refine vo_done ⟨rfl, ?_⟩
       refine vb_nil (by kernel_rfl) ?_
       refine hK3 _ ?_
       refine vc_seq fun K14 hK14 => ?_
       refine vc_region ?_
       refine vo_load_varG rfl rfl rfl Try.underlying27 rfl inf27 sz27 rfl ?_
       refine vo_stM ?_
       refine vo_store_varG rfl rfl rfl rfl inf27 sz27 rfl ?_
       refine vo_stM ?_
       refine vo_nil ?_
       refine hK14 _ ?_
       refine vc_treeown 2 (by omega) rfl ?_
       refine vc_stM ?_
       refine vc_expose 2 (by omega) rfl ?_
       refine vc_stM ?_
       refine vc_treeown 3 (by omega) rfl ?_
       refine vc_stM ?_
       refine vc_expose 3 (by omega) rfl ?_
       refine vc_stM ?_
       refine vc_ret ?_
       change retQ _ _ _ _ _
       refine retQ_sel [] (srows := []) (.inr rfl) hC rfl rfl rfl rfl rfl rfl rfl ?_
       have hM := fun y => med1 ⟨hb1, hb2, hb3⟩ (by omega) ha2 ho1 ho2 y
       first
        | exact ⟨_, _, _, ⟨(hM y18).1, by omega⟩, rfl, rfl⟩
        | exact ⟨_, _, _, ⟨(hM y29).2.1, by omega⟩, rfl, rfl⟩
        | exact ⟨_, _, _, ⟨(hM 0).2.2.1, by omega⟩, rfl, rfl⟩
        | exact ⟨_, _, _, ⟨(hM 0).2.2.2, by omega⟩, rfl, rfl⟩
  ·refine sb_ext 7 rfl rfl (xt_buildSlice E34 rfl rfl rfl rfl) ?_
   refine vb_stM ?_
   refine vb_expose 5 (by omega) rfl ?_
   refine vb_stM ?_
   refine vb_weaken 17 rfl ?_
   refine vb_stM ?_
   refine vb_any3 1 5 8 (by kernel_rfl) ?_ ?_ ?_
   ·refine sb_light 1 rfl rfl rfl (wnt_none rfl) (lb_load_var hC rfl rfl rfl rfl Try.underlying24 rfl rfl) ?_
    refine vb_any2 5 8 (by kernel_rfl) ?_ ?_
    ·refine sb_extE 5 rfl (fun _ => rfl) (xt_load_take1 rfl rfl (by omega) Try.underlying52 rfl (attrs_at0 (by omega))) fun Rf15 => ?_
     refine vb_stM ?_
     refine vb_treeown 6 (by omega) rfl ?_
     refine vb_stM ?_
     refine vb_any1 8 (by kernel_rfl) ?_
     refine sb_call 8 [0] hC rfl rfl (wnt_none rfl) Try.func99 rfl rfl rfl rfl rfl rfl rfl (one_sat (list := [_,_]) hc (by omega) (by simp) (by simp)) ?_
     rintro _ _ ⟨y18, hy18, rfl, rfl⟩
     refine ⟨Nat.le_of_ble_eq_true rfl, ⟨rfl, rfl, rfl, rfl⟩, .inl rfl, ?_⟩
     refine vb_stM ?_
     refine vb_light0 9 rfl rfl rfl (by kernel_rfl) (by kernel_rfl) (by kernel_rfl) (wnt_none rfl) (l0_build S31 rfl rfl) ?_
     refine vb_stM ?_
     refine vb_ext 10 rfl (by kernel_rfl) rfl (xt_buildSlice E52 rfl rfl rfl rfl) ?_
     refine vb_stM ?_
     refine vb_one 11 rfl (by kernel_rfl) rfl ?_
     refine vo_appendU E52 rfl (by omega) rfl rfl rfl sd sd fun Rt14 => ?_
     refine vo_stM ?_
     try simp only [app_ints, app_intss, app_bools, app_attrs3]
     refine vo_done ⟨rfl, ?_⟩
     refine vb_light0 12 rfl rfl rfl (by kernel_rfl) (by kernel_rfl) (by kernel_rfl) (wnt_none rfl) (l0_index_ref rfl rfl rfl E24.und inf52 sz52 sd sd) ?_
     try simp only [Int.toNat_natCast]
     refine vb_one 13 rfl (by kernel_rfl) rfl ?_
     refine vo_totree 6 rfl ((by first | exact plain_nilO _ | exact plain_nil1 | exact plain_attrs _ | exact plain_pairsX _)) ?_
     refine vo_stM ?_
     refine vo_weaktree 6 rfl ?_
     refine vo_stM ?_
     refine vo_put (p := .sl _ _ _) rfl rfl rfl rfl rfl rfl rfl hC rfl (by first | decide | simp [refsOf]) inf52 sz52 sd ?_
     refine vo_stM ?_
     try simp only [List.set_set, set_attrss]
     refine vo_done ⟨rfl, ?_⟩
     refine vb_nil (by kernel_rfl) ?_
     refine hK3 _ ?_
     refine vc_seq fun K15 hK15 => ?_
     refine vc_region ?_
     refine vo_load_varG rfl rfl rfl Try.underlying27 rfl inf27 sz27 rfl ?_
     refine vo_stM ?_
     refine vo_store_varG rfl rfl rfl rfl inf27 sz27 rfl ?_
     refine vo_stM ?_
     refine vo_nil ?_
     refine hK15 _ ?_
     refine vc_treeown 2 (by omega) rfl ?_
     refine vc_stM ?_
     refine vc_expose 2 (by omega) rfl ?_
     refine vc_stM ?_
     refine vc_treeown 3 (by omega) rfl ?_
     refine vc_stM ?_
     refine vc_expose 3 (by omega) rfl ?_
     refine vc_stM ?_
     refine vc_ret ?_
     change retQ _ _ _ _ _
     refine retQ_sel [] (srows := []) (.inr rfl) hC rfl rfl rfl rfl rfl rfl rfl ?_
     have hM := fun y => med1 ⟨hb1, hb2, hb3⟩ (by omega) ha2 ho1 ho2 y
     first
      | exact ⟨_, _, _, ⟨(hM y18).1, by omega⟩, rfl, rfl⟩
      | exact ⟨_, _, _, ⟨(hM y29).2.1, by omega⟩, rfl, rfl⟩
      | exact ⟨_, _, _, ⟨(hM 0).2.2.1, by omega⟩, rfl, rfl⟩
      | exact ⟨_, _, _, ⟨(hM 0).2.2.2, by omega⟩, rfl, rfl⟩
    ·refine sb_call 8 [0] hC rfl rfl (wnt_none rfl) Try.func99 rfl rfl rfl rfl rfl rfl rfl (one_sat (list := [_,_]) hc (by omega) (by simp) (by simp)) ?_
     rintro _ _ ⟨y18, hy18, rfl, rfl⟩
     refine ⟨Nat.le_of_ble_eq_true rfl, ⟨rfl, rfl, rfl, rfl⟩, .inl rfl, ?_⟩
     refine vb_stM ?_
     refine vb_light0 9 rfl rfl rfl (by kernel_rfl) (by kernel_rfl) (by kernel_rfl) (wnt_none rfl) (l0_build S31 rfl rfl) ?_
     refine vb_stM ?_
     refine vb_any2 5 10 (by kernel_rfl) ?_ ?_
     ·refine sb_extE 5 rfl (fun _ => rfl) (xt_load_take1 rfl rfl (by omega) Try.underlying52 rfl (attrs_at0 (by omega))) fun Rf15 => ?_
      refine vb_stM ?_
      refine vb_treeown 6 (by omega) rfl ?_
      refine vb_stM ?_
      refine vb_ext 10 rfl (by kernel_rfl) rfl (xt_buildSlice E52 rfl rfl rfl rfl) ?_
      refine vb_stM ?_
      refine vb_one 11 rfl (by kernel_rfl) rfl ?_
      refine vo_appendU E52 rfl (by omega) rfl rfl rfl sd sd fun Rt15 => ?_
      refine vo_stM ?_
      try simp only [app_ints, app_intss, app_bools, app_attrs3]
      refine vo_done ⟨rfl, ?_⟩
      refine vb_light0 12 rfl rfl rfl (by kernel_rfl) (by kernel_rfl) (by kernel_rfl) (wnt_none rfl) (l0_index_ref rfl rfl rfl E24.und inf52 sz52 sd sd) ?_
      try simp only [Int.toNat_natCast]
      refine vb_one 13 rfl (by kernel_rfl) rfl ?_
      refine vo_totree 6 rfl ((by first | exact plain_nilO _ | exact plain_nil1 | exact plain_attrs _ | exact plain_pairsX _)) ?_
      refine vo_stM ?_
      refine vo_weaktree 6 rfl ?_
      refine vo_stM ?_
      refine vo_put (p := .sl _ _ _) rfl rfl rfl rfl rfl rfl rfl hC rfl (by first | decide | simp [refsOf]) inf52 sz52 sd ?_
      refine vo_stM ?_
      try simp only [List.set_set, set_attrss]
      refine vo_done ⟨rfl, ?_⟩
      refine vb_nil (by kernel_rfl) ?_
      refine hK3 _ ?_
      refine vc_seq fun K16 hK16 => ?_
      refine vc_region ?_
      refine vo_load_varG rfl rfl rfl Try.underlying27 rfl inf27 sz27 rfl ?_
      refine vo_stM ?_
      refine vo_store_varG rfl rfl rfl rfl inf27 sz27 rfl ?_
      refine vo_stM ?_
      refine vo_nil ?_
      refine hK16 _ ?_
      refine vc_treeown 2 (by omega) rfl ?_
      refine vc_stM ?_
      refine vc_expose 2 (by omega) rfl ?_
      refine vc_stM ?_
      refine vc_treeown 3 (by omega) rfl ?_
      refine vc_stM ?_
      refine vc_expose 3 (by omega) rfl ?_
      refine vc_stM ?_
      refine vc_ret ?_
      change retQ _ _ _ _ _
      refine retQ_sel [] (srows := []) (.inr rfl) hC rfl rfl rfl rfl rfl rfl rfl ?_
      have hM := fun y => med1 ⟨hb1, hb2, hb3⟩ (by omega) ha2 ho1 ho2 y
      first
       | exact ⟨_, _, _, ⟨(hM y18).1, by omega⟩, rfl, rfl⟩
       | exact ⟨_, _, _, ⟨(hM y29).2.1, by omega⟩, rfl, rfl⟩
       | exact ⟨_, _, _, ⟨(hM 0).2.2.1, by omega⟩, rfl, rfl⟩
       | exact ⟨_, _, _, ⟨(hM 0).2.2.2, by omega⟩, rfl, rfl⟩
     ·refine sb_ext 10 rfl rfl (xt_buildSlice E52 rfl rfl rfl rfl) ?_
      refine vb_stM ?_
      refine vb_any1 5 (by kernel_rfl) ?_
      refine sb_extE 5 rfl (fun _ => rfl) (xt_load_take1 rfl rfl (by omega) Try.underlying52 rfl (attrs_at0 (by omega))) fun Rf15 => ?_
      refine vb_stM ?_
      refine vb_treeown 7 (by omega) rfl ?_
      refine vb_stM ?_
      refine vb_one 11 rfl (by kernel_rfl) rfl ?_
      refine vo_appendU E52 rfl (by omega) rfl rfl rfl sd sd fun Rt16 => ?_
      refine vo_stM ?_
      try simp only [app_ints, app_intss, app_bools, app_attrs3]
      refine vo_done ⟨rfl, ?_⟩
      refine vb_light0 12 rfl rfl rfl (by kernel_rfl) (by kernel_rfl) (by kernel_rfl) (wnt_none rfl) (l0_index_ref rfl rfl rfl E24.und inf52 sz52 sd sd) ?_
      try simp only [Int.toNat_natCast]
      refine vb_one 13 rfl (by kernel_rfl) rfl ?_
      refine vo_totree 7 rfl ((by first | exact plain_nilO _ | exact plain_nil1 | exact plain_attrs _ | exact plain_pairsX _)) ?_
      refine vo_stM ?_
      refine vo_weaktree 7 rfl ?_
      refine vo_stM ?_
      refine vo_put (p := .sl _ _ _) rfl rfl rfl rfl rfl rfl rfl hC rfl (by first | decide | simp [refsOf]) inf52 sz52 sd ?_
      refine vo_stM ?_
      try simp only [List.set_set, set_attrss]
      refine vo_done ⟨rfl, ?_⟩
      refine vb_nil (by kernel_rfl) ?_
      refine hK3 _ ?_
      refine vc_seq fun K17 hK17 => ?_
      refine vc_region ?_
      refine vo_load_varG rfl rfl rfl Try.underlying27 rfl inf27 sz27 rfl ?_
      refine vo_stM ?_
      refine vo_store_varG rfl rfl rfl rfl inf27 sz27 rfl ?_
      refine vo_stM ?_
      refine vo_nil ?_
      refine hK17 _ ?_
      refine vc_treeown 2 (by omega) rfl ?_
      refine vc_stM ?_
      refine vc_expose 2 (by omega) rfl ?_
      refine vc_stM ?_
      refine vc_treeown 3 (by omega) rfl ?_
      refine vc_stM ?_
      refine vc_expose 3 (by omega) rfl ?_
      refine vc_stM ?_
      refine vc_ret ?_
      change retQ _ _ _ _ _
      refine retQ_sel [] (srows := []) (.inr rfl) hC rfl rfl rfl rfl rfl rfl rfl ?_
      have hM := fun y => med1 ⟨hb1, hb2, hb3⟩ (by omega) ha2 ho1 ho2 y
      first
       | exact ⟨_, _, _, ⟨(hM y18).1, by omega⟩, rfl, rfl⟩
       | exact ⟨_, _, _, ⟨(hM y29).2.1, by omega⟩, rfl, rfl⟩
       | exact ⟨_, _, _, ⟨(hM 0).2.2.1, by omega⟩, rfl, rfl⟩
       | exact ⟨_, _, _, ⟨(hM 0).2.2.2, by omega⟩, rfl, rfl⟩
   ·refine sb_extE 5 rfl (fun _ => rfl) (xt_load_take1 rfl rfl (by omega) Try.underlying52 rfl (attrs_at0 (by omega))) fun Rf15 => ?_
    refine vb_stM ?_
    refine vb_treeown 6 (by omega) rfl ?_
    refine vb_stM ?_
    refine vb_any2 1 8 (by kernel_rfl) ?_ ?_
    ·refine sb_light 1 rfl rfl rfl (wnt_none rfl) (lb_load_var hC rfl rfl rfl rfl Try.underlying24 rfl rfl) ?_
     refine vb_any1 8 (by kernel_rfl) ?_
     refine sb_call 8 [0] hC rfl rfl (wnt_none rfl) Try.func99 rfl rfl rfl rfl rfl rfl rfl (one_sat (list := [_,_]) hc (by omega) (by simp) (by simp)) ?_
     rintro _ _ ⟨y18, hy18, rfl, rfl⟩
     refine ⟨Nat.le_of_ble_eq_true rfl, ⟨rfl, rfl, rfl, rfl⟩, .inl rfl, ?_⟩
     refine vb_stM ?_
     refine vb_light0 9 rfl rfl rfl (by kernel_rfl) (by kernel_rfl) (by kernel_rfl) (wnt_none rfl) (l0_build S31 rfl rfl) ?_
     refine vb_stM ?_
     refine vb_ext 10 rfl (by kernel_rfl) rfl (xt_buildSlice E52 rfl rfl rfl rfl) ?_
     refine vb_stM ?_
     refine vb_one 11 rfl (by kernel_rfl) rfl ?_
     refine vo_appendU E52 rfl (by omega) rfl rfl rfl sd sd fun Rt17 => ?_
     refine vo_stM ?_
     try simp only [app_ints, app_intss, app_bools, app_attrs3]
     refine vo_done ⟨rfl, ?_⟩
     refine vb_light0 12 rfl rfl rfl (by kernel_rfl) (by kernel_rfl) (by kernel_rfl) (wnt_none rfl) (l0_index_ref rfl rfl rfl E24.und inf52 sz52 sd sd) ?_
     try simp only [Int.toNat_natCast]
     refine vb_one 13 rfl (by kernel_rfl) rfl ?_
     refine vo_totree 6 rfl ((by first | exact plain_nilO _ | exact plain_nil1 | exact plain_attrs _ | exact plain_pairsX _)) ?_
     refine vo_stM ?_
     refine vo_weaktree 6 rfl ?_
     refine vo_stM ?_
     refine vo_put (p := .sl _ _ _) rfl rfl rfl rfl rfl rfl rfl hC rfl (by first | decide | simp [refsOf]) inf52 sz52 sd ?_
     refine vo_stM ?_
     try simp only [List.set_set, set_attrss]
     refine vo_done ⟨rfl, ?_⟩
     refine vb_nil (by kernel_rfl) ?_
     refine hK3 _ ?_
     refine vc_seq fun K18 hK18 => ?_
     refine vc_region ?_
     refine vo_load_varG rfl rfl rfl Try.underlying27 rfl inf27 sz27 rfl ?_
     refine vo_stM ?_
     refine vo_store_varG rfl rfl rfl rfl inf27 sz27 rfl ?_
     refine vo_stM ?_
     refine vo_nil ?_
     refine hK18 _ ?_
     refine vc_treeown 2 (by omega) rfl ?_
     refine vc_stM ?_
     refine vc_expose 2 (by omega) rfl ?_
     refine vc_stM ?_
     refine vc_treeown 3 (by omega) rfl ?_
     refine vc_stM ?_
     refine vc_expose 3 (by omega) rfl ?_
     refine vc_stM ?_
     refine vc_ret ?_
     change retQ _ _ _ _ _
     refine retQ_sel [] (srows := []) (.inr rfl) hC rfl rfl rfl rfl rfl rfl rfl ?_
     have hM := fun y => med1 ⟨hb1, hb2, hb3⟩ (by omega) ha2 ho1 ho2 y
     first
      | exact ⟨_, _, _, ⟨(hM y18).1, by omega⟩, rfl, rfl⟩
      | exact ⟨_, _, _, ⟨(hM y29).2.1, by omega⟩, rfl, rfl⟩
      | exact ⟨_, _, _, ⟨(hM 0).2.2.1, by omega⟩, rfl, rfl⟩
      | exact ⟨_, _, _, ⟨(hM 0).2.2.2, by omega⟩, rfl, rfl⟩
    ·refine sb_call 8 [0] hC rfl rfl (wnt_none rfl) Try.func99 rfl rfl rfl rfl rfl rfl rfl (one_sat (list := [_,_]) hc (by omega) (by simp) (by simp)) ?_
     rintro _ _ ⟨y18, hy18, rfl, rfl⟩
     refine ⟨Nat.le_of_ble_eq_true rfl, ⟨rfl, rfl, rfl, rfl⟩, .inl rfl, ?_⟩
     refine vb_stM ?_
     refine vb_light0 9 rfl rfl rfl (by kernel_rfl) (by kernel_rfl) (by kernel_rfl) (wnt_none rfl) (l0_build S31 rfl rfl) ?_
     refine vb_stM ?_
     refine vb_any2 1 10 (by kernel_rfl) ?_ ?_
     ·refine sb_light 1 rfl rfl rfl (wnt_none rfl) (lb_load_var hC rfl rfl rfl rfl Try.underlying24 rfl rfl) ?_
      refine vb_ext 10 rfl (by kernel_rfl) rfl (xt_buildSlice E52 rfl rfl rfl rfl) ?_
      refine vb_stM ?_
      refine vb_one 11 rfl (by kernel_rfl) rfl ?_
      refine vo_appendU E52 rfl (by omega) rfl rfl rfl sd sd fun Rt18 => ?_
      refine vo_stM ?_
      try simp only [app_ints, app_intss, app_bools, app_attrs3]
      refine vo_done ⟨rfl, ?_⟩
      refine vb_light0 12 rfl rfl rfl (by kernel_rfl) (by kernel_rfl) (by kernel_rfl) (wnt_none rfl) (l0_index_ref rfl rfl rfl E24.und inf52 sz52 sd sd) ?_
      try simp only [Int.toNat_natCast]
      refine vb_one 13 rfl (by kernel_rfl) rfl ?_
      refine vo_totree 6 rfl ((by first | exact plain_nilO _ | exact plain_nil1 | exact plain_attrs _ | exact plain_pairsX _)) ?_
      refine vo_stM ?_
      refine vo_weaktree 6 rfl ?_
      refine vo_stM ?_
      refine vo_put (p := .sl _ _ _) rfl rfl rfl rfl rfl rfl rfl hC rfl (by first | decide | simp [refsOf]) inf52 sz52 sd ?_
      refine vo_stM ?_
      try simp only [List.set_set, set_attrss]
      refine vo_done ⟨rfl, ?_⟩
      refine vb_nil (by kernel_rfl) ?_
      refine hK3 _ ?_
      refine vc_seq fun K19 hK19 => ?_
      refine vc_region ?_
      refine vo_load_varG rfl rfl rfl Try.underlying27 rfl inf27 sz27 rfl ?_
      refine vo_stM ?_
      refine vo_store_varG rfl rfl rfl rfl inf27 sz27 rfl ?_
      refine vo_stM ?_
      refine vo_nil ?_
      refine hK19 _ ?_
      refine vc_treeown 2 (by omega) rfl ?_
      refine vc_stM ?_
      refine vc_expose 2 (by omega) rfl ?_
      refine vc_stM ?_
      refine vc_treeown 3 (by omega) rfl ?_
      refine vc_stM ?_
      refine vc_expose 3 (by omega) rfl ?_
      refine vc_stM ?_
      refine vc_ret ?_
      change retQ _ _ _ _ _
      refine retQ_sel [] (srows := []) (.inr rfl) hC rfl rfl rfl rfl rfl rfl rfl ?_
      have hM := fun y => med1 ⟨hb1, hb2, hb3⟩ (by omega) ha2 ho1 ho2 y
      first
       | exact ⟨_, _, _, ⟨(hM y18).1, by omega⟩, rfl, rfl⟩
       | exact ⟨_, _, _, ⟨(hM y29).2.1, by omega⟩, rfl, rfl⟩
       | exact ⟨_, _, _, ⟨(hM 0).2.2.1, by omega⟩, rfl, rfl⟩
       | exact ⟨_, _, _, ⟨(hM 0).2.2.2, by omega⟩, rfl, rfl⟩
     ·refine sb_ext 10 rfl rfl (xt_buildSlice E52 rfl rfl rfl rfl) ?_
      refine vb_stM ?_
      refine vb_any2 1 11 (by kernel_rfl) ?_ ?_
      ·refine sb_light 1 rfl rfl rfl (wnt_none rfl) (lb_load_var hC rfl rfl rfl rfl Try.underlying24 rfl rfl) ?_
       refine vb_one 11 rfl (by kernel_rfl) rfl ?_
       refine vo_appendU E52 rfl (by omega) rfl rfl rfl sd sd fun Rt19 => ?_
       refine vo_stM ?_
       try simp only [app_ints, app_intss, app_bools, app_attrs3]
       refine vo_done ⟨rfl, ?_⟩
       refine vb_light0 12 rfl rfl rfl (by kernel_rfl) (by kernel_rfl) (by kernel_rfl) (wnt_none rfl) (l0_index_ref rfl rfl rfl E24.und inf52 sz52 sd sd) ?_
       try simp only [Int.toNat_natCast]
       refine vb_one 13 rfl (by kernel_rfl) rfl ?_
       refine vo_totree 6 rfl ((by first | exact plain_nilO _ | exact plain_nil1 | exact plain_attrs _ | exact plain_pairsX _)) ?_
       refine vo_stM ?_
       refine vo_weaktree 6 rfl ?_
       refine vo_stM ?_
       refine vo_put (p := .sl _ _ _) rfl rfl rfl rfl rfl rfl rfl hC rfl (by first | decide | simp [refsOf]) inf52 sz52 sd ?_
       refine vo_stM ?_
       try simp only [List.set_set, set_attrss]
       refine vo_done ⟨rfl, ?_⟩
       refine vb_nil (by kernel_rfl) ?_
       refine hK3 _ ?_
       refine vc_seq fun K20 hK20 => ?_
       refine vc_region ?_
       refine vo_load_varG rfl rfl rfl Try.underlying27 rfl inf27 sz27 rfl ?_
       refine vo_stM ?_
       refine vo_store_varG rfl rfl rfl rfl inf27 sz27 rfl ?_
       refine vo_stM ?_
       refine vo_nil ?_
       refine hK20 _ ?_
       refine vc_treeown 2 (by omega) rfl ?_
       refine vc_stM ?_
       refine vc_expose 2 (by omega) rfl ?_
       refine vc_stM ?_
       refine vc_treeown 3 (by omega) rfl ?_
       refine vc_stM ?_
       refine vc_expose 3 (by omega) rfl ?_
       refine vc_stM ?_
       refine vc_ret ?_
       change retQ _ _ _ _ _
       refine retQ_sel [] (srows := []) (.inr rfl) hC rfl rfl rfl rfl rfl rfl rfl ?_
       have hM := fun y => med1 ⟨hb1, hb2, hb3⟩ (by omega) ha2 ho1 ho2 y
       first
        | exact ⟨_, _, _, ⟨(hM y18).1, by omega⟩, rfl, rfl⟩
        | exact ⟨_, _, _, ⟨(hM y29).2.1, by omega⟩, rfl, rfl⟩
        | exact ⟨_, _, _, ⟨(hM 0).2.2.1, by omega⟩, rfl, rfl⟩
        | exact ⟨_, _, _, ⟨(hM 0).2.2.2, by omega⟩, rfl, rfl⟩
      ·refine sb_one 11 rfl (by kernel_rfl) ?_
       refine vo_appendU E52 rfl (by omega) rfl rfl rfl sd sd fun Rt20 => ?_
       refine vo_stM ?_
       try simp only [app_ints, app_intss, app_bools, app_attrs3]
       refine vo_done ⟨rfl, ?_⟩
       refine vb_any1 1 (by kernel_rfl) ?_
       refine sb_light 1 rfl rfl rfl (wnt_none rfl) (lb_load_var hC rfl rfl rfl rfl Try.underlying24 rfl rfl) ?_
       refine vb_light0 12 rfl rfl rfl (by kernel_rfl) (by kernel_rfl) (by kernel_rfl) (wnt_none rfl) (l0_index_ref rfl rfl rfl E24.und inf52 sz52 sd sd) ?_
       try simp only [Int.toNat_natCast]
       refine vb_one 13 rfl (by kernel_rfl) rfl ?_
       refine vo_totree 6 rfl ((by first | exact plain_nilO _ | exact plain_nil1 | exact plain_attrs _ | exact plain_pairsX _)) ?_
       refine vo_stM ?_
       refine vo_weaktree 6 rfl ?_
       refine vo_stM ?_
       refine vo_put (p := .sl _ _ _) rfl rfl rfl rfl rfl rfl rfl hC rfl (by first | decide | simp [refsOf]) inf52 sz52 sd ?_
       refine vo_stM ?_
       try simp only [List.set_set, set_attrss]
       refine vo_done ⟨rfl, ?_⟩
       refine vb_nil (by kernel_rfl) ?_
       refine hK3 _ ?_
       refine vc_seq fun K21 hK21 => ?_
       refine vc_region ?_
       refine vo_load_varG rfl rfl rfl Try.underlying27 rfl inf27 sz27 rfl ?_
       refine vo_stM ?_
       refine vo_store_varG rfl rfl rfl rfl inf27 sz27 rfl ?_
       refine vo_stM ?_
       refine vo_nil ?_
       refine hK21 _ ?_
       refine vc_treeown 2 (by omega) rfl ?_
       refine vc_stM ?_
       refine vc_expose 2 (by omega) rfl ?_
       refine vc_stM ?_
       refine vc_treeown 3 (by omega) rfl ?_
       refine vc_stM ?_
       refine vc_expose 3 (by omega) rfl ?_
       refine vc_stM ?_
       refine vc_ret ?_
       change retQ _ _ _ _ _
       refine retQ_sel [] (srows := []) (.inr rfl) hC rfl rfl rfl rfl rfl rfl rfl ?_
       have hM := fun y => med1 ⟨hb1, hb2, hb3⟩ (by omega) ha2 ho1 ho2 y
       first
        | exact ⟨_, _, _, ⟨(hM y18).1, by omega⟩, rfl, rfl⟩
        | exact ⟨_, _, _, ⟨(hM y29).2.1, by omega⟩, rfl, rfl⟩
        | exact ⟨_, _, _, ⟨(hM 0).2.2.1, by omega⟩, rfl, rfl⟩
        | exact ⟨_, _, _, ⟨(hM 0).2.2.2, by omega⟩, rfl, rfl⟩
   ·refine sb_call 8 [0] hC rfl rfl (wnt_none rfl) Try.func99 rfl rfl rfl rfl rfl rfl rfl (one_sat (list := [_,_]) hc (by omega) (by simp) (by simp)) ?_
    rintro _ _ ⟨y18, hy18, rfl, rfl⟩
    refine ⟨Nat.le_of_ble_eq_true rfl, ⟨rfl, rfl, rfl, rfl⟩, .inl rfl, ?_⟩
    refine vb_stM ?_
    refine vb_light0 9 rfl rfl rfl (by kernel_rfl) (by kernel_rfl) (by kernel_rfl) (wnt_none rfl) (l0_build S31 rfl rfl) ?_
    refine vb_stM ?_
    refine vb_any3 1 5 10 (by kernel_rfl) ?_ ?_ ?_
    ·refine sb_light 1 rfl rfl rfl (wnt_none rfl) (lb_load_var hC rfl rfl rfl rfl Try.underlying24 rfl rfl) ?_
     refine vb_any2 5 10 (by kernel_rfl) ?_ ?_
     ·refine sb_extE 5 rfl (fun _ => rfl) (xt_load_take1 rfl rfl (by omega) Try.underlying52 rfl (attrs_at0 (by omega))) fun Rf15 => ?_
      refine vb_stM ?_
      refine vb_treeown 6 (by omega) rfl ?_
      refine vb_stM ?_
      refine vb_ext 10 rfl (by kernel_rfl) rfl (xt_buildSlice E52 rfl rfl rfl rfl) ?_
      refine vb_stM ?_
      refine vb_one 11 rfl (by kernel_rfl) rfl ?_
      refine vo_appendU E52 rfl (by omega) rfl rfl rfl sd sd fun Rt21 => ?_
      refine vo_stM ?_
      try simp only [app_ints, app_intss, app_bools, app_attrs3]
      refine vo_done ⟨rfl, ?_⟩
      refine vb_light0 12 rfl rfl rfl (by kernel_rfl) (by kernel_rfl) (by kernel_rfl) (wnt_none rfl) (l0_index_ref rfl rfl rfl E24.und inf52 sz52 sd sd) ?_
      try simp only [Int.toNat_natCast]
      refine vb_one 13 rfl (by kernel_rfl) rfl ?_
      refine vo_totree 6 rfl ((by first | exact plain_nilO _ | exact plain_nil1 | exact plain_attrs _ | exact plain_pairsX _)) ?_
      refine vo_stM ?_
      refine vo_weaktree 6 rfl ?_
      refine vo_stM ?_
      refine vo_put (p := .sl _ _ _) rfl rfl rfl rfl rfl rfl rfl hC rfl (by first | decide | simp [refsOf]) inf52 sz52 sd ?_
      refine vo_stM ?_
      try simp only [List.set_set, set_attrss]
      refine vo_done ⟨rfl, ?_⟩
      refine vb_nil (by kernel_rfl) ?_
      refine hK3 _ ?_
      refine vc_seq fun K22 hK22 => ?_
      refine vc_region ?_
      refine vo_load_varG rfl rfl rfl Try.underlying27 rfl inf27 sz27 rfl ?_
      refine vo_stM ?_
      refine vo_store_varG rfl rfl rfl rfl inf27 sz27 rfl ?_
      refine vo_stM ?_
      refine vo_nil ?_
      refine hK22 _ ?_
      refine vc_treeown 2 (by omega) rfl ?_
      refine vc_stM ?_
      refine vc_expose 2 (by omega) rfl ?_
      refine vc_stM ?_
      refine vc_treeown 3 (by omega) rfl ?_
      refine vc_stM ?_
      refine vc_expose 3 (by omega) rfl ?_
      refine vc_stM ?_
      refine vc_ret ?_
      change retQ _ _ _ _ _
      refine retQ_sel [] (srows := []) (.inr rfl) hC rfl rfl rfl rfl rfl rfl rfl ?_
      have hM := fun y => med1 ⟨hb1, hb2, hb3⟩ (by omega) ha2 ho1 ho2 y
      first
       | exact ⟨_, _, _, ⟨(hM y18).1, by omega⟩, rfl, rfl⟩
       | exact ⟨_, _, _, ⟨(hM y29).2.1, by omega⟩, rfl, rfl⟩
       | exact ⟨_, _, _, ⟨(hM 0).2.2.1, by omega⟩, rfl, rfl⟩
       | exact ⟨_, _, _, ⟨(hM 0).2.2.2, by omega⟩, rfl, rfl⟩
     ·refine sb_ext 10 rfl rfl (xt_buildSlice E52 rfl rfl rfl rfl) ?_
      refine vb_stM ?_
      refine vb_any1 5 (by kernel_rfl) ?_
      refine sb_extE 5 rfl (fun _ => rfl) (xt_load_take1 rfl rfl (by omega) Try.underlying52 rfl (attrs_at0 (by omega))) fun Rf15 => ?_
      refine vb_stM ?_
      refine vb_treeown 7 (by omega) rfl ?_
      refine vb_stM ?_
      refine vb_one 11 rfl (by kernel_rfl) rfl ?_
      refine vo_appendU E52 rfl (by omega) rfl rfl rfl sd sd fun Rt22 => ?_
      refine vo_stM ?_
      try simp only [app_ints, app_intss, app_bools, app_attrs3]
      refine vo_done ⟨rfl, ?_⟩
      refine vb_light0 12 rfl rfl rfl (by kernel_rfl) (by kernel_rfl) (by kernel_rfl) (wnt_none rfl) (l0_index_ref rfl rfl rfl E24.und inf52 sz52 sd sd) ?_
      try simp only [Int.toNat_natCast]
      refine vb_one 13 rfl (by kernel_rfl) rfl ?_
      refine vo_totree 7 rfl ((by first | exact plain_nilO _ | exact plain_nil1 | exact plain_attrs _ | exact plain_pairsX _)) ?_
      refine vo_stM ?_
      refine vo_weaktree 7 rfl ?_
      refine vo_stM ?_
      refine vo_put (p := .sl _ _ _) rfl rfl rfl rfl rfl rfl rfl hC rfl (by first | decide | simp [refsOf]) inf52 sz52 sd ?_
      refine vo_stM ?_
      try simp only [List.set_set, set_attrss]
      refine vo_done ⟨rfl, ?_⟩
      refine vb_nil (by kernel_rfl) ?_
      refine hK3 _ ?_
      refine vc_seq fun K23 hK23 => ?_
      refine vc_region ?_
      refine vo_load_varG rfl rfl rfl Try.underlying27 rfl inf27 sz27 rfl ?_
      refine vo_stM ?_
      refine vo_store_varG rfl rfl rfl rfl inf27 sz27 rfl ?_
      refine vo_stM ?_
      refine vo_nil ?_
      refine hK23 _ ?_
      refine vc_treeown 2 (by omega) rfl ?_
      refine vc_stM ?_
      refine vc_expose 2 (by omega) rfl ?_
      refine vc_stM ?_
      refine vc_treeown 3 (by omega) rfl ?_
      refine vc_stM ?_
      refine vc_expose 3 (by omega) rfl ?_
      refine vc_stM ?_
      refine vc_ret ?_
      change retQ _ _ _ _ _
      refine retQ_sel [] (srows := []) (.inr rfl) hC rfl rfl rfl rfl rfl rfl rfl ?_
      have hM := fun y => med1 ⟨hb1, hb2, hb3⟩ (by omega) ha2 ho1 ho2 y
      first
       | exact ⟨_, _, _, ⟨(hM y18).1, by omega⟩, rfl, rfl⟩
       | exact ⟨_, _, _, ⟨(hM y29).2.1, by omega⟩, rfl, rfl⟩
       | exact ⟨_, _, _, ⟨(hM 0).2.2.1, by omega⟩, rfl, rfl⟩
       | exact ⟨_, _, _, ⟨(hM 0).2.2.2, by omega⟩, rfl, rfl⟩
    ·refine sb_extE 5 rfl (fun _ => rfl) (xt_load_take1 rfl rfl (by omega) Try.underlying52 rfl (attrs_at0 (by omega))) fun Rf15 => ?_
     refine vb_stM ?_
     refine vb_treeown 6 (by omega) rfl ?_
     refine vb_stM ?_
     refine vb_any2 1 10 (by kernel_rfl) ?_ ?_
     ·refine sb_light 1 rfl rfl rfl (wnt_none rfl) (lb_load_var hC rfl rfl rfl rfl Try.underlying24 rfl rfl) ?_
      refine vb_ext 10 rfl (by kernel_rfl) rfl (xt_buildSlice E52 rfl rfl rfl rfl) ?_
      refine vb_stM ?_
      refine vb_one 11 rfl (by kernel_rfl) rfl ?_
      refine vo_appendU E52 rfl (by omega) rfl rfl rfl sd sd fun Rt23 => ?_
      refine vo_stM ?_
      try simp only [app_ints, app_intss, app_bools, app_attrs3]
      refine vo_done ⟨rfl, ?_⟩
      refine vb_light0 12 rfl rfl rfl (by kernel_rfl) (by kernel_rfl) (by kernel_rfl) (wnt_none rfl) (l0_index_ref rfl rfl rfl E24.und inf52 sz52 sd sd) ?_
      try simp only [Int.toNat_natCast]
      refine vb_one 13 rfl (by kernel_rfl) rfl ?_
      refine vo_totree 6 rfl ((by first | exact plain_nilO _ | exact plain_nil1 | exact plain_attrs _ | exact plain_pairsX _)) ?_
      refine vo_stM ?_
      refine vo_weaktree 6 rfl ?_
      refine vo_stM ?_
      refine vo_put (p := .sl _ _ _) rfl rfl rfl rfl rfl rfl rfl hC rfl (by first | decide | simp [refsOf]) inf52 sz52 sd ?_
      refine vo_stM ?_
      try simp only [List.set_set, set_attrss]
      refine vo_done ⟨rfl, ?_⟩
      refine vb_nil (by kernel_rfl) ?_
      refine hK3 _ ?_
      refine vc_seq fun K24 hK24 => ?_
      refine vc_region ?_
      refine vo_load_varG rfl rfl rfl Try.underlying27 rfl inf27 sz27 rfl ?_
      refine vo_stM ?_
      refine vo_store_varG rfl rfl rfl rfl inf27 sz27 rfl ?_
      refine vo_stM ?_
      refine vo_nil ?_
      refine hK24 _ ?_
      refine vc_treeown 2 (by omega) rfl ?_
      refine vc_stM ?_
      refine vc_expose 2 (by omega) rfl ?_
      refine vc_stM ?_
      refine vc_treeown 3 (by omega) rfl ?_
      refine vc_stM ?_
      refine vc_expose 3 (by omega) rfl ?_
      refine vc_stM ?_
      refine vc_ret ?_
      change retQ _ _ _ _ _
      refine retQ_sel [] (srows := []) (.inr rfl) hC rfl rfl rfl rfl rfl rfl rfl ?_
      have hM := fun y => med1 ⟨hb1, hb2, hb3⟩ (by omega) ha2 ho1 ho2 y
      first
       | exact ⟨_, _, _, ⟨(hM y18).1, by omega⟩, rfl, rfl⟩
       | exact ⟨_, _, _, ⟨(hM y29).2.1, by omega⟩, rfl, rfl⟩
       | exact ⟨_, _, _, ⟨(hM 0).2.2.1, by omega⟩, rfl, rfl⟩
       | exact ⟨_, _, _, ⟨(hM 0).2.2.2, by omega⟩, rfl, rfl⟩
     ·refine sb_ext 10 rfl rfl (xt_buildSlice E52 rfl rfl rfl rfl) ?_
      refine vb_stM ?_
      refine vb_any2 1 11 (by kernel_rfl) ?_ ?_
      ·refine sb_light 1 rfl rfl rfl (wnt_none rfl) (lb_load_var hC rfl rfl rfl rfl Try.underlying24 rfl rfl) ?_
       refine vb_one 11 rfl (by kernel_rfl) rfl ?_
       refine vo_appendU E52 rfl (by omega) rfl rfl rfl sd sd fun Rt24 => ?_
       refine vo_stM ?_
       try simp only [app_ints, app_intss, app_bools, app_attrs3]
       refine vo_done ⟨rfl, ?_⟩
       refine vb_light0 12 rfl rfl rfl (by kernel_rfl) (by kernel_rfl) (by kernel_rfl) (wnt_none rfl) (l0_index_ref rfl rfl rfl E24.und inf52 sz52 sd sd) ?_
       try simp only [Int.toNat_natCast]
       refine vb_one 13 rfl (by kernel_rfl) rfl ?_
       refine vo_totree 6 rfl ((by first | exact plain_nilO _ | exact plain_nil1 | exact plain_attrs _ | exact plain_pairsX _)) ?_
       refine vo_stM ?_
       refine vo_weaktree 6 rfl ?_
       refine vo_stM ?_
       refine vo_put (p := .sl _ _ _) rfl rfl rfl rfl rfl rfl rfl hC rfl (by first | decide | simp [refsOf]) inf52 sz52 sd ?_
       refine vo_stM ?_
       try simp only [List.set_set, set_attrss]
       refine vo_done ⟨rfl, ?_⟩
       refine vb_nil (by kernel_rfl) ?_
       refine hK3 _ ?_
       refine vc_seq fun K25 hK25 => ?_
       refine vc_region ?_
       refine vo_load_varG rfl rfl rfl Try.underlying27 rfl inf27 sz27 rfl ?_
       refine vo_stM ?_
       refine vo_store_varG rfl rfl rfl rfl inf27 sz27 rfl ?_
       refine vo_stM ?_
       refine vo_nil ?_
       refine hK25 _ ?_
       refine vc_treeown 2 (by omega) rfl ?_
       refine vc_stM ?_
       refine vc_expose 2 (by omega) rfl ?_
       refine vc_stM ?_
       refine vc_treeown 3 (by omega) rfl ?_
       refine vc_stM ?_
       refine vc_expose 3 (by omega) rfl ?_
       refine vc_stM ?_
       refine vc_ret ?_
       change retQ _ _ _ _ _
       refine retQ_sel [] (srows := []) (.inr rfl) hC rfl rfl rfl rfl rfl rfl rfl ?_
       have hM := fun y => med1 ⟨hb1, hb2, hb3⟩ (by omega) ha2 ho1 ho2 y
       first
        | exact ⟨_, _, _, ⟨(hM y18).1, by omega⟩, rfl, rfl⟩
        | exact ⟨_, _, _, ⟨(hM y29).2.1, by omega⟩, rfl, rfl⟩
        | exact ⟨_, _, _, ⟨(hM 0).2.2.1, by omega⟩, rfl, rfl⟩
        | exact ⟨_, _, _, ⟨(hM 0).2.2.2, by omega⟩, rfl, rfl⟩
      ·refine sb_one 11 rfl (by kernel_rfl) ?_
       refine vo_appendU E52 rfl (by omega) rfl rfl rfl sd sd fun Rt25 => ?_
       refine vo_stM ?_
       try simp only [app_ints, app_intss, app_bools, app_attrs3]
       refine vo_done ⟨rfl, ?_⟩
       refine vb_any1 1 (by kernel_rfl) ?_
       refine sb_light 1 rfl rfl rfl (wnt_none rfl) (lb_load_var hC rfl rfl rfl rfl Try.underlying24 rfl rfl) ?_
       refine vb_light0 12 rfl rfl rfl (by kernel_rfl) (by kernel_rfl) (by kernel_rfl) (wnt_none rfl) (l0_index_ref rfl rfl rfl E24.und inf52 sz52 sd sd) ?_
       try simp only [Int.toNat_natCast]
       refine vb_one 13 rfl (by kernel_rfl) rfl ?_
       refine vo_totree 6 rfl ((by first | exact plain_nilO _ | exact plain_nil1 | exact plain_attrs _ | exact plain_pairsX _)) ?_
       refine vo_stM ?_
       refine vo_weaktree 6 rfl ?_
       refine vo_stM ?_
       refine vo_put (p := .sl _ _ _) rfl rfl rfl rfl rfl rfl rfl hC rfl (by first | decide | simp [refsOf]) inf52 sz52 sd ?_
       refine vo_stM ?_
       try simp only [List.set_set, set_attrss]
       refine vo_done ⟨rfl, ?_⟩
       refine vb_nil (by kernel_rfl) ?_
       refine hK3 _ ?_
       refine vc_seq fun K26 hK26 => ?_
       refine vc_region ?_
       refine vo_load_varG rfl rfl rfl Try.underlying27 rfl inf27 sz27 rfl ?_
       refine vo_stM ?_
       refine vo_store_varG rfl rfl rfl rfl inf27 sz27 rfl ?_
       refine vo_stM ?_
       refine vo_nil ?_
       refine hK26 _ ?_
       refine vc_treeown 2 (by omega) rfl ?_
       refine vc_stM ?_
       refine vc_expose 2 (by omega) rfl ?_
       refine vc_stM ?_
       refine vc_treeown 3 (by omega) rfl ?_
       refine vc_stM ?_
       refine vc_expose 3 (by omega) rfl ?_
       refine vc_stM ?_
       refine vc_ret ?_
       change retQ _ _ _ _ _
       refine retQ_sel [] (srows := []) (.inr rfl) hC rfl rfl rfl rfl rfl rfl rfl ?_
       have hM := fun y => med1 ⟨hb1, hb2, hb3⟩ (by omega) ha2 ho1 ho2 y
       first
        | exact ⟨_, _, _, ⟨(hM y18).1, by omega⟩, rfl, rfl⟩
        | exact ⟨_, _, _, ⟨(hM y29).2.1, by omega⟩, rfl, rfl⟩
        | exact ⟨_, _, _, ⟨(hM 0).2.2.1, by omega⟩, rfl, rfl⟩
        | exact ⟨_, _, _, ⟨(hM 0).2.2.2, by omega⟩, rfl, rfl⟩
    ·refine sb_ext 10 rfl rfl (xt_buildSlice E52 rfl rfl rfl rfl) ?_
     refine vb_stM ?_
     refine vb_any2 1 5 (by kernel_rfl) ?_ ?_
     ·refine sb_light 1 rfl rfl rfl (wnt_none rfl) (lb_load_var hC rfl rfl rfl rfl Try.underlying24 rfl rfl) ?_
      refine vb_any1 5 (by kernel_rfl) ?_
      refine sb_extE 5 rfl (fun _ => rfl) (xt_load_take1 rfl rfl (by omega) Try.underlying52 rfl (attrs_at0 (by omega))) fun Rf15 => ?_
      refine vb_stM ?_
      refine vb_treeown 7 (by omega) rfl ?_
      refine vb_stM ?_
      refine vb_one 11 rfl (by kernel_rfl) rfl ?_
      refine vo_appendU E52 rfl (by omega) rfl rfl rfl sd sd fun Rt26 => ?_
      refine vo_stM ?_
      try simp only [app_ints, app_intss, app_bools, app_attrs3]
      refine vo_done ⟨rfl, ?_⟩
      refine vb_light0 12 rfl rfl rfl (by kernel_rfl) (by kernel_rfl) (by kernel_rfl) (wnt_none rfl) (l0_index_ref rfl rfl rfl E24.und inf52 sz52 sd sd) ?_
      try simp only [Int.toNat_natCast]
      refine vb_one 13 rfl (by kernel_rfl) rfl ?_
      refine vo_totree 7 rfl ((by first | exact plain_nilO _ | exact plain_nil1 | exact plain_attrs _ | exact plain_pairsX _)) ?_
      refine vo_stM ?_
      refine vo_weaktree 7 rfl ?_
      refine vo_stM ?_
      refine vo_put (p := .sl _ _ _) rfl rfl rfl rfl rfl rfl rfl hC rfl (by first | decide | simp [refsOf]) inf52 sz52 sd ?_
      refine vo_stM ?_
      try simp only [List.set_set, set_attrss]
      refine vo_done ⟨rfl, ?_⟩
      refine vb_nil (by kernel_rfl) ?_
      refine hK3 _ ?_
      refine vc_seq fun K27 hK27 => ?_
      refine vc_region ?_
      refine vo_load_varG rfl rfl rfl Try.underlying27 rfl inf27 sz27 rfl ?_
      refine vo_stM ?_
      refine vo_store_varG rfl rfl rfl rfl inf27 sz27 rfl ?_
      refine vo_stM ?_
      refine vo_nil ?_
      refine hK27 _ ?_
      refine vc_treeown 2 (by omega) rfl ?_
      refine vc_stM ?_
      refine vc_expose 2 (by omega) rfl ?_
      refine vc_stM ?_
      refine vc_treeown 3 (by omega) rfl ?_
      refine vc_stM ?_
      refine vc_expose 3 (by omega) rfl ?_
      refine vc_stM ?_
      refine vc_ret ?_
      change retQ _ _ _ _ _
      refine retQ_sel [] (srows := []) (.inr rfl) hC rfl rfl rfl rfl rfl rfl rfl ?_
      have hM := fun y => med1 ⟨hb1, hb2, hb3⟩ (by omega) ha2 ho1 ho2 y
      first
       | exact ⟨_, _, _, ⟨(hM y18).1, by omega⟩, rfl, rfl⟩
       | exact ⟨_, _, _, ⟨(hM y29).2.1, by omega⟩, rfl, rfl⟩
       | exact ⟨_, _, _, ⟨(hM 0).2.2.1, by omega⟩, rfl, rfl⟩
       | exact ⟨_, _, _, ⟨(hM 0).2.2.2, by omega⟩, rfl, rfl⟩
     ·refine sb_extE 5 rfl (fun _ => rfl) (xt_load_take1 rfl rfl (by omega) Try.underlying52 rfl (attrs_at0 (by omega))) fun Rf15 => ?_
      refine vb_stM ?_
      refine vb_treeown 7 (by omega) rfl ?_
      refine vb_stM ?_
      refine vb_any2 1 11 (by kernel_rfl) ?_ ?_
      ·refine sb_light 1 rfl rfl rfl (wnt_none rfl) (lb_load_var hC rfl rfl rfl rfl Try.underlying24 rfl rfl) ?_
       refine vb_one 11 rfl (by kernel_rfl) rfl ?_
       refine vo_appendU E52 rfl (by omega) rfl rfl rfl sd sd fun Rt27 => ?_
       refine vo_stM ?_
       try simp only [app_ints, app_intss, app_bools, app_attrs3]
       refine vo_done ⟨rfl, ?_⟩
       refine vb_light0 12 rfl rfl rfl (by kernel_rfl) (by kernel_rfl) (by kernel_rfl) (wnt_none rfl) (l0_index_ref rfl rfl rfl E24.und inf52 sz52 sd sd) ?_
       try simp only [Int.toNat_natCast]
       refine vb_one 13 rfl (by kernel_rfl) rfl ?_
       refine vo_totree 7 rfl ((by first | exact plain_nilO _ | exact plain_nil1 | exact plain_attrs _ | exact plain_pairsX _)) ?_
       refine vo_stM ?_
       refine vo_weaktree 7 rfl ?_
       refine vo_stM ?_
       refine vo_put (p := .sl _ _ _) rfl rfl rfl rfl rfl rfl rfl hC rfl (by first | decide | simp [refsOf]) inf52 sz52 sd ?_
       refine vo_stM ?_
       try simp only [List.set_set, set_attrss]
       refine vo_done ⟨rfl, ?_⟩
       refine vb_nil (by kernel_rfl) ?_
       refine hK3 _ ?_
       refine vc_seq fun K28 hK28 => ?_
       refine vc_region ?_
       refine vo_load_varG rfl rfl rfl Try.underlying27 rfl inf27 sz27 rfl ?_
       refine vo_stM ?_
       refine vo_store_varG rfl rfl rfl rfl inf27 sz27 rfl ?_
       refine vo_stM ?_
       refine vo_nil ?_
       refine hK28 _ ?_
       refine vc_treeown 2 (by omega) rfl ?_
       refine vc_stM ?_
       refine vc_expose 2 (by omega) rfl ?_
       refine vc_stM ?_
       refine vc_treeown 3 (by omega) rfl ?_
       refine vc_stM ?_
       refine vc_expose 3 (by omega) rfl ?_
       refine vc_stM ?_
       refine vc_ret ?_
       change retQ _ _ _ _ _
       refine retQ_sel [] (srows := []) (.inr rfl) hC rfl rfl rfl rfl rfl rfl rfl ?_
       have hM := fun y => med1 ⟨hb1, hb2, hb3⟩ (by omega) ha2 ho1 ho2 y
       first
        | exact ⟨_, _, _, ⟨(hM y18).1, by omega⟩, rfl, rfl⟩
        | exact ⟨_, _, _, ⟨(hM y29).2.1, by omega⟩, rfl, rfl⟩
        | exact ⟨_, _, _, ⟨(hM 0).2.2.1, by omega⟩, rfl, rfl⟩
        | exact ⟨_, _, _, ⟨(hM 0).2.2.2, by omega⟩, rfl, rfl⟩
      ·refine sb_one 11 rfl (by kernel_rfl) ?_
       refine vo_appendU E52 rfl (by omega) rfl rfl rfl sd sd fun Rt28 => ?_
       refine vo_stM ?_
       try simp only [app_ints, app_intss, app_bools, app_attrs3]
       refine vo_done ⟨rfl, ?_⟩
       refine vb_any1 1 (by kernel_rfl) ?_
       refine sb_light 1 rfl rfl rfl (wnt_none rfl) (lb_load_var hC rfl rfl rfl rfl Try.underlying24 rfl rfl) ?_
       refine vb_light0 12 rfl rfl rfl (by kernel_rfl) (by kernel_rfl) (by kernel_rfl) (wnt_none rfl) (l0_index_ref rfl rfl rfl E24.und inf52 sz52 sd sd) ?_
       try simp only [Int.toNat_natCast]
       refine vb_one 13 rfl (by kernel_rfl) rfl ?_
       refine vo_totree 7 rfl ((by first | exact plain_nilO _ | exact plain_nil1 | exact plain_attrs _ | exact plain_pairsX _)) ?_
       refine vo_stM ?_
       refine vo_weaktree 7 rfl ?_
       refine vo_stM ?_
       refine vo_put (p := .sl _ _ _) rfl rfl rfl rfl rfl rfl rfl hC rfl (by first | decide | simp [refsOf]) inf52 sz52 sd ?_
       refine vo_stM ?_
       try simp only [List.set_set, set_attrss]
       refine vo_done ⟨rfl, ?_⟩
       refine vb_nil (by kernel_rfl) ?_
       refine hK3 _ ?_
       refine vc_seq fun K29 hK29 => ?_
       refine vc_region ?_
       refine vo_load_varG rfl rfl rfl Try.underlying27 rfl inf27 sz27 rfl ?_
       refine vo_stM ?_
       refine vo_store_varG rfl rfl rfl rfl inf27 sz27 rfl ?_
       refine vo_stM ?_
       refine vo_nil ?_
       refine hK29 _ ?_
       refine vc_treeown 2 (by omega) rfl ?_
       refine vc_stM ?_
       refine vc_expose 2 (by omega) rfl ?_
       refine vc_stM ?_
       refine vc_treeown 3 (by omega) rfl ?_
       refine vc_stM ?_
       refine vc_expose 3 (by omega) rfl ?_
       refine vc_stM ?_
       refine vc_ret ?_
       change retQ _ _ _ _ _
       refine retQ_sel [] (srows := []) (.inr rfl) hC rfl rfl rfl rfl rfl rfl rfl ?_
       have hM := fun y => med1 ⟨hb1, hb2, hb3⟩ (by omega) ha2 ho1 ho2 y
       first
        | exact ⟨_, _, _, ⟨(hM y18).1, by omega⟩, rfl, rfl⟩
        | exact ⟨_, _, _, ⟨(hM y29).2.1, by omega⟩, rfl, rfl⟩
        | exact ⟨_, _, _, ⟨(hM 0).2.2.1, by omega⟩, rfl, rfl⟩
        | exact ⟨_, _, _, ⟨(hM 0).2.2.2, by omega⟩, rfl, rfl⟩
 ·try simp only [zq0, zq1, zq2, zq3, zq4, zq5, zq6, zq7, zq8, zq9, zqa, zqb, zqc, zqd, zqe, zqf] at hc1
  refine vc_seq fun K30 hK30 => ?_
  refine vc_region ?_
  refine vo_binI rfl rfl rfl rfl trivial ?_
  refine vo_assign_pv rfl rfl ?_
  refine vo_nil ?_
  refine hK30 _ ?_
  refine vc_cond rfl (fun hc2 => ?_) (fun hc2 => ?_)
  ·try simp only [zq0, zq1, zq2, zq3, zq4, zq5, zq6, zq7, zq8, zq9, zqa, zqb, zqc, zqd, zqe, zqf] at hc2
   refine vc_drawB [7, 9] (by kernel_rfl) ?_
   change VLB [7, 9] _ _ _ 10 _ _ _
   refine vb_light0 0 rfl rfl rfl (by kernel_rfl) (by kernel_rfl) (by kernel_rfl) (wnt_none rfl) (l0_fieldAddr_ptr rfl Try.underlying27 rfl inf25 (by rw [sz25]; decide)) ?_
   try simp only [Nat.zero_add]
   refine vb_light 1 [0, 2, 3, 4, 5, 6] rfl rfl rfl (by kernel_rfl) (by kernel_rfl) (by kernel_rfl) (by kernel_rfl) (by kernel_rfl) (wnt_none rfl) (lb_load_var hC rfl rfl rfl rfl Try.underlying25 rfl rfl) ?_
   refine vb_light0 2 rfl rfl rfl (by kernel_rfl) (by kernel_rfl) (by kernel_rfl) (wnt_none rfl) (l0_move_ptr rfl) ?_
   refine vb_ext 3 rfl (by kernel_rfl) rfl (xt_buildSlice E34 rfl rfl rfl rfl) ?_
   refine vb_stM ?_
   refine vb_expose 5 (by omega) rfl ?_
   refine vb_stM ?_
   refine vb_weaken 28 rfl ?_
   refine vb_stM ?_
   refine vb_any1 4 (by kernel_rfl) ?_
   refine sb_call 4 [0] hC rfl rfl (wnt_none rfl) Try.func99 rfl rfl rfl rfl rfl rfl rfl (one_sat (list := [_,_]) hc (by omega) (by simp) (by simp)) ?_
   rintro _ _ ⟨y29, hy29, rfl, rfl⟩
   refine ⟨Nat.le_of_ble_eq_true rfl, ⟨rfl, rfl, rfl, rfl⟩, .inl rfl, ?_⟩
   refine vb_stM ?_
   refine vb_light0 5 rfl rfl rfl (by kernel_rfl) (by kernel_rfl) (by kernel_rfl) (wnt_none rfl) (l0_build S42n rfl rfl) ?_
   refine vb_stM ?_
   refine vb_ext 6 rfl (by kernel_rfl) rfl (xt_buildSlice E25 rfl rfl rfl rfl) ?_
   refine vb_stM ?_
   refine vb_one 7 rfl (by kernel_rfl) rfl ?_
   refine vo_totree 6 rfl ((by first | exact plain_nilO _ | exact plain_nil1 | exact plain_attrs _ | exact plain_pairsX _)) ?_
   refine vo_stM ?_
   refine vo_append_treeG E25 rfl (by omega) (by omega) rfl rfl rfl rfl rfl sd sd sd ?_
   refine vo_stM ?_
   try simp only [app_ints, app_intss, app_bools, app_attrs3]
   refine vo_nilcell 3 (W.objs.length) 1 2 (p' := .agg _) rfl (get_endP _ _ _) rfl rfl ?_
   refine vo_stM ?_
   try simp only [PV.cells, List.set_cons_succ, List.set_cons_zero, set_endO]
   refine vo_done ⟨rfl, ?_⟩
   refine vb_light0 8 rfl rfl rfl (by kernel_rfl) (by kernel_rfl) (by kernel_rfl) (wnt_none rfl) (l0_fieldAddr_ptr rfl Try.underlying27 rfl inf25 (by rw [sz25]; decide)) ?_
   try simp only [Nat.zero_add]
   refine vb_one 9 rfl (by kernel_rfl) rfl ?_
   refine vo_store_varG rfl rfl rfl rfl inf25 sz25 rfl ?_
   refine vo_stM ?_
   refine vo_done ⟨rfl, ?_⟩
   refine vb_nil (by kernel_rfl) ?_
   refine hK3 _ ?_
   refine vc_seq fun K31 hK31 => ?_
   refine vc_region ?_
   refine vo_load_varG rfl rfl rfl Try.underlying27 rfl inf27 sz27 rfl ?_
   refine vo_stM ?_
   refine vo_store_varG rfl rfl rfl rfl inf27 sz27 rfl ?_
   refine vo_stM ?_
   refine vo_nil ?_
   refine hK31 _ ?_
   refine vc_treeown 2 (by omega) rfl ?_
   refine vc_stM ?_
   refine vc_expose 2 (by omega) rfl ?_
   refine vc_stM ?_
   refine vc_treeown 3 (by omega) rfl ?_
   refine vc_stM ?_
   refine vc_expose 3 (by omega) rfl ?_
   refine vc_stM ?_
   refine vc_ret ?_
   change retQ _ _ _ _ _
   refine retQ_sel [] (srows := []) (.inr rfl) hC rfl rfl rfl rfl rfl rfl rfl ?_
   have hM := fun y => med1 ⟨hb1, hb2, hb3⟩ (by omega) ha2 ho1 ho2 y
   first
    | exact ⟨_, _, _, ⟨(hM y18).1, by omega⟩, rfl, rfl⟩
    | exact ⟨_, _, _, ⟨(hM y29).2.1, by omega⟩, rfl, rfl⟩
    | exact ⟨_, _, _, ⟨(hM 0).2.2.1, by omega⟩, rfl, rfl⟩
    | exact ⟨_, _, _, ⟨(hM 0).2.2.2, by omega⟩, rfl, rfl⟩
  ·try simp only [zq0, zq1, zq2, zq3, zq4, zq5, zq6, zq7, zq8, zq9, zqa, zqb, zqc, zqd, zqe, zqf] at hc2
   refine vc_seq fun K32 hK32 => ?_
   refine vc_region ?_
   refine vo_binI rfl rfl rfl rfl trivial ?_
   refine vo_assign_pv rfl rfl ?_
   refine vo_nil ?_
   refine hK32 _ ?_
   refine vc_cond rfl (fun hc3 => ?_) (fun hc3 => ?_)
   ·try simp only [zq0, zq1, zq2, zq3, zq4, zq5, zq6, zq7, zq8, zq9, zqa, zqb, zqc, zqd, zqe, zqf] at hc3
    refine vc_region ?_
    refine vo_fieldAddr_ptr rfl rfl Try.underlying27 rfl inf24 (by rw [sz24]; decide) ?_
    try simp only [Nat.zero_add]
    refine vo_load_var rfl rfl rfl Try.underlying24 rfl rfl ?_
    refine vo_buildSlice E24 rfl rfl rfl rfl rfl ?_
    refine vo_stM ?_
    refine vo_totree 5 rfl ((by first | exact plain_nilO _ | exact plain_nil1 | exact plain_attrs _ | exact plain_pairsX _)) ?_
    refine vo_stM ?_
    refine vo_append_treeG E24 rfl (by omega) (by omega) rfl rfl rfl rfl rfl sd sd sd ?_
    refine vo_stM ?_
    try simp only [app_ints, app_intss, app_bools, app_attrs3]
    refine vo_nilcell 2 (W.attrs.length) 0 3 (p' := .sl none 3 []) rfl (get_endP _ _ _) rfl rfl ?_
    refine vo_stM ?_
    try simp only [set_endA]
    refine vo_fieldAddr_ptr rfl rfl Try.underlying27 rfl inf24 (by rw [sz24]; decide) ?_
    try simp only [Nat.zero_add]
    refine vo_store_varG rfl rfl rfl rfl inf24 sz24 rfl ?_
    refine vo_stM ?_
    refine vo_nil ?_
    refine hK3 _ ?_
    refine vc_seq fun K33 hK33 => ?_
    refine vc_region ?_
    refine vo_load_varG rfl rfl rfl Try.underlying27 rfl inf27 sz27 rfl ?_
    refine vo_stM ?_
    refine vo_store_varG rfl rfl rfl rfl inf27 sz27 rfl ?_
    refine vo_stM ?_
    refine vo_nil ?_
    refine hK33 _ ?_
    refine vc_treeown 2 (by omega) rfl ?_
    refine vc_stM ?_
    refine vc_expose 2 (by omega) rfl ?_
    refine vc_stM ?_
    refine vc_treeown 3 (by omega) rfl ?_
    refine vc_stM ?_
    refine vc_expose 3 (by omega) rfl ?_
    refine vc_stM ?_
    refine vc_ret ?_
    change retQ _ _ _ _ _
    refine retQ_sel [] (srows := []) (.inr rfl) hC rfl rfl rfl rfl rfl rfl rfl ?_
    have hM := fun y => med1 ⟨hb1, hb2, hb3⟩ (by omega) ha2 ho1 ho2 y
    first
     | exact ⟨_, _, _, ⟨(hM y18).1, by omega⟩, rfl, rfl⟩
     | exact ⟨_, _, _, ⟨(hM y29).2.1, by omega⟩, rfl, rfl⟩
     | exact ⟨_, _, _, ⟨(hM 0).2.2.1, by omega⟩, rfl, rfl⟩
     | exact ⟨_, _, _, ⟨(hM 0).2.2.2, by omega⟩, rfl, rfl⟩
   ·try simp only [zq0, zq1, zq2, zq3, zq4, zq5, zq6, zq7, zq8, zq9, zqa, zqb, zqc, zqd, zqe, zqf] at hc3
    refine vc_skip ?_
    refine hK3 _ ?_
    refine vc_seq fun K34 hK34 => ?_
    refine vc_region ?_
    refine vo_load_varG rfl rfl rfl Try.underlying27 rfl inf27 sz27 rfl ?_
    refine vo_stM ?_
    refine vo_store_varG rfl rfl rfl rfl inf27 sz27 rfl ?_
    refine vo_stM ?_
    refine vo_nil ?_
    refine hK34 _ ?_
    refine vc_treeown 2 (by omega) rfl ?_
    refine vc_stM ?_
    refine vc_expose 2 (by omega) rfl ?_
    refine vc_stM ?_
    refine vc_treeown 3 (by omega) rfl ?_
    refine vc_stM ?_
    refine vc_expose 3 (by omega) rfl ?_
    refine vc_stM ?_
    refine vc_ret ?_
    change retQ _ _ _ _ _
    refine retQ_sel [] (srows := []) (.inr rfl) hC rfl rfl rfl rfl rfl rfl rfl ?_
    have hM := fun y => med1 ⟨hb1, hb2, hb3⟩ (by omega) ha2 ho1 ho2 y
    first
     | exact ⟨_, _, _, ⟨(hM y18).1, by omega⟩, rfl, rfl⟩
     | exact ⟨_, _, _, ⟨(hM y29).2.1, by omega⟩, rfl, rfl⟩
     | exact ⟨_, _, _, ⟨(hM 0).2.2.1, by omega⟩, rfl, rfl⟩
     | exact ⟨_, _, _, ⟨(hM 0).2.2.2, by omega⟩, rfl, rfl⟩

end Go.Vl

/- Arguments of which less is said: what a contract says of those holds of them. -/
namespace Go.Vl
set_option linter.unusedVariables false
set_option linter.unusedSimpArgs false
open Go.RowKit

mutual
def PV.wk : PV → PV
  | .sl _ e xs => .sl none e (PV.wks xs)
  | .agg cs => .agg (PV.wks cs)
  | p => p
def PV.wks : List PV → List PV
  | [] => []
  | x :: xs => x.wk :: PV.wks xs
end
theorem PV.wks_map : ∀ l : List PV, PV.wks l = l.map PV.wk
  | [] => by simp [PV.wks]
  | x :: l => by simp [PV.wks, PV.wks_map l]
theorem PV.wk_sl (nl : Option Bool) (e : Nat) (xs : List PV) : (PV.sl nl e xs).wk = .sl none e (xs.map PV.wk) := by simp [PV.wk, PV.wks_map]
theorem PV.wk_agg (cs : List PV) : (PV.agg cs).wk = .agg (cs.map PV.wk) := by simp [PV.wk, PV.wks_map]
theorem PV.wk_int (k : IntKind) (n : Int) : (PV.int k n).wk = .int k n := by simp [PV.wk]
theorem PV.wk_bool (b : Bool) : (PV.bool b).wk = .bool b := by simp [PV.wk]
theorem PV.wk_isAgg (p : PV) : p.wk.isAgg = p.isAgg := by cases p <;> simp [PV.wk, PV.isAgg]
theorem PV.wk_cells (p : PV) : p.wk.cells = p.cells.map PV.wk := by
  cases p <;> simp [PV.wk, PV.cells, PV.wks_map]
theorem PV.wk_fits {p : PV} {e : Nat} (h : p.fits e) : p.wk.fits e := by
  refine ⟨by rw [PV.wk_cells, List.length_map]; exact h.1, fun j c hc => ?_⟩
  rw [PV.wk_cells] at hc
  simp only [List.getElem?_map, Option.map_eq_some_iff] at hc
  obtain ⟨c', hc', rfl⟩ := hc
  rw [PV.wk_isAgg]; exact h.2 j c' hc'
theorem RP.wk {w : World} {G : Nat → Prop} {p : PV} {v : Value} (h : RP w G p v) : RP w G p.wk v := by
  induction h with
  | int k n => rw [PV.wk_int]; exact .int k n
  | bool b => rw [PV.wk_bool]; exact .bool b
  | str s => simp only [PV.wk]; exact .str s
  | nilsl nl e h => rw [PV.wk_sl]; exact .nilsl none e (by simp)
  | sl nl e xs a len cap f h hs hl hcap hg hw hc hr ih =>
    rw [PV.wk_sl]
    refine .sl none e _ a len cap f (by simp) (fun h => hs (by simpa using h)) (by simpa using hl) hcap (fun h => hg (by simpa using h)) (fun i x hx => ?_) (fun i x j c hx hcj => ?_) (fun i x j c hx hcj => ?_)
    · simp only [List.getElem?_map, Option.map_eq_some_iff] at hx
      obtain ⟨x', hx', rfl⟩ := hx
      exact PV.wk_fits (hw i x' hx')
    · simp only [List.getElem?_map, Option.map_eq_some_iff] at hx
      obtain ⟨x', hx', rfl⟩ := hx
      rw [PV.wk_cells] at hcj
      simp only [List.getElem?_map, Option.map_eq_some_iff] at hcj
      obtain ⟨c', hc', rfl⟩ := hcj
      exact hc i x' j c' hx' hc'
    · simp only [List.getElem?_map, Option.map_eq_some_iff] at hx
      obtain ⟨x', hx', rfl⟩ := hx
      rw [PV.wk_cells] at hcj
      simp only [List.getElem?_map, Option.map_eq_some_iff] at hcj
      obtain ⟨c', hc', rfl⟩ := hcj
      exact ih i x' j c' hx' hc'
  | agg cs vs hl h1 h ih =>
    rw [PV.wk_agg]
    refine .agg _ vs (by simpa using hl) (fun j c hc => ?_) (fun j c v hc hv => ?_)
    · simp only [List.getElem?_map, Option.map_eq_some_iff] at hc
      obtain ⟨c', hc', rfl⟩ := hc
      rw [PV.wk_isAgg]; exact h1 j c' hc'
    · simp only [List.getElem?_map, Option.map_eq_some_iff] at hc
      obtain ⟨c', hc', rfl⟩ := hc
      exact ih j c' v hc' hv
  | gone v h => simp only [PV.wk]; exact .gone v h
  | ifc t p v h ih => simp only [PV.wk]; exact .ifc t p v h
  | nilifc => simp only [PV.wk]; exact .nilifc

def SV.wk : SV → SV
  | .pv f p => .pv f p.wk
  | s => s

theorem SatAt.wk {P : Program} {f : FuncId} {args args2 : List SV} {rows : List Row} {R : List SV → List Row → Prop} (e : args.map SV.wk = args2) (h : SatAt P f args2 rows R) : SatAt P f args rows R := by
  subst e
  intro C m vals hnb hA hv hs
  refine h C m vals hnb hA (by simpa using hv) { hs with env := fun t => ?_ }
  have := hs.env t
  show RS _ _ _ _ (look (enumE 0 (args.map SV.wk)) t) _
  change RS _ _ _ _ (look (enumE 0 args) t) _ at this
  rw [look_enumE] at this ⊢
  simp only [Nat.zero_le, if_true, Nat.sub_zero, List.getElem?_map] at this ⊢
  cases ht : args[t]? with
  | none => rw [ht] at this; simpa using this
  | some x =>
    rw [ht] at this
    simp only [Option.getD_some, Option.map_some] at this ⊢
    generalize vals.getD t undef = v at this ⊢
    cases this with
    | pv fr p v hp => exact .pv _ _ _ hp.wk
    | any v => exact .any v
    | val u => exact .val _
    | und => exact .und
    | ref id h => exact .ref id h
    | ptr id e i o b hid h => exact .ptr id e i o b hid h
    | adr fr cs a f hs hg h1 hc hr => exact .adr fr cs a f hs hg h1 hc hr
    | tup vs us hl h => exact .tup vs us hl h
    | ag vs us hl h h1 => exact .ag vs us hl h h1
    | sub id e l h c v hid hs => exact .sub id e l h c _ hid hs
end Go.Vl

/- '==' and '!=' on structs of three and four numbers. -/
namespace Go.Vl
set_option linter.unusedVariables false
set_option linter.unusedSimpArgs false
open Go.RowKit

/-- Structs of 3 numbers are compared number by number. -/
def EqI3 (P : Program) (T : TypeId) : Prop :=
  (∀ (x1 x2 x3 y1 y2 y3 : Int) (w : World), (Op.equalIn 10000 T (.agg #[.int .i64 x1, .int .i64 x2, .int .i64 x3]) (.agg #[.int .i64 y1, .int .i64 y2, .int .i64 y3])).run P w = .ok (x1 == y1 && x2 == y2 && x3 == y3) w) ∧ P.eqGuardType P.depth T = false

section
variable {P : Program} {C : Ctx} {Q : Go.Exit → St → Prop} {s : St} {ops : Array Oper} {rest : List Oper} {t : Nat} {ty : TypeId} {pos : String} {af : Array Edge}

end

/-- Structs of 4 numbers are compared number by number. -/
def EqI4 (P : Program) (T : TypeId) : Prop :=
  (∀ (x1 x2 x3 x4 y1 y2 y3 y4 : Int) (w : World), (Op.equalIn 10000 T (.agg #[.int .i64 x1, .int .i64 x2, .int .i64 x3, .int .i64 x4]) (.agg #[.int .i64 y1, .int .i64 y2, .int .i64 y3, .int .i64 y4])).run P w = .ok (x1 == y1 && x2 == y2 && x3 == y3 && x4 == y4) w) ∧ P.eqGuardType P.depth T = false

theorem RP.agg4 {w : World} {G : Nat → Prop} {a1 a2 a3 a4 : Int} {v : Value} (h : RP w G (.agg [.int .i64 a1, .int .i64 a2, .int .i64 a3, .int .i64 a4]) v) : v = .agg #[.int .i64 a1, .int .i64 a2, .int .i64 a3, .int .i64 a4] := by
  cases h with
  | agg _ vs hl h1 h =>
    simp only [List.length_cons, List.length_nil] at hl
    have e0 : vs[0]? = some vs[0] := Array.getElem?_eq_getElem (by omega)
    have e1 : vs[1]? = some vs[1] := Array.getElem?_eq_getElem (by omega)
    have e2 : vs[2]? = some vs[2] := Array.getElem?_eq_getElem (by omega)
    have e3 : vs[3]? = some vs[3] := Array.getElem?_eq_getElem (by omega)
    have h10 := h 0 _ _ rfl e0
    have h11 := h 1 _ _ rfl e1
    have h12 := h 2 _ _ rfl e2
    have h13 := h 3 _ _ rfl e3
    have k0 : vs[0] = .int .i64 a1 := by generalize vs[0] = u at h10; cases h10; rfl
    have k1 : vs[1] = .int .i64 a2 := by generalize vs[1] = u at h11; cases h11; rfl
    have k2 : vs[2] = .int .i64 a3 := by generalize vs[2] = u at h12; cases h12; rfl
    have k3 : vs[3] = .int .i64 a4 := by generalize vs[3] = u at h13; cases h13; rfl
    congr 1
    apply Array.ext
    · simp; omega
    · intro i hi hi2
      match i, hi with
      | 0, _ => exact k0
      | 1, _ => exact k1
      | 2, _ => exact k2
      | 3, _ => exact k3
      | i+4, hi => omega

section
variable {P : Program} {C : Ctx} {Q : Go.Exit → St → Prop} {s : St} {ops : Array Oper} {rest : List Oper} {t : Nat} {ty : TypeId} {pos : String} {af : Array Edge}

theorem lt_eqS4 {xt yt : TypeId} {x y : Operand} {a1 a2 a3 a4 b1 b2 b3 b4 : Int} {f1 f2 : Bool} (h : EqI4 P xt) (hx : getO s.env x = .pv f1 (.agg [.int .i64 a1, .int .i64 a2, .int .i64 a3, .int .i64 a4])) (hy : getO s.env y = .pv f2 (.agg [.int .i64 b1, .int .i64 b2, .int .i64 b3, .int .i64 b4])) :
    Lt P C s ⟨some t, .binOp .eql xt x y yt, ty, pos, af, none⟩ (.pv true (.bool (a1 == b1 && a2 == b2 && a3 == b3 && a4 == b4))) := by
  intro m a w hs
  have e1 := hs.get x
  rw [hx] at e1
  have e1 := e1.pv_inv.agg4
  have e2 := hs.get y
  rw [hy] at e2
  have e2 := e2.pv_inv.agg4
  refine ⟨_, fun w' _ => ?_, .pv _ _ _ (.bool _)⟩
  have hg : (eqGuard .eql xt x y (.agg #[.int .i64 a1, .int .i64 a2, .int .i64 a3, .int .i64 a4]) (.agg #[.int .i64 b1, .int .i64 b2, .int .i64 b3, .int .i64 b4])).run P w' = .ok () w' := run_eqGuard_agg w' .eql xt x y _ _ h.2
  have hb : (binOp .eql xt (.agg #[.int .i64 a1, .int .i64 a2, .int .i64 a3, .int .i64 a4]) (.agg #[.int .i64 b1, .int .i64 b2, .int .i64 b3, .int .i64 b4])).run P w' = .ok (.bool (a1 == b1 && a2 == b2 && a3 == b3 && a4 == b4)) w' := by
    rw [run_eql_struct, h.1]; rfl
  simp only [execOp, e1, e2, Sem.run_bind, hg, Result.andThen_ok, hb]
  rfl

theorem lt_neqS4 {xt yt : TypeId} {x y : Operand} {a1 a2 a3 a4 b1 b2 b3 b4 : Int} {f1 f2 : Bool} (h : EqI4 P xt) (hx : getO s.env x = .pv f1 (.agg [.int .i64 a1, .int .i64 a2, .int .i64 a3, .int .i64 a4])) (hy : getO s.env y = .pv f2 (.agg [.int .i64 b1, .int .i64 b2, .int .i64 b3, .int .i64 b4])) :
    Lt P C s ⟨some t, .binOp .neq xt x y yt, ty, pos, af, none⟩ (.pv true (.bool (!(a1 == b1 && a2 == b2 && a3 == b3 && a4 == b4)))) := by
  intro m a w hs
  have e1 := hs.get x
  rw [hx] at e1
  have e1 := e1.pv_inv.agg4
  have e2 := hs.get y
  rw [hy] at e2
  have e2 := e2.pv_inv.agg4
  refine ⟨_, fun w' _ => ?_, .pv _ _ _ (.bool _)⟩
  have hg : (eqGuard .neq xt x y (.agg #[.int .i64 a1, .int .i64 a2, .int .i64 a3, .int .i64 a4]) (.agg #[.int .i64 b1, .int .i64 b2, .int .i64 b3, .int .i64 b4])).run P w' = .ok () w' := run_eqGuard_agg w' .neq xt x y _ _ h.2
  have hb : (binOp .neq xt (.agg #[.int .i64 a1, .int .i64 a2, .int .i64 a3, .int .i64 a4]) (.agg #[.int .i64 b1, .int .i64 b2, .int .i64 b3, .int .i64 b4])).run P w' = .ok (.bool (!(a1 == b1 && a2 == b2 && a3 == b3 && a4 == b4))) w' := by
    rw [run_neq_struct, h.1]; rfl
  simp only [execOp, e1, e2, Sem.run_bind, hg, Result.andThen_ok, hb]
  rfl

end
end Go.Vl

/- An operation that makes memory, under a guard; 'make' in a statement whose order of evaluation is open. -/
namespace Go.Vl
set_option linter.unusedVariables false
set_option linter.unusedSimpArgs false
open Go.RowKit
section
variable {late : List Nat} {P : Program} {C : Ctx} {ops : Array Oper} {K : St → Prop} {s s1 : St} {n : Nat} {listed : Array Bool}
end
section
variable {P : Program} {C : Ctx} {s : St} {t : Nat} {ty : TypeId} {pos : String} {af : Array Edge}
end
theorem resTs4 {P : Program} {r1 r2 r3 r4 : Nat × Option (Nat × Nat)} (h1 : resT P r1) (h2 : resT P r2) (h3 : resT P r3) (h4 : resT P r4) : ∀ r ∈ [r1, r2, r3, r4], resT P r := by simp [h1, h2, h3, h4]
end Go.Vl

namespace Go.Vl
set_option linter.unusedVariables false
set_option linter.unusedSimpArgs false
open Go.Proofs

end Go.Vl

namespace Go.Vl
set_option linter.unusedVariables false
set_option linter.unusedSimpArgs false
open Go.Proofs

end Go.Vl

namespace Go.Vl
set_option linter.unusedVariables false
set_option linter.unusedSimpArgs false
open Go.Proofs

theorem objectOf_sat {nl : Option Bool} {c : List (Fin 256)} {p : Nat} (hc : c.length ≤ 2000) (hp : p < 980000) : SatAt Try.prog 53 [.ptr 0 0 0 0] [rdr nl c p] (fun res rows => ∃ (W : WorldM) (q : Nat) (f : Bool) (z y : Int), (medW W ∧ q ≤ p + 430) ∧ res = [.pv f (worldP W), i64 z, i64 y] ∧ rows = [rdr nl c q]) := by
 refine sat_entry_G (rs := [(2, some (27, 3)), (3, none), (4, none)]) Try.func53 rfl rfl (Nat.le_of_ble_eq_true rfl) (Nat.le_of_ble_eq_true rfl) (resTs3 ⟨_, _, Try.underlying27, rfl, inf27, sz27⟩ trivial trivial) fun C hC => ?_
 rw [Try.ntmps53]
 replace hC : C.nb = 1 := hC
 refine vc_seq fun K1 hK1 => ?_
 refine vc_region ?_
 refine vo_alloc Z27 rfl ?_
 refine vo_stM ?_
 refine vo_assign_pv rfl rfl ?_
 refine vo_assign_pv rfl rfl ?_
 refine vo_nil ?_
 refine hK1 _ ?_
 refine vc_seq fun K2 hK2 => ?_
 refine vc_region ?_
 refine vo_move_ptr rfl rfl ?_
 refine vo_call [0] Try.func98 rfl rfl rfl rfl rfl rfl rfl (anyWorld_sat hc (by omega)) ?_
 rintro _ _ ⟨W, q, f, ⟨hW, hq⟩, rfl, rfl⟩
 refine ⟨Nat.le_of_ble_eq_true rfl, ⟨rfl, rfl, rfl, rfl⟩, .inl rfl, ?_⟩
 refine vo_stM ?_
 have hW2 := hW
 obtain ⟨⟨hb1, hb2, hb3⟩, ⟨hb4, hb5⟩, hb6, hb7⟩ := hW2
 refine vo_alloc Z27 rfl ?_
 refine vo_stM ?_
 refine vo_store_varS rfl rfl rfl inf27 sz27 rfl ?_
 refine vo_stM ?_
 refine vo_nil ?_
 refine hK2 _ ?_
 refine vc_seq fun K3 hK3 => ?_
 refine vc_drawBD [15] [0, 1, 2, 3, 4, 5, 6, 7, 8, 9, 10, 11, 12, 13, 14, 15, 16, 17] [0, 1, 2, 3, 4, 5, 6, 7, 8, 9, 10, 11, 12, 13, 14, 15, 16, 17] (by kernel_rfl) (by kernel_rfl) (by kernel_rfl) (by kernel_rfl) ?_
 change VLB [15] _ _ _ 18 _ _ _
 refine vb_light 0 [1, 2, 3, 4, 5, 6, 7, 8, 9, 10, 11, 12, 13, 14] rfl rfl rfl (by kernel_rfl) (by kernel_rfl) (by kernel_rfl) (by kernel_rfl) (by kernel_rfl) (wnt_none rfl) (lb_load_varS hC rfl rfl rfl rfl Try.underlying27 rfl inf27 sz27 rfl rfl) ?_
 refine vb_light0 1 rfl rfl rfl (by kernel_rfl) (by kernel_rfl) (by kernel_rfl) (wnt_none rfl) (l0_move_ptr rfl) ?_
 refine vb_light0 2 rfl rfl rfl (by kernel_rfl) (by kernel_rfl) (by kernel_rfl) (wnt_none rfl) (l0_move_ptr rfl) ?_
 refine vb_light0 3 rfl rfl rfl (by kernel_rfl) (by kernel_rfl) (by kernel_rfl) (wnt_none rfl) (l0_fieldAddr_ptr rfl Try.underlying27 rfl inf25 (by rw [sz25]; decide)) ?_
 try simp only [Nat.zero_add]
 refine vb_light 4 [0, 1, 2, 3, 10, 11] rfl rfl rfl (by kernel_rfl) (by kernel_rfl) (by kernel_rfl) (by kernel_rfl) (by kernel_rfl) (wnt_none rfl) (lb_load_var hC rfl rfl rfl rfl Try.underlying25 rfl rfl) ?_
 refine vb_light0 5 rfl rfl rfl (by kernel_rfl) (by kernel_rfl) (by kernel_rfl) (wnt_none rfl) (l0_len_pv rfl Try.underlying25) ?_
 refine vb_light0 6 rfl rfl rfl (by kernel_rfl) (by kernel_rfl) (by kernel_rfl) (wnt_none rfl) (l0_binI rfl rfl rfl sd) ?_
 refine vb_light0 10 rfl rfl rfl (by kernel_rfl) (by kernel_rfl) (by kernel_rfl) (wnt_none rfl) (l0_move_ptr rfl) ?_
 refine vb_light0 11 rfl rfl rfl (by kernel_rfl) (by kernel_rfl) (by kernel_rfl) (wnt_none rfl) (l0_move_ptr rfl) ?_
 refine vb_any1 7 (by kernel_rfl) ?_
 refine sb_call 7 [0] hC rfl rfl (wnt_none rfl) Try.func72 rfl rfl rfl rfl rfl rfl rfl (pick_sat hc (by omega)) ?_
 rintro _ _ ⟨x15, ⟨hx150, hx151⟩, rfl, rfl⟩
 refine ⟨Nat.le_of_ble_eq_true rfl, ⟨rfl, rfl, rfl, rfl⟩, .inl rfl, ?_⟩
 refine vb_stM ?_
 refine vb_ext 8 rfl (by kernel_rfl) rfl (xt_buildSlice E34 rfl rfl rfl rfl) ?_
 refine vb_stM ?_
 refine vb_expose 3 (by omega) rfl ?_
 refine vb_stM ?_
 refine vb_weaken 16 rfl ?_
 refine vb_stM ?_
 refine vb_any1 9 (by kernel_rfl) ?_
 refine sb_call 9 [0] hC rfl rfl (wnt_none rfl) Try.func99 rfl rfl rfl rfl rfl rfl rfl (one_sat (list := [_,_,_,_,_]) hc (by omega) (by simp) (by simp)) ?_
 rintro _ _ ⟨y17, hy17, rfl, rfl⟩
 refine ⟨Nat.le_of_ble_eq_true rfl, ⟨rfl, rfl, rfl, rfl⟩, .inl rfl, ?_⟩
 refine vb_stM ?_
 refine vb_any1 12 (by kernel_rfl) ?_
 refine sb_call 12 [0] hC rfl rfl (wnt_none rfl) Try.func72 rfl rfl rfl rfl rfl rfl rfl (pick_sat hc (by omega)) ?_
 rintro _ _ ⟨x20, ⟨hx200, hx201⟩, rfl, rfl⟩
 refine ⟨Nat.le_of_ble_eq_true rfl, ⟨rfl, rfl, rfl, rfl⟩, .inl rfl, ?_⟩
 refine vb_stM ?_
 refine vb_ext 13 rfl (by kernel_rfl) rfl (xt_buildSlice E34 rfl rfl rfl rfl) ?_
 refine vb_stM ?_
 refine vb_expose 4 (by omega) rfl ?_
 refine vb_stM ?_
 refine vb_weaken 21 rfl ?_
 refine vb_stM ?_
 refine vb_any1 14 (by kernel_rfl) ?_
 refine sb_call 14 [0] hC rfl rfl (wnt_none rfl) Try.func99 rfl rfl rfl rfl rfl rfl rfl (one_sat (list := [_,_,_,_,_,_,_]) hc (by omega) (by simp) (by simp)) ?_
 rintro _ _ ⟨y22, hy22, rfl, rfl⟩
 refine ⟨Nat.le_of_ble_eq_true rfl, ⟨rfl, rfl, rfl, rfl⟩, .inl rfl, ?_⟩
 refine vb_stM ?_
 refine vb_one 15 rfl (by kernel_rfl) rfl ?_
 refine vo_store_varS rfl rfl rfl inf27 sz27 rfl ?_
 refine vo_stM ?_
 refine vo_done ⟨rfl, ?_⟩
 refine vb_light0 16 rfl rfl rfl (by kernel_rfl) (by kernel_rfl) (by kernel_rfl) (wnt_none rfl) (l0_assign_pv rfl) ?_
 refine vb_light0 17 rfl rfl rfl (by kernel_rfl) (by kernel_rfl) (by kernel_rfl) (wnt_none rfl) (l0_assign_pv rfl) ?_
 refine vb_nil (by kernel_rfl) ?_
 refine hK3 _ ?_
 refine vc_ret ?_
 change retQ _ _ _ _ _
 refine retQ_sel [] (srows := []) (.inr rfl) hC rfl rfl rfl rfl rfl rfl rfl ?_
 exact ⟨W, _, _, _, _, ⟨hW, by omega⟩, rfl, rfl⟩


theorem DrawSuperAttr_sat {nl : Option Bool} {c : List (Fin 256)} (hl : c.length < 1000000000) : SatAt Try.prog 33 [.pv false (.sl nl 1 (c.map byteP))] [] (fun res rows => ∃ (W : WorldM) (f : Bool) (z v y : Int), medW W ∧ res = [.pv f (worldP W), i64 z, i64 v, i64 y] ∧ rows = []) := by
 refine sat_entry_G (rs := [(2, some (27, 3)), (3, none), (4, none), (5, none)]) Try.func33 rfl rfl (Nat.le_of_ble_eq_true rfl) (Nat.le_of_ble_eq_true rfl) (resTs4 ⟨_, _, Try.underlying27, rfl, inf27, sz27⟩ trivial trivial trivial) fun C hC => ?_
 rw [Try.ntmps33]
 replace hC : C.nb = 0 := hC
 refine vc_seq fun K1 hK1 => ?_
 refine vc_region ?_
 refine vo_alloc Z27 rfl ?_
 refine vo_stM ?_
 refine vo_assign_pv rfl rfl ?_
 refine vo_assign_pv rfl rfl ?_
 refine vo_assign_pv rfl rfl ?_
 refine vo_nil ?_
 refine hK1 _ ?_
 refine vc_seq fun K2 hK2 => ?_
 refine vc_region ?_
 refine vo_move_pv rfl rfl ?_
 refine vo_call [] Try.func48 rfl rfl rfl rfl rfl rfl rfl (newReader_sat (by omega)) ?_
 rintro _ _ ⟨nl2, c2, hc, rfl, rfl⟩
 refine ⟨Nat.le_of_ble_eq_true rfl, ⟨rfl, rfl, rfl, rfl⟩, .inl rfl, ?_⟩
 refine vo_stM ?_
 refine vo_assign_ptr rfl rfl ?_
 refine vo_nil ?_
 refine hK2 _ ?_
 refine vc_seq fun K3 hK3 => ?_
 refine vc_region ?_
 refine vo_move_ptr rfl rfl ?_
 refine vo_call [1] Try.func53 rfl rfl rfl rfl rfl rfl rfl (objectOf_sat hc (by omega)) ?_
 rintro _ _ ⟨W, q, f, z, y, ⟨hW, hq⟩, rfl, rfl⟩
 refine ⟨Nat.le_of_ble_eq_true rfl, ⟨rfl, rfl, rfl, rfl⟩, .inl rfl, ?_⟩
 refine vo_stM ?_
 have hW2 := hW
 obtain ⟨⟨hb1, hb2, hb3⟩, ⟨hb4, hb5⟩, hb6, hb7⟩ := hW2
 refine vo_move rfl ?_
 refine vo_stM ?_
 refine vo_extract rfl rfl rfl ?_
 refine vo_extract rfl rfl rfl ?_
 refine vo_extract rfl rfl rfl ?_
 refine vo_alloc Z27 rfl ?_
 refine vo_stM ?_
 refine vo_store_varS rfl rfl rfl inf27 sz27 rfl ?_
 refine vo_stM ?_
 refine vo_assign_pv rfl rfl ?_
 refine vo_assign_pv rfl rfl ?_
 refine vo_nil ?_
 refine hK3 _ ?_
 refine vc_seq fun K4 hK4 => ?_
 refine vc_region ?_
 refine vo_move_ptr rfl rfl ?_
 refine vo_fieldAddr_ptr rfl rfl Try.underlying27 rfl inf23 (by rw [sz23]; decide) ?_
 try simp only [Nat.zero_add]
 refine vo_load_var rfl rfl rfl Try.underlying23 rfl rfl ?_
 refine vo_len_pv rfl rfl Try.underlying23 ?_
 refine vo_call [1] Try.func72 rfl rfl rfl rfl rfl rfl rfl (pick_sat hc (by omega)) ?_
 rintro _ _ ⟨x23, ⟨hx230, hx231⟩, rfl, rfl⟩
 refine ⟨Nat.le_of_ble_eq_true rfl, ⟨rfl, rfl, rfl, rfl⟩, .inl rfl, ?_⟩
 refine vo_stM ?_
 refine vo_assign_pv rfl rfl ?_
 refine vo_nil ?_
 refine hK4 _ ?_
 refine vc_seq fun K5 hK5 => ?_
 refine vc_seq fun K6 hK6 => ?_
 refine vc_region ?_
 refine vo_move_pv rfl rfl ?_
 refine vo_binI rfl rfl rfl rfl trivial ?_
 refine vo_move_pv rfl rfl ?_
 refine vo_split 26 rfl (fun hg1 => ?_) (fun hg1 => ?_)
 ·try simp only [zq0, zq1, zq2, zq3, zq4, zq5, zq6, zq7, zq8, zq9, zqa, zqb, zqc, zqd, zqe, zqf] at hg1
  refine vo_guard_on rfl rfl rfl ?_
  refine vo_move_pv rfl rfl ?_
  refine vo_guard_on rfl rfl rfl ?_
  refine vo_fieldAddr_ptr rfl rfl Try.underlying27 rfl inf25 (by rw [sz25]; decide) ?_
  try simp only [Nat.zero_add]
  refine vo_guard_on rfl rfl rfl ?_
  refine vo_load_var rfl rfl rfl Try.underlying25 rfl rfl ?_
  refine vo_guard_on rfl rfl rfl ?_
  refine vo_len_pv rfl rfl Try.underlying25 ?_
  refine vo_guard_on rfl rfl rfl ?_
  refine vo_binI rfl rfl rfl rfl trivial ?_
  refine vo_pick_t rfl rfl ?_
  refine vo_move_pv rfl rfl ?_
  refine vo_split 33 rfl (fun hg2 => ?_) (fun hg2 => ?_)
  ·try simp only [zq0, zq1, zq2, zq3, zq4, zq5, zq6, zq7, zq8, zq9, zqa, zqb, zqc, zqd, zqe, zqf] at hg2
   refine vo_guard_on rfl rfl rfl ?_
   refine vo_move_ptr rfl rfl ?_
   refine vo_guard_on rfl rfl rfl ?_
   refine vo_call [1] Try.func72 rfl rfl rfl rfl rfl rfl rfl (pick_sat hc (by omega)) ?_
   rintro _ _ ⟨x35, ⟨hx350, hx351⟩, rfl, rfl⟩
   refine ⟨Nat.le_of_ble_eq_true rfl, ⟨rfl, rfl, rfl, rfl⟩, .inl rfl, ?_⟩
   refine vo_stM ?_
   refine vo_guard_on rfl rfl rfl ?_
   refine vo_binI rfl rfl rfl rfl trivial ?_
   refine vo_pick_t rfl rfl ?_
   refine vo_nil ?_
   refine hK6 _ ?_
   refine vc_cond rfl (fun hc3 => ?_) (fun hc3 => ?_)
   ·try simp only [zq0, zq1, zq2, zq3, zq4, zq5, zq6, zq7, zq8, zq9, zqa, zqb, zqc, zqd, zqe, zqf] at hc3
    refine vc_region ?_
    refine vo_fieldAddr_ptr rfl rfl Try.underlying27 rfl inf25 (by rw [sz25]; decide) ?_
    try simp only [Nat.zero_add]
    refine vo_load_var rfl rfl rfl Try.underlying25 rfl rfl ?_
    refine vo_move_pv rfl rfl ?_
    refine vo_index_pv (.agg [(.int .i64 0), (.sl none 2 [])]) rfl rfl rfl E25.und inf42 sz42 sd sd ?_
    simp only [Int.toNat_natCast, Int.toNat_zero, getD_ints, getD_intss, getD_bools, getD_bytes, PV.cells, getD_ops, getD_pairs, getD_insts, getD_attrs, getD_attrss, getD_objs, getD_ordP]
    refine vo_fieldAddr_adr rfl rfl Try.underlying42 rfl inf3 (by rw [sz3]; decide) ?_
    refine vo_load_adr rfl rfl Try.underlying3 rfl ?_
    refine vo_assign_pv rfl rfl ?_
    refine vo_nil ?_
    refine hK5 _ ?_
    refine vc_seq fun K7 hK7 => ?_
    refine vc_region ?_
    refine vo_load_varS rfl rfl rfl Try.underlying27 rfl inf27 sz27 rfl rfl ?_
    refine vo_move_pv rfl rfl ?_
    refine vo_move_pv rfl rfl ?_
    refine vo_move_pv rfl rfl ?_
    refine vo_store_varS rfl rfl rfl inf27 sz27 rfl ?_
    refine vo_stM ?_
    refine vo_assign_pv rfl rfl ?_
    refine vo_assign_pv rfl rfl ?_
    refine vo_assign_pv rfl rfl ?_
    refine vo_nil ?_
    refine hK7 _ ?_
    refine vc_ret ?_
    change retQ _ _ _ _ _
    refine retQ_sel [] (srows := []) (.inr rfl) hC rfl rfl rfl rfl rfl rfl rfl ?_
    exact ⟨W, _, z, _, y, hW, rfl, rfl⟩
   ·try simp only [zq0, zq1, zq2, zq3, zq4, zq5, zq6, zq7, zq8, zq9, zqa, zqb, zqc, zqd, zqe, zqf] at hc3
    refine vc_skip ?_
    refine hK5 _ ?_
    refine vc_seq fun K8 hK8 => ?_
    refine vc_region ?_
    refine vo_load_varS rfl rfl rfl Try.underlying27 rfl inf27 sz27 rfl rfl ?_
    refine vo_move_pv rfl rfl ?_
    refine vo_move_pv rfl rfl ?_
    refine vo_move_pv rfl rfl ?_
    refine vo_store_varS rfl rfl rfl inf27 sz27 rfl ?_
    refine vo_stM ?_
    refine vo_assign_pv rfl rfl ?_
    refine vo_assign_pv rfl rfl ?_
    refine vo_assign_pv rfl rfl ?_
    refine vo_nil ?_
    refine hK8 _ ?_
    refine vc_ret ?_
    change retQ _ _ _ _ _
    refine retQ_sel [] (srows := []) (.inr rfl) hC rfl rfl rfl rfl rfl rfl rfl ?_
    exact ⟨W, _, z, _, y, hW, rfl, rfl⟩
  ·try simp only [zq0, zq1, zq2, zq3, zq4, zq5, zq6, zq7, zq8, zq9, zqa, zqb, zqc, zqd, zqe, zqf] at hg2
   refine vo_guard_off rfl rfl rfl rfl rfl ?_
   refine vo_guard_off rfl rfl rfl rfl rfl ?_
   refine vo_guard_off rfl rfl rfl rfl rfl ?_
   refine vo_pick_f rfl rfl ?_
   refine vo_nil ?_
   refine hK6 _ ?_
   refine vc_cond_f rfl ?_
   refine vc_skip ?_
   refine hK5 _ ?_
   refine vc_seq fun K9 hK9 => ?_
   refine vc_region ?_
   refine vo_load_varS rfl rfl rfl Try.underlying27 rfl inf27 sz27 rfl rfl ?_
   refine vo_move_pv rfl rfl ?_
   refine vo_move_pv rfl rfl ?_
   refine vo_move_pv rfl rfl ?_
   refine vo_store_varS rfl rfl rfl inf27 sz27 rfl ?_
   refine vo_stM ?_
   refine vo_assign_pv rfl rfl ?_
   refine vo_assign_pv rfl rfl ?_
   refine vo_assign_pv rfl rfl ?_
   refine vo_nil ?_
   refine hK9 _ ?_
   refine vc_ret ?_
   change retQ _ _ _ _ _
   refine retQ_sel [] (srows := []) (.inr rfl) hC rfl rfl rfl rfl rfl rfl rfl ?_
   exact ⟨W, _, z, _, y, hW, rfl, rfl⟩
 ·try simp only [zq0, zq1, zq2, zq3, zq4, zq5, zq6, zq7, zq8, zq9, zqa, zqb, zqc, zqd, zqe, zqf] at hg1
  refine vo_guard_off rfl rfl rfl rfl rfl ?_
  refine vo_guard_off rfl rfl rfl rfl rfl ?_
  refine vo_guard_off rfl rfl rfl rfl rfl ?_
  refine vo_guard_off rfl rfl rfl rfl rfl ?_
  refine vo_guard_off rfl rfl rfl rfl rfl ?_
  refine vo_pick_f rfl rfl ?_
  refine vo_move_pv rfl rfl ?_
  refine vo_guard_off rfl rfl rfl rfl rfl ?_
  refine vo_guard_off rfl rfl rfl rfl rfl ?_
  refine vo_guard_off rfl rfl rfl rfl rfl ?_
  refine vo_pick_f rfl rfl ?_
  refine vo_nil ?_
  refine hK6 _ ?_
  refine vc_cond_f rfl ?_
  refine vc_skip ?_
  refine hK5 _ ?_
  refine vc_seq fun K10 hK10 => ?_
  refine vc_region ?_
  refine vo_load_varS rfl rfl rfl Try.underlying27 rfl inf27 sz27 rfl rfl ?_
  refine vo_move_pv rfl rfl ?_
  refine vo_move_pv rfl rfl ?_
  refine vo_move_pv rfl rfl ?_
  refine vo_store_varS rfl rfl rfl inf27 sz27 rfl ?_
  refine vo_stM ?_
  refine vo_assign_pv rfl rfl ?_
  refine vo_assign_pv rfl rfl ?_
  refine vo_assign_pv rfl rfl ?_
  refine vo_nil ?_
  refine hK10 _ ?_
  refine vc_ret ?_
  change retQ _ _ _ _ _
  refine retQ_sel [] (srows := []) (.inr rfl) hC rfl rfl rfl rfl rfl rfl rfl ?_
  exact ⟨W, _, z, _, y, hW, rfl, rfl⟩

end Go.Vl

namespace Go.Vl
set_option linter.unusedVariables false
set_option linter.unusedSimpArgs false
open Go.Proofs

end Go.Vl

namespace Go.Vl
set_option linter.unusedVariables false
set_option linter.unusedSimpArgs false
open Go.Proofs
end Go.Vl

namespace Go.Vl
set_option linter.unusedVariables false
set_option linter.unusedSimpArgs false
open Go.Proofs
end Go.Vl

namespace Go.Vl
set_option linter.unusedVariables false
set_option linter.unusedSimpArgs false
open Go.Proofs

end Go.Vl

namespace Go.Vl
set_option linter.unusedVariables false
set_option linter.unusedSimpArgs false
open Go.Proofs

theorem bind_sat {ow : Int} {a : AttrM} {obj : Int} {c : Int}   : SatAt Try.prog 64 [i64 ow, .pv false (attrP a), i64 obj, i64 c] [] (fun res rows => res = [.pv true (foundP (bindM ow a obj c))] ∧ rows = []) := by
 refine sat_entry_G (rs := [(8, some (37, 4))]) Try.func64 rfl rfl (Nat.le_of_ble_eq_true rfl) (Nat.le_of_ble_eq_true rfl) (resTs1 ⟨_, _, Try.underlying37, rfl, inf37, sz37⟩) fun C hC => ?_
 rw [Try.ntmps64]
 replace hC : C.nb = 0 := hC
 refine vc_seq fun K1 hK1 => ?_
 refine vc_region ?_
 refine vo_box rfl rfl ?_
 refine vo_stM ?_
 refine vo_alloc Z37 rfl ?_
 refine vo_stM ?_
 refine vo_nil ?_
 refine hK1 _ ?_
 refine vc_seq fun K2 hK2 => ?_
 refine vc_region ?_
 refine vo_move_pv rfl rfl ?_
 refine vo_fieldAddr_ptr rfl rfl Try.underlying31 rfl inf3 (by rw [sz3]; decide) ?_
 try simp only [Nat.zero_add]
 refine vo_load_var rfl rfl rfl Try.underlying3 rfl rfl ?_
 refine vo_build S37 rfl rfl rfl ?_
 refine vo_stM ?_
 refine vo_alloc Z37 rfl ?_
 refine vo_stM ?_
 refine vo_store_varS rfl rfl rfl inf37 sz37 rfl ?_
 refine vo_stM ?_
 refine vo_nil ?_
 refine hK2 _ ?_
 refine vc_seq fun K3 hK3 => ?_
 refine vc_seq fun K4 hK4 => ?_
 refine vc_region ?_
 refine vo_fieldAddr_ptr rfl rfl Try.underlying31 rfl inf3 (by rw [sz3]; decide) ?_
 try simp only [Nat.zero_add]
 refine vo_load_var rfl rfl rfl Try.underlying3 rfl rfl ?_
 refine vo_nil ?_
 refine hK4 _ ?_
 refine vc_block ?_
 refine vc_seq fun K5 hK5 => ?_
 refine vc_region ?_
 refine vo_binI rfl rfl rfl rfl trivial ?_
 refine vo_assign_pv rfl rfl ?_
 refine vo_nil ?_
 refine hK5 _ ?_
 refine vc_cond rfl (fun hc1 => ?_) (fun hc1 => ?_)
 ·try simp only [zq0, zq1, zq2, zq3, zq4, zq5, zq6, zq7, zq8, zq9, zqa, zqb, zqc, zqd, zqe, zqf] at hc1
  refine vc_region ?_
  refine vo_move_pv rfl rfl ?_
  refine vo_fieldAddr_ptr rfl rfl Try.underlying37 rfl inf3 (by rw [sz3]; decide) ?_
  try simp only [Nat.zero_add]
  refine vo_store_var rfl rfl rfl rfl inf3 sz3 rfl ?_
  refine vo_stM ?_
  refine vo_nil ?_
  refine hK3 _ ?_
  refine vc_seq fun K6 hK6 => ?_
  refine vc_seq fun K7 hK7 => ?_
  refine vc_region ?_
  refine vo_fieldAddr_ptr rfl rfl Try.underlying31 rfl inf3 (by rw [sz3]; decide) ?_
  try simp only [Nat.zero_add]
  refine vo_load_var rfl rfl rfl Try.underlying3 rfl rfl ?_
  refine vo_binI rfl rfl rfl rfl trivial ?_
  refine vo_move_pv rfl rfl ?_
  refine vo_split 36 rfl (fun hg2 => ?_) (fun hg2 => ?_)
  ·try simp only [zq0, zq1, zq2, zq3, zq4, zq5, zq6, zq7, zq8, zq9, zqa, zqb, zqc, zqd, zqe, zqf] at hg2
   refine vo_guard_on rfl rfl rfl ?_
   refine vo_move_pv rfl rfl ?_
   refine vo_guard_on rfl rfl rfl ?_
   refine vo_binI rfl rfl rfl rfl trivial ?_
   refine vo_pick_t rfl rfl ?_
   refine vo_nil ?_
   refine hK7 _ ?_
   refine vc_cond rfl (fun hc3 => ?_) (fun hc3 => ?_)
   ·try simp only [zq0, zq1, zq2, zq3, zq4, zq5, zq6, zq7, zq8, zq9, zqa, zqb, zqc, zqd, zqe, zqf] at hc3
    refine vc_region ?_
    refine vo_fieldAddr_ptr rfl rfl Try.underlying37 rfl inf3 (by rw [sz3]; decide) ?_
    try simp only [Nat.zero_add]
    refine vo_store_var rfl rfl rfl rfl inf3 sz3 rfl ?_
    refine vo_stM ?_
    refine vo_nil ?_
    refine hK6 _ ?_
    refine vc_seq fun K8 hK8 => ?_
    refine vc_region ?_
    refine vo_load_varS rfl rfl rfl Try.underlying37 rfl inf37 sz37 rfl rfl ?_
    refine vo_store_varS rfl rfl rfl inf37 sz37 rfl ?_
    refine vo_stM ?_
    refine vo_nil ?_
    refine hK8 _ ?_
    refine vc_ret ?_
    change retQ _ _ _ _ _
    refine retQ_sel [] (srows := []) (.inr rfl) hC rfl rfl rfl rfl rfl rfl rfl ?_
    refine ⟨fr_eq (?_ : FoundM.mk _ _ _ _ = _), rfl⟩
    unfold bindM
    repeat' split
    all_goals first | rfl | (exfalso; omega)
   ·try simp only [zq0, zq1, zq2, zq3, zq4, zq5, zq6, zq7, zq8, zq9, zqa, zqb, zqc, zqd, zqe, zqf] at hc3
    refine vc_skip ?_
    refine hK6 _ ?_
    refine vc_seq fun K9 hK9 => ?_
    refine vc_region ?_
    refine vo_load_varS rfl rfl rfl Try.underlying37 rfl inf37 sz37 rfl rfl ?_
    refine vo_store_varS rfl rfl rfl inf37 sz37 rfl ?_
    refine vo_stM ?_
    refine vo_nil ?_
    refine hK9 _ ?_
    refine vc_ret ?_
    change retQ _ _ _ _ _
    refine retQ_sel [] (srows := []) (.inr rfl) hC rfl rfl rfl rfl rfl rfl rfl ?_
    refine ⟨fr_eq (?_ : FoundM.mk _ _ _ _ = _), rfl⟩
    unfold bindM
    repeat' split
    all_goals first | rfl | (exfalso; omega)
  ·try simp only [zq0, zq1, zq2, zq3, zq4, zq5, zq6, zq7, zq8, zq9, zqa, zqb, zqc, zqd, zqe, zqf] at hg2
   refine vo_guard_off rfl rfl rfl rfl rfl ?_
   refine vo_guard_off rfl rfl rfl rfl rfl ?_
   refine vo_pick_f rfl rfl ?_
   refine vo_nil ?_
   refine hK7 _ ?_
   refine vc_cond_f rfl ?_
   refine vc_skip ?_
   refine hK6 _ ?_
   refine vc_seq fun K10 hK10 => ?_
   refine vc_region ?_
   refine vo_load_varS rfl rfl rfl Try.underlying37 rfl inf37 sz37 rfl rfl ?_
   refine vo_store_varS rfl rfl rfl inf37 sz37 rfl ?_
   refine vo_stM ?_
   refine vo_nil ?_
   refine hK10 _ ?_
   refine vc_ret ?_
   change retQ _ _ _ _ _
   refine retQ_sel [] (srows := []) (.inr rfl) hC rfl rfl rfl rfl rfl rfl rfl ?_
   refine ⟨fr_eq (?_ : FoundM.mk _ _ _ _ = _), rfl⟩
   unfold bindM
   repeat' split
   all_goals first | rfl | (exfalso; omega)
 ·try simp only [zq0, zq1, zq2, zq3, zq4, zq5, zq6, zq7, zq8, zq9, zqa, zqb, zqc, zqd, zqe, zqf] at hc1
  refine vc_seq fun K11 hK11 => ?_
  refine vc_region ?_
  refine vo_binI rfl rfl rfl rfl trivial ?_
  refine vo_assign_pv rfl rfl ?_
  refine vo_nil ?_
  refine hK11 _ ?_
  refine vc_cond rfl (fun hc4 => ?_) (fun hc4 => ?_)
  ·try simp only [zq0, zq1, zq2, zq3, zq4, zq5, zq6, zq7, zq8, zq9, zqa, zqb, zqc, zqd, zqe, zqf] at hc4
   refine vc_seq fun K12 hK12 => ?_
   refine vc_region ?_
   refine vo_fieldAddr_ptr rfl rfl Try.underlying37 rfl inf3 (by rw [sz3]; decide) ?_
   try simp only [Nat.zero_add]
   refine vo_store_var rfl rfl rfl rfl inf3 sz3 rfl ?_
   refine vo_stM ?_
   refine vo_nil ?_
   refine hK12 _ ?_
   refine vc_region ?_
   refine vo_move_pv rfl rfl ?_
   refine vo_fieldAddr_ptr rfl rfl Try.underlying37 rfl inf3 (by rw [sz3]; decide) ?_
   try simp only [Nat.zero_add]
   refine vo_store_var rfl rfl rfl rfl inf3 sz3 rfl ?_
   refine vo_stM ?_
   refine vo_nil ?_
   refine hK3 _ ?_
   refine vc_seq fun K13 hK13 => ?_
   refine vc_seq fun K14 hK14 => ?_
   refine vc_region ?_
   refine vo_fieldAddr_ptr rfl rfl Try.underlying31 rfl inf3 (by rw [sz3]; decide) ?_
   try simp only [Nat.zero_add]
   refine vo_load_var rfl rfl rfl Try.underlying3 rfl rfl ?_
   refine vo_binI rfl rfl rfl rfl trivial ?_
   refine vo_move_pv rfl rfl ?_
   refine vo_split 36 rfl (fun hg5 => ?_) (fun hg5 => ?_)
   ·try simp only [zq0, zq1, zq2, zq3, zq4, zq5, zq6, zq7, zq8, zq9, zqa, zqb, zqc, zqd, zqe, zqf] at hg5
    refine vo_guard_on rfl rfl rfl ?_
    refine vo_move_pv rfl rfl ?_
    refine vo_guard_on rfl rfl rfl ?_
    refine vo_binI rfl rfl rfl rfl trivial ?_
    refine vo_pick_t rfl rfl ?_
    refine vo_nil ?_
    refine hK14 _ ?_
    refine vc_cond rfl (fun hc6 => ?_) (fun hc6 => ?_)
    ·try simp only [zq0, zq1, zq2, zq3, zq4, zq5, zq6, zq7, zq8, zq9, zqa, zqb, zqc, zqd, zqe, zqf] at hc6
     refine vc_region ?_
     refine vo_fieldAddr_ptr rfl rfl Try.underlying37 rfl inf3 (by rw [sz3]; decide) ?_
     try simp only [Nat.zero_add]
     refine vo_store_var rfl rfl rfl rfl inf3 sz3 rfl ?_
     refine vo_stM ?_
     refine vo_nil ?_
     refine hK13 _ ?_
     refine vc_seq fun K15 hK15 => ?_
     refine vc_region ?_
     refine vo_load_varS rfl rfl rfl Try.underlying37 rfl inf37 sz37 rfl rfl ?_
     refine vo_store_varS rfl rfl rfl inf37 sz37 rfl ?_
     refine vo_stM ?_
     refine vo_nil ?_
     refine hK15 _ ?_
     refine vc_ret ?_
     change retQ _ _ _ _ _
     refine retQ_sel [] (srows := []) (.inr rfl) hC rfl rfl rfl rfl rfl rfl rfl ?_
     refine ⟨fr_eq (?_ : FoundM.mk _ _ _ _ = _), rfl⟩
     unfold bindM
     repeat' split
     all_goals first | rfl | (exfalso; omega)
    ·try simp only [zq0, zq1, zq2, zq3, zq4, zq5, zq6, zq7, zq8, zq9, zqa, zqb, zqc, zqd, zqe, zqf] at hc6
     refine vc_skip ?_
     refine hK13 _ ?_
     refine vc_seq fun K16 hK16 => ?_
     refine vc_region ?_
     refine vo_load_varS rfl rfl rfl Try.underlying37 rfl inf37 sz37 rfl rfl ?_
     refine vo_store_varS rfl rfl rfl inf37 sz37 rfl ?_
     refine vo_stM ?_
     refine vo_nil ?_
     refine hK16 _ ?_
     refine vc_ret ?_
     change retQ _ _ _ _ _
     refine retQ_sel [] (srows := []) (.inr rfl) hC rfl rfl rfl rfl rfl rfl rfl ?_
     refine ⟨fr_eq (?_ : FoundM.mk _ _ _ _ = _), rfl⟩
     unfold bindM
     repeat' split
     all_goals first | rfl | (exfalso; omega)
   ·try simp only [zq0, zq1, zq2, zq3, zq4, zq5, zq6, zq7, zq8, zq9, zqa, zqb, zqc, zqd, zqe, zqf] at hg5
    refine vo_guard_off rfl rfl rfl rfl rfl ?_
    refine vo_guard_off rfl rfl rfl rfl rfl ?_
    refine vo_pick_f rfl rfl ?_
    refine vo_nil ?_
    refine hK14 _ ?_
    refine vc_cond_f rfl ?_
    refine vc_skip ?_
    refine hK13 _ ?_
    refine vc_seq fun K17 hK17 => ?_
    refine vc_region ?_
    refine vo_load_varS rfl rfl rfl Try.underlying37 rfl inf37 sz37 rfl rfl ?_
    refine vo_store_varS rfl rfl rfl inf37 sz37 rfl ?_
    refine vo_stM ?_
    refine vo_nil ?_
    refine hK17 _ ?_
    refine vc_ret ?_
    change retQ _ _ _ _ _
    refine retQ_sel [] (srows := []) (.inr rfl) hC rfl rfl rfl rfl rfl rfl rfl ?_
    refine ⟨fr_eq (?_ : FoundM.mk _ _ _ _ = _), rfl⟩
    unfold bindM
    repeat' split
    all_goals first | rfl | (exfalso; omega)
  ·try simp only [zq0, zq1, zq2, zq3, zq4, zq5, zq6, zq7, zq8, zq9, zqa, zqb, zqc, zqd, zqe, zqf] at hc4
   refine vc_seq fun K18 hK18 => ?_
   refine vc_seq fun K19 hK19 => ?_
   refine vc_region ?_
   refine vo_binI rfl rfl rfl rfl trivial ?_
   refine vo_assign_pv rfl rfl ?_
   refine vo_nil ?_
   refine hK19 _ ?_
   refine vc_cond rfl (fun hc7 => ?_) (fun hc7 => ?_)
   ·try simp only [zq0, zq1, zq2, zq3, zq4, zq5, zq6, zq7, zq8, zq9, zqa, zqb, zqc, zqd, zqe, zqf] at hc7
    refine vc_skip ?_
    refine hK18 _ ?_
    refine vc_cond rfl (fun hc8 => ?_) (fun hc8 => ?_)
    ·try simp only [zq0, zq1, zq2, zq3, zq4, zq5, zq6, zq7, zq8, zq9, zqa, zqb, zqc, zqd, zqe, zqf] at hc8
     refine vc_seq fun K20 hK20 => ?_
     refine vc_region ?_
     refine vo_move_pv rfl rfl ?_
     refine vo_binI rfl rfl rfl rfl trivial ?_
     refine vo_nil ?_
     refine hK20 _ ?_
     refine vc_cond rfl (fun hc9 => ?_) (fun hc9 => ?_)
     ·try simp only [zq0, zq1, zq2, zq3, zq4, zq5, zq6, zq7, zq8, zq9, zqa, zqb, zqc, zqd, zqe, zqf] at hc9
      refine vc_seq fun K21 hK21 => ?_
      refine vc_region ?_
      refine vo_fieldAddr_ptr rfl rfl Try.underlying37 rfl inf3 (by rw [sz3]; decide) ?_
      try simp only [Nat.zero_add]
      refine vo_store_var rfl rfl rfl rfl inf3 sz3 rfl ?_
      refine vo_stM ?_
      refine vo_nil ?_
      refine hK21 _ ?_
      refine vc_region ?_
      refine vo_move_pv rfl rfl ?_
      refine vo_fieldAddr_ptr rfl rfl Try.underlying37 rfl inf3 (by rw [sz3]; decide) ?_
      try simp only [Nat.zero_add]
      refine vo_store_var rfl rfl rfl rfl inf3 sz3 rfl ?_
      refine vo_stM ?_
      refine vo_nil ?_
      refine hK3 _ ?_
      refine vc_seq fun K22 hK22 => ?_
      refine vc_seq fun K23 hK23 => ?_
      refine vc_region ?_
      refine vo_fieldAddr_ptr rfl rfl Try.underlying31 rfl inf3 (by rw [sz3]; decide) ?_
      try simp only [Nat.zero_add]
      refine vo_load_var rfl rfl rfl Try.underlying3 rfl rfl ?_
      refine vo_binI rfl rfl rfl rfl trivial ?_
      refine vo_move_pv rfl rfl ?_
      refine vo_split 36 rfl (fun hg10 => ?_) (fun hg10 => ?_)
      ·try simp only [zq0, zq1, zq2, zq3, zq4, zq5, zq6, zq7, zq8, zq9, zqa, zqb, zqc, zqd, zqe, zqf] at hg10
       refine vo_guard_on rfl rfl rfl ?_
       refine vo_move_pv rfl rfl ?_
       refine vo_guard_on rfl rfl rfl ?_
       refine vo_binI rfl rfl rfl rfl trivial ?_
       refine vo_pick_t rfl rfl ?_
       refine vo_nil ?_
       refine hK23 _ ?_
       refine vc_cond rfl (fun hc11 => ?_) (fun hc11 => ?_)
       ·try simp only [zq0, zq1, zq2, zq3, zq4, zq5, zq6, zq7, zq8, zq9, zqa, zqb, zqc, zqd, zqe, zqf] at hc11
        refine vc_region ?_
        refine vo_fieldAddr_ptr rfl rfl Try.underlying37 rfl inf3 (by rw [sz3]; decide) ?_
        try simp only [Nat.zero_add]
        refine vo_store_var rfl rfl rfl rfl inf3 sz3 rfl ?_
        refine vo_stM ?_
        refine vo_nil ?_
        refine hK22 _ ?_
        refine vc_seq fun K24 hK24 => ?_
        refine vc_region ?_
        refine vo_load_varS rfl rfl rfl Try.underlying37 rfl inf37 sz37 rfl rfl ?_
        refine vo_store_varS rfl rfl rfl inf37 sz37 rfl ?_
        refine vo_stM ?_
        refine vo_nil ?_
        refine hK24 _ ?_
        refine vc_ret ?_
        change retQ _ _ _ _ _
        refine retQ_sel [] (srows := []) (.inr rfl) hC rfl rfl rfl rfl rfl rfl rfl ?_
        refine ⟨fr_eq (?_ : FoundM.mk _ _ _ _ = _), rfl⟩
        unfold bindM
        repeat' split
        all_goals first | rfl | (exfalso; omega)
       ·try simp only [zq0, zq1, zq2, zq3, zq4, zq5, zq6, zq7, zq8, zq9, zqa, zqb, zqc, zqd, zqe, zqf] at hc11
        refine vc_skip ?_
        refine hK22 _ ?_
        refine vc_seq fun K25 hK25 => ?_
        refine vc_region ?_
        refine vo_load_varS rfl rfl rfl Try.underlying37 rfl inf37 sz37 rfl rfl ?_
        refine vo_store_varS rfl rfl rfl inf37 sz37 rfl ?_
        refine vo_stM ?_
        refine vo_nil ?_
        refine hK25 _ ?_
        refine vc_ret ?_
        change retQ _ _ _ _ _
        refine retQ_sel [] (srows := []) (.inr rfl) hC rfl rfl rfl rfl rfl rfl rfl ?_
        refine ⟨fr_eq (?_ : FoundM.mk _ _ _ _ = _), rfl⟩
        unfold bindM
        repeat' split
        all_goals first | rfl | (exfalso; omega)
      ·try simp only [zq0, zq1, zq2, zq3, zq4, zq5, zq6, zq7, zq8, zq9, zqa, zqb, zqc, zqd, zqe, zqf] at hg10
       refine vo_guard_off rfl rfl rfl rfl rfl ?_
       refine vo_guard_off rfl rfl rfl rfl rfl ?_
       refine vo_pick_f rfl rfl ?_
       refine vo_nil ?_
       refine hK23 _ ?_
       refine vc_cond_f rfl ?_
       refine vc_skip ?_
       refine hK22 _ ?_
       refine vc_seq fun K26 hK26 => ?_
       refine vc_region ?_
       refine vo_load_varS rfl rfl rfl Try.underlying37 rfl inf37 sz37 rfl rfl ?_
       refine vo_store_varS rfl rfl rfl inf37 sz37 rfl ?_
       refine vo_stM ?_
       refine vo_nil ?_
       refine hK26 _ ?_
       refine vc_ret ?_
       change retQ _ _ _ _ _
       refine retQ_sel [] (srows := []) (.inr rfl) hC rfl rfl rfl rfl rfl rfl rfl ?_
       refine ⟨fr_eq (?_ : FoundM.mk _ _ _ _ = _), rfl⟩
       unfold bindM
       repeat' split
       all_goals first | rfl | (exfalso; omega)
     ·try simp only [zq0, zq1, zq2, zq3, zq4, zq5, zq6, zq7, zq8, zq9, zqa, zqb, zqc, zqd, zqe, zqf] at hc9
      refine vc_skip ?_
      refine hK3 _ ?_
      refine vc_seq fun K27 hK27 => ?_
      refine vc_seq fun K28 hK28 => ?_
      refine vc_region ?_
      refine vo_fieldAddr_ptr rfl rfl Try.underlying31 rfl inf3 (by rw [sz3]; decide) ?_
      try simp only [Nat.zero_add]
      refine vo_load_var rfl rfl rfl Try.underlying3 rfl rfl ?_
      refine vo_binI rfl rfl rfl rfl trivial ?_
      refine vo_move_pv rfl rfl ?_
      refine vo_split 36 rfl (fun hg12 => ?_) (fun hg12 => ?_)
      ·try simp only [zq0, zq1, zq2, zq3, zq4, zq5, zq6, zq7, zq8, zq9, zqa, zqb, zqc, zqd, zqe, zqf] at hg12
       refine vo_guard_on rfl rfl rfl ?_
       refine vo_move_pv rfl rfl ?_
       refine vo_guard_on rfl rfl rfl ?_
       refine vo_binI rfl rfl rfl rfl trivial ?_
       refine vo_pick_t rfl rfl ?_
       refine vo_nil ?_
       refine hK28 _ ?_
       refine vc_cond rfl (fun hc13 => ?_) (fun hc13 => ?_)
       ·try simp only [zq0, zq1, zq2, zq3, zq4, zq5, zq6, zq7, zq8, zq9, zqa, zqb, zqc, zqd, zqe, zqf] at hc13
        refine vc_region ?_
        refine vo_fieldAddr_ptr rfl rfl Try.underlying37 rfl inf3 (by rw [sz3]; decide) ?_
        try simp only [Nat.zero_add]
        refine vo_store_var rfl rfl rfl rfl inf3 sz3 rfl ?_
        refine vo_stM ?_
        refine vo_nil ?_
        refine hK27 _ ?_
        refine vc_seq fun K29 hK29 => ?_
        refine vc_region ?_
        refine vo_load_varS rfl rfl rfl Try.underlying37 rfl inf37 sz37 rfl rfl ?_
        refine vo_store_varS rfl rfl rfl inf37 sz37 rfl ?_
        refine vo_stM ?_
        refine vo_nil ?_
        refine hK29 _ ?_
        refine vc_ret ?_
        change retQ _ _ _ _ _
        refine retQ_sel [] (srows := []) (.inr rfl) hC rfl rfl rfl rfl rfl rfl rfl ?_
        refine ⟨fr_eq (?_ : FoundM.mk _ _ _ _ = _), rfl⟩
        unfold bindM
        repeat' split
        all_goals first | rfl | (exfalso; omega)
       ·try simp only [zq0, zq1, zq2, zq3, zq4, zq5, zq6, zq7, zq8, zq9, zqa, zqb, zqc, zqd, zqe, zqf] at hc13
        refine vc_skip ?_
        refine hK27 _ ?_
        refine vc_seq fun K30 hK30 => ?_
        refine vc_region ?_
        refine vo_load_varS rfl rfl rfl Try.underlying37 rfl inf37 sz37 rfl rfl ?_
        refine vo_store_varS rfl rfl rfl inf37 sz37 rfl ?_
        refine vo_stM ?_
        refine vo_nil ?_
        refine hK30 _ ?_
        refine vc_ret ?_
        change retQ _ _ _ _ _
        refine retQ_sel [] (srows := []) (.inr rfl) hC rfl rfl rfl rfl rfl rfl rfl ?_
        refine ⟨fr_eq (?_ : FoundM.mk _ _ _ _ = _), rfl⟩
        unfold bindM
        repeat' split
        all_goals first | rfl | (exfalso; omega)
      ·try simp only [zq0, zq1, zq2, zq3, zq4, zq5, zq6, zq7, zq8, zq9, zqa, zqb, zqc, zqd, zqe, zqf] at hg12
       refine vo_guard_off rfl rfl rfl rfl rfl ?_
       refine vo_guard_off rfl rfl rfl rfl rfl ?_
       refine vo_pick_f rfl rfl ?_
       refine vo_nil ?_
       refine hK28 _ ?_
       refine vc_cond_f rfl ?_
       refine vc_skip ?_
       refine hK27 _ ?_
       refine vc_seq fun K31 hK31 => ?_
       refine vc_region ?_
       refine vo_load_varS rfl rfl rfl Try.underlying37 rfl inf37 sz37 rfl rfl ?_
       refine vo_store_varS rfl rfl rfl inf37 sz37 rfl ?_
       refine vo_stM ?_
       refine vo_nil ?_
       refine hK31 _ ?_
       refine vc_ret ?_
       change retQ _ _ _ _ _
       refine retQ_sel [] (srows := []) (.inr rfl) hC rfl rfl rfl rfl rfl rfl rfl ?_
       refine ⟨fr_eq (?_ : FoundM.mk _ _ _ _ = _), rfl⟩
       unfold bindM
       repeat' split
       all_goals first | rfl | (exfalso; omega)
    ·try simp only [zq0, zq1, zq2, zq3, zq4, zq5, zq6, zq7, zq8, zq9, zqa, zqb, zqc, zqd, zqe, zqf] at hc8
     refine vc_skip ?_
     refine hK3 _ ?_
     refine vc_seq fun K32 hK32 => ?_
     refine vc_seq fun K33 hK33 => ?_
     refine vc_region ?_
     refine vo_fieldAddr_ptr rfl rfl Try.underlying31 rfl inf3 (by rw [sz3]; decide) ?_
     try simp only [Nat.zero_add]
     refine vo_load_var rfl rfl rfl Try.underlying3 rfl rfl ?_
     refine vo_binI rfl rfl rfl rfl trivial ?_
     refine vo_move_pv rfl rfl ?_
     refine vo_split 36 rfl (fun hg14 => ?_) (fun hg14 => ?_)
     ·try simp only [zq0, zq1, zq2, zq3, zq4, zq5, zq6, zq7, zq8, zq9, zqa, zqb, zqc, zqd, zqe, zqf] at hg14
      refine vo_guard_on rfl rfl rfl ?_
      refine vo_move_pv rfl rfl ?_
      refine vo_guard_on rfl rfl rfl ?_
      refine vo_binI rfl rfl rfl rfl trivial ?_
      refine vo_pick_t rfl rfl ?_
      refine vo_nil ?_
      refine hK33 _ ?_
      refine vc_cond rfl (fun hc15 => ?_) (fun hc15 => ?_)
      ·try simp only [zq0, zq1, zq2, zq3, zq4, zq5, zq6, zq7, zq8, zq9, zqa, zqb, zqc, zqd, zqe, zqf] at hc15
       refine vc_region ?_
       refine vo_fieldAddr_ptr rfl rfl Try.underlying37 rfl inf3 (by rw [sz3]; decide) ?_
       try simp only [Nat.zero_add]
       refine vo_store_var rfl rfl rfl rfl inf3 sz3 rfl ?_
       refine vo_stM ?_
       refine vo_nil ?_
       refine hK32 _ ?_
       refine vc_seq fun K34 hK34 => ?_
       refine vc_region ?_
       refine vo_load_varS rfl rfl rfl Try.underlying37 rfl inf37 sz37 rfl rfl ?_
       refine vo_store_varS rfl rfl rfl inf37 sz37 rfl ?_
       refine vo_stM ?_
       refine vo_nil ?_
       refine hK34 _ ?_
       refine vc_ret ?_
       change retQ _ _ _ _ _
       refine retQ_sel [] (srows := []) (.inr rfl) hC rfl rfl rfl rfl rfl rfl rfl ?_
       refine ⟨fr_eq (?_ : FoundM.mk _ _ _ _ = _), rfl⟩
       unfold bindM
       repeat' split
       all_goals first | rfl | (exfalso; omega)
      ·try simp only [zq0, zq1, zq2, zq3, zq4, zq5, zq6, zq7, zq8, zq9, zqa, zqb, zqc, zqd, zqe, zqf] at hc15
       refine vc_skip ?_
       refine hK32 _ ?_
       refine vc_seq fun K35 hK35 => ?_
       refine vc_region ?_
       refine vo_load_varS rfl rfl rfl Try.underlying37 rfl inf37 sz37 rfl rfl ?_
       refine vo_store_varS rfl rfl rfl inf37 sz37 rfl ?_
       refine vo_stM ?_
       refine vo_nil ?_
       refine hK35 _ ?_
       refine vc_ret ?_
       change retQ _ _ _ _ _
       refine retQ_sel [] (srows := []) (.inr rfl) hC rfl rfl rfl rfl rfl rfl rfl ?_
       refine ⟨fr_eq (?_ : FoundM.mk _ _ _ _ = _), rfl⟩
       unfold bindM
       repeat' split
       all_goals first | rfl | (exfalso; omega)
     ·try simp only [zq0, zq1, zq2, zq3, zq4, zq5, zq6, zq7, zq8, zq9, zqa, zqb, zqc, zqd, zqe, zqf] at hg14
      refine vo_guard_off rfl rfl rfl rfl rfl ?_
      refine vo_guard_off rfl rfl rfl rfl rfl ?_
      refine vo_pick_f rfl rfl ?_
      refine vo_nil ?_
      refine hK33 _ ?_
      refine vc_cond_f rfl ?_
      refine vc_skip ?_
      refine hK32 _ ?_
      refine vc_seq fun K36 hK36 => ?_
      refine vc_region ?_
      refine vo_load_varS rfl rfl rfl Try.underlying37 rfl inf37 sz37 rfl rfl ?_
      refine vo_store_varS rfl rfl rfl inf37 sz37 rfl ?_
      refine vo_stM ?_
      refine vo_nil ?_
      refine hK36 _ ?_
      refine vc_ret ?_
      change retQ _ _ _ _ _
      refine retQ_sel [] (srows := []) (.inr rfl) hC rfl rfl rfl rfl rfl rfl rfl ?_
      refine ⟨fr_eq (?_ : FoundM.mk _ _ _ _ = _), rfl⟩
      unfold bindM
      repeat' split
      all_goals first | rfl | (exfalso; omega)
   ·try simp only [zq0, zq1, zq2, zq3, zq4, zq5, zq6, zq7, zq8, zq9, zqa, zqb, zqc, zqd, zqe, zqf] at hc7
    refine vc_region ?_
    refine vo_binI rfl rfl rfl rfl trivial ?_
    refine vo_assign_pv rfl rfl ?_
    refine vo_nil ?_
    refine hK18 _ ?_
    refine vc_cond rfl (fun hc16 => ?_) (fun hc16 => ?_)
    ·try simp only [zq0, zq1, zq2, zq3, zq4, zq5, zq6, zq7, zq8, zq9, zqa, zqb, zqc, zqd, zqe, zqf] at hc16
     refine vc_seq fun K37 hK37 => ?_
     refine vc_region ?_
     refine vo_move_pv rfl rfl ?_
     refine vo_binI rfl rfl rfl rfl trivial ?_
     refine vo_nil ?_
     refine hK37 _ ?_
     refine vc_cond rfl (fun hc17 => ?_) (fun hc17 => ?_)
     ·try simp only [zq0, zq1, zq2, zq3, zq4, zq5, zq6, zq7, zq8, zq9, zqa, zqb, zqc, zqd, zqe, zqf] at hc17
      refine vc_seq fun K38 hK38 => ?_
      refine vc_region ?_
      refine vo_fieldAddr_ptr rfl rfl Try.underlying37 rfl inf3 (by rw [sz3]; decide) ?_
      try simp only [Nat.zero_add]
      refine vo_store_var rfl rfl rfl rfl inf3 sz3 rfl ?_
      refine vo_stM ?_
      refine vo_nil ?_
      refine hK38 _ ?_
      refine vc_region ?_
      refine vo_move_pv rfl rfl ?_
      refine vo_fieldAddr_ptr rfl rfl Try.underlying37 rfl inf3 (by rw [sz3]; decide) ?_
      try simp only [Nat.zero_add]
      refine vo_store_var rfl rfl rfl rfl inf3 sz3 rfl ?_
      refine vo_stM ?_
      refine vo_nil ?_
      refine hK3 _ ?_
      refine vc_seq fun K39 hK39 => ?_
      refine vc_seq fun K40 hK40 => ?_
      refine vc_region ?_
      refine vo_fieldAddr_ptr rfl rfl Try.underlying31 rfl inf3 (by rw [sz3]; decide) ?_
      try simp only [Nat.zero_add]
      refine vo_load_var rfl rfl rfl Try.underlying3 rfl rfl ?_
      refine vo_binI rfl rfl rfl rfl trivial ?_
      refine vo_move_pv rfl rfl ?_
      refine vo_split 36 rfl (fun hg18 => ?_) (fun hg18 => ?_)
      ·try simp only [zq0, zq1, zq2, zq3, zq4, zq5, zq6, zq7, zq8, zq9, zqa, zqb, zqc, zqd, zqe, zqf] at hg18
       refine vo_guard_on rfl rfl rfl ?_
       refine vo_move_pv rfl rfl ?_
       refine vo_guard_on rfl rfl rfl ?_
       refine vo_binI rfl rfl rfl rfl trivial ?_
       refine vo_pick_t rfl rfl ?_
       refine vo_nil ?_
       refine hK40 _ ?_
       refine vc_cond rfl (fun hc19 => ?_) (fun hc19 => ?_)
       ·try simp only [zq0, zq1, zq2, zq3, zq4, zq5, zq6, zq7, zq8, zq9, zqa, zqb, zqc, zqd, zqe, zqf] at hc19
        refine vc_region ?_
        refine vo_fieldAddr_ptr rfl rfl Try.underlying37 rfl inf3 (by rw [sz3]; decide) ?_
        try simp only [Nat.zero_add]
        refine vo_store_var rfl rfl rfl rfl inf3 sz3 rfl ?_
        refine vo_stM ?_
        refine vo_nil ?_
        refine hK39 _ ?_
        refine vc_seq fun K41 hK41 => ?_
        refine vc_region ?_
        refine vo_load_varS rfl rfl rfl Try.underlying37 rfl inf37 sz37 rfl rfl ?_
        refine vo_store_varS rfl rfl rfl inf37 sz37 rfl ?_
        refine vo_stM ?_
        refine vo_nil ?_
        refine hK41 _ ?_
        refine vc_ret ?_
        change retQ _ _ _ _ _
        refine retQ_sel [] (srows := []) (.inr rfl) hC rfl rfl rfl rfl rfl rfl rfl ?_
        refine ⟨fr_eq (?_ : FoundM.mk _ _ _ _ = _), rfl⟩
        unfold bindM
        repeat' split
        all_goals first | rfl | (exfalso; omega)
       ·try simp only [zq0, zq1, zq2, zq3, zq4, zq5, zq6, zq7, zq8, zq9, zqa, zqb, zqc, zqd, zqe, zqf] at hc19
        refine vc_skip ?_
        refine hK39 _ ?_
        refine vc_seq fun K42 hK42 => ?_
        refine vc_region ?_
        refine vo_load_varS rfl rfl rfl Try.underlying37 rfl inf37 sz37 rfl rfl ?_
        refine vo_store_varS rfl rfl rfl inf37 sz37 rfl ?_
        refine vo_stM ?_
        refine vo_nil ?_
        refine hK42 _ ?_
        refine vc_ret ?_
        change retQ _ _ _ _ _
        refine retQ_sel [] (srows := []) (.inr rfl) hC rfl rfl rfl rfl rfl rfl rfl ?_
        refine ⟨fr_eq (?_ : FoundM.mk _ _ _ _ = _), rfl⟩
        unfold bindM
        repeat' split
        all_goals first | rfl | (exfalso; omega)
      ·try simp only [zq0, zq1, zq2, zq3, zq4, zq5, zq6, zq7, zq8, zq9, zqa, zqb, zqc, zqd, zqe, zqf] at hg18
       refine vo_guard_off rfl rfl rfl rfl rfl ?_
       refine vo_guard_off rfl rfl rfl rfl rfl ?_
       refine vo_pick_f rfl rfl ?_
       refine vo_nil ?_
       refine hK40 _ ?_
       refine vc_cond_f rfl ?_
       refine vc_skip ?_
       refine hK39 _ ?_
       refine vc_seq fun K43 hK43 => ?_
       refine vc_region ?_
       refine vo_load_varS rfl rfl rfl Try.underlying37 rfl inf37 sz37 rfl rfl ?_
       refine vo_store_varS rfl rfl rfl inf37 sz37 rfl ?_
       refine vo_stM ?_
       refine vo_nil ?_
       refine hK43 _ ?_
       refine vc_ret ?_
       change retQ _ _ _ _ _
       refine retQ_sel [] (srows := []) (.inr rfl) hC rfl rfl rfl rfl rfl rfl rfl ?_
       refine ⟨fr_eq (?_ : FoundM.mk _ _ _ _ = _), rfl⟩
       unfold bindM
       repeat' split
       all_goals first | rfl | (exfalso; omega)
     ·try simp only [zq0, zq1, zq2, zq3, zq4, zq5, zq6, zq7, zq8, zq9, zqa, zqb, zqc, zqd, zqe, zqf] at hc17
      refine vc_skip ?_
      refine hK3 _ ?_
      refine vc_seq fun K44 hK44 => ?_
      refine vc_seq fun K45 hK45 => ?_
      refine vc_region ?_
      refine vo_fieldAddr_ptr rfl rfl Try.underlying31 rfl inf3 (by rw [sz3]; decide) ?_
      try simp only [Nat.zero_add]
      refine vo_load_var rfl rfl rfl Try.underlying3 rfl rfl ?_
      refine vo_binI rfl rfl rfl rfl trivial ?_
      refine vo_move_pv rfl rfl ?_
      refine vo_split 36 rfl (fun hg20 => ?_) (fun hg20 => ?_)
      ·try simp only [zq0, zq1, zq2, zq3, zq4, zq5, zq6, zq7, zq8, zq9, zqa, zqb, zqc, zqd, zqe, zqf] at hg20
       refine vo_guard_on rfl rfl rfl ?_
       refine vo_move_pv rfl rfl ?_
       refine vo_guard_on rfl rfl rfl ?_
       refine vo_binI rfl rfl rfl rfl trivial ?_
       refine vo_pick_t rfl rfl ?_
       refine vo_nil ?_
       refine hK45 _ ?_
       refine vc_cond rfl (fun hc21 => ?_) (fun hc21 => ?_)
       ·try simp only [zq0, zq1, zq2, zq3, zq4, zq5, zq6, zq7, zq8, zq9, zqa, zqb, zqc, zqd, zqe, zqf] at hc21
        refine vc_region ?_
        refine vo_fieldAddr_ptr rfl rfl Try.underlying37 rfl inf3 (by rw [sz3]; decide) ?_
        try simp only [Nat.zero_add]
        refine vo_store_var rfl rfl rfl rfl inf3 sz3 rfl ?_
        refine vo_stM ?_
        refine vo_nil ?_
        refine hK44 _ ?_
        refine vc_seq fun K46 hK46 => ?_
        refine vc_region ?_
        refine vo_load_varS rfl rfl rfl Try.underlying37 rfl inf37 sz37 rfl rfl ?_
        refine vo_store_varS rfl rfl rfl inf37 sz37 rfl ?_
        refine vo_stM ?_
        refine vo_nil ?_
        refine hK46 _ ?_
        refine vc_ret ?_
        change retQ _ _ _ _ _
        refine retQ_sel [] (srows := []) (.inr rfl) hC rfl rfl rfl rfl rfl rfl rfl ?_
        refine ⟨fr_eq (?_ : FoundM.mk _ _ _ _ = _), rfl⟩
        unfold bindM
        repeat' split
        all_goals first | rfl | (exfalso; omega)
       ·try simp only [zq0, zq1, zq2, zq3, zq4, zq5, zq6, zq7, zq8, zq9, zqa, zqb, zqc, zqd, zqe, zqf] at hc21
        refine vc_skip ?_
        refine hK44 _ ?_
        refine vc_seq fun K47 hK47 => ?_
        refine vc_region ?_
        refine vo_load_varS rfl rfl rfl Try.underlying37 rfl inf37 sz37 rfl rfl ?_
        refine vo_store_varS rfl rfl rfl inf37 sz37 rfl ?_
        refine vo_stM ?_
        refine vo_nil ?_
        refine hK47 _ ?_
        refine vc_ret ?_
        change retQ _ _ _ _ _
        refine retQ_sel [] (srows := []) (.inr rfl) hC rfl rfl rfl rfl rfl rfl rfl ?_
        refine ⟨fr_eq (?_ : FoundM.mk _ _ _ _ = _), rfl⟩
        unfold bindM
        repeat' split
        all_goals first | rfl | (exfalso; omega)
      ·try simp only [zq0, zq1, zq2, zq3, zq4, zq5, zq6, zq7, zq8, zq9, zqa, zqb, zqc, zqd, zqe, zqf] at hg20
       refine vo_guard_off rfl rfl rfl rfl rfl ?_
       refine vo_guard_off rfl rfl rfl rfl rfl ?_
       refine vo_pick_f rfl rfl ?_
       refine vo_nil ?_
       refine hK45 _ ?_
       refine vc_cond_f rfl ?_
       refine vc_skip ?_
       refine hK44 _ ?_
       refine vc_seq fun K48 hK48 => ?_
       refine vc_region ?_
       refine vo_load_varS rfl rfl rfl Try.underlying37 rfl inf37 sz37 rfl rfl ?_
       refine vo_store_varS rfl rfl rfl inf37 sz37 rfl ?_
       refine vo_stM ?_
       refine vo_nil ?_
       refine hK48 _ ?_
       refine vc_ret ?_
       change retQ _ _ _ _ _
       refine retQ_sel [] (srows := []) (.inr rfl) hC rfl rfl rfl rfl rfl rfl rfl ?_
       refine ⟨fr_eq (?_ : FoundM.mk _ _ _ _ = _), rfl⟩
       unfold bindM
       repeat' split
       all_goals first | rfl | (exfalso; omega)
    ·try simp only [zq0, zq1, zq2, zq3, zq4, zq5, zq6, zq7, zq8, zq9, zqa, zqb, zqc, zqd, zqe, zqf] at hc16
     refine vc_skip ?_
     refine hK3 _ ?_
     refine vc_seq fun K49 hK49 => ?_
     refine vc_seq fun K50 hK50 => ?_
     refine vc_region ?_
     refine vo_fieldAddr_ptr rfl rfl Try.underlying31 rfl inf3 (by rw [sz3]; decide) ?_
     try simp only [Nat.zero_add]
     refine vo_load_var rfl rfl rfl Try.underlying3 rfl rfl ?_
     refine vo_binI rfl rfl rfl rfl trivial ?_
     refine vo_move_pv rfl rfl ?_
     refine vo_split 36 rfl (fun hg22 => ?_) (fun hg22 => ?_)
     ·try simp only [zq0, zq1, zq2, zq3, zq4, zq5, zq6, zq7, zq8, zq9, zqa, zqb, zqc, zqd, zqe, zqf] at hg22
      refine vo_guard_on rfl rfl rfl ?_
      refine vo_move_pv rfl rfl ?_
      refine vo_guard_on rfl rfl rfl ?_
      refine vo_binI rfl rfl rfl rfl trivial ?_
      refine vo_pick_t rfl rfl ?_
      refine vo_nil ?_
      refine hK50 _ ?_
      refine vc_cond rfl (fun hc23 => ?_) (fun hc23 => ?_)
      ·try simp only [zq0, zq1, zq2, zq3, zq4, zq5, zq6, zq7, zq8, zq9, zqa, zqb, zqc, zqd, zqe, zqf] at hc23
       refine vc_region ?_
       refine vo_fieldAddr_ptr rfl rfl Try.underlying37 rfl inf3 (by rw [sz3]; decide) ?_
       try simp only [Nat.zero_add]
       refine vo_store_var rfl rfl rfl rfl inf3 sz3 rfl ?_
       refine vo_stM ?_
       refine vo_nil ?_
       refine hK49 _ ?_
       refine vc_seq fun K51 hK51 => ?_
       refine vc_region ?_
       refine vo_load_varS rfl rfl rfl Try.underlying37 rfl inf37 sz37 rfl rfl ?_
       refine vo_store_varS rfl rfl rfl inf37 sz37 rfl ?_
       refine vo_stM ?_
       refine vo_nil ?_
       refine hK51 _ ?_
       refine vc_ret ?_
       change retQ _ _ _ _ _
       refine retQ_sel [] (srows := []) (.inr rfl) hC rfl rfl rfl rfl rfl rfl rfl ?_
       refine ⟨fr_eq (?_ : FoundM.mk _ _ _ _ = _), rfl⟩
       unfold bindM
       repeat' split
       all_goals first | rfl | (exfalso; omega)
      ·try simp only [zq0, zq1, zq2, zq3, zq4, zq5, zq6, zq7, zq8, zq9, zqa, zqb, zqc, zqd, zqe, zqf] at hc23
       refine vc_skip ?_
       refine hK49 _ ?_
       refine vc_seq fun K52 hK52 => ?_
       refine vc_region ?_
       refine vo_load_varS rfl rfl rfl Try.underlying37 rfl inf37 sz37 rfl rfl ?_
       refine vo_store_varS rfl rfl rfl inf37 sz37 rfl ?_
       refine vo_stM ?_
       refine vo_nil ?_
       refine hK52 _ ?_
       refine vc_ret ?_
       change retQ _ _ _ _ _
       refine retQ_sel [] (srows := []) (.inr rfl) hC rfl rfl rfl rfl rfl rfl rfl ?_
       refine ⟨fr_eq (?_ : FoundM.mk _ _ _ _ = _), rfl⟩
       unfold bindM
       repeat' split
       all_goals first | rfl | (exfalso; omega)
     ·try simp only [zq0, zq1, zq2, zq3, zq4, zq5, zq6, zq7, zq8, zq9, zqa, zqb, zqc, zqd, zqe, zqf] at hg22
      refine vo_guard_off rfl rfl rfl rfl rfl ?_
      refine vo_guard_off rfl rfl rfl rfl rfl ?_
      refine vo_pick_f rfl rfl ?_
      refine vo_nil ?_
      refine hK50 _ ?_
      refine vc_cond_f rfl ?_
      refine vc_skip ?_
      refine hK49 _ ?_
      refine vc_seq fun K53 hK53 => ?_
      refine vc_region ?_
      refine vo_load_varS rfl rfl rfl Try.underlying37 rfl inf37 sz37 rfl rfl ?_
      refine vo_store_varS rfl rfl rfl inf37 sz37 rfl ?_
      refine vo_stM ?_
      refine vo_nil ?_
      refine hK53 _ ?_
      refine vc_ret ?_
      change retQ _ _ _ _ _
      refine retQ_sel [] (srows := []) (.inr rfl) hC rfl rfl rfl rfl rfl rfl rfl ?_
      refine ⟨fr_eq (?_ : FoundM.mk _ _ _ _ = _), rfl⟩
      unfold bindM
      repeat' split
      all_goals first | rfl | (exfalso; omega)


theorem findFromK_sat {w : WorldM} {nl1 : Option Bool} {order : List Int} {fr : Nat} {name : Int}  (hfr : fr ≤ order.length) (hA0 : w.attrs.length ≤ 2000000) (hA : ∀ l ∈ w.attrs, l.length ≤ 2000000) (ho : OrdIn w.attrs.length order) : SatAt Try.prog 77 [.pv false (worldP w), .pv false (.sl nl1 1 (order.map intP)), i64 fr, i64 name] [] (fun res rows => res = [i64 (fnd w.attrs name (order.drop fr)).1, .pv true (attrP (fnd w.attrs name (order.drop fr)).2)] ∧ rows = []) := by
 obtain ⟨ho1, ho2⟩ := ho
 refine sat_entry_G (rs := [(8, none), (9, some (31, 3))]) Try.func77 rfl rfl (Nat.le_of_ble_eq_true rfl) (Nat.le_of_ble_eq_true rfl) (resTs2 trivial ⟨_, _, Try.underlying31, rfl, inf31, sz31⟩) fun C hC => ?_
 rw [Try.ntmps77]
 replace hC : C.nb = 0 := hC
 refine vc_seq fun K1 hK1 => ?_
 refine vc_region ?_
 refine vo_box rfl rfl ?_
 refine vo_stM ?_
 refine vo_assign_pv rfl rfl ?_
 refine vo_alloc Z31 rfl ?_
 refine vo_stM ?_
 refine vo_nil ?_
 refine hK1 _ ?_
 refine vc_seq fun K2 hK2 => ?_
 refine vc_seq fun K3 hK3 => ?_
 refine vc_region ?_
 refine vo_move_pv rfl rfl ?_
 refine vo_assign_pv rfl rfl ?_
 refine vo_nil ?_
 refine hK3 _ ?_
 refine vc_block ?_
 refine vc_stM ?_
 refine vc_loopE [1, 3, 4, 9] [10] [] _ _ (fun mz vs rs => ∃ (k : Nat), mz = order.length - k ∧ (k ≤ order.length) ∧ (fnd w.attrs name (order.drop fr) = fnd w.attrs name (order.drop k)) ∧ vs = [i64 k] ∧ rs = []) (order.length - fr) rfl rfl (le_len hC rfl) ⟨rfl, rfl, rfl⟩ rfl ⟨fr, rfl, hfr, rfl, rfl, rfl⟩ ?_
 rintro mz vs rs - - ⟨k, rfl, hk, hf, rfl, rfl⟩
 refine vc_stM ?_
 refine vc_seq fun K4 hK4 => ?_
 refine vc_seq fun K5 hK5 => ?_
 refine vc_region ?_
 refine vo_move_pv rfl rfl ?_
 refine vo_move_pv rfl rfl ?_
 refine vo_len_pv rfl rfl Try.underlying34 ?_
 refine vo_binI rfl rfl rfl rfl trivial ?_
 refine vo_nil ?_
 refine hK5 _ ?_
 refine vc_cond rfl (fun hc1 => ?_) (fun hc1 => ?_)
 ·try simp only [zq0, zq1, zq2, zq3, zq4, zq5, zq6, zq7, zq8, zq9, zqa, zqb, zqc, zqd, zqe, zqf] at hc1
  have hin := ho2 _ (getD_mem (show k < order.length by omega) 0)
  have hak := (getD_all (p := fun l : List AttrM => l.length ≤ 2000000) hA [] (by simp) (order.getD k 0).toNat)
  refine vc_skip ?_
  refine hK4 _ ?_
  refine vc_seq fun K6 hK6 => ?_
  refine vc_block ?_
  refine vc_seq fun K7 hK7 => ?_
  refine vc_draw (by kernel_rfl) ?_
  change VD _ _ _ 11 _ _ _
  refine vd_light 0 rfl rfl rfl (by kernel_rfl) (by kernel_rfl) (by kernel_rfl) (wnt_none rfl) (lt_fieldAddr_ptr rfl Try.underlying27 rfl inf24 (by rw [sz24]; decide)) ?_
  try simp only [Nat.zero_add]
  refine vd_light 1 rfl rfl rfl (by kernel_rfl) (by kernel_rfl) (by kernel_rfl) (wnt_none rfl) (lt_load_var rfl rfl Try.underlying24 rfl rfl) ?_
  refine vd_light 2 rfl rfl rfl (by kernel_rfl) (by kernel_rfl) (by kernel_rfl) (wnt_none rfl) (lt_move_pv rfl) ?_
  refine vd_light 3 rfl rfl rfl (by kernel_rfl) (by kernel_rfl) (by kernel_rfl) (wnt_none rfl) (lt_move_pv rfl) ?_
  refine vd_light 4 rfl rfl rfl (by kernel_rfl) (by kernel_rfl) (by kernel_rfl) (wnt_none rfl) (lt_index_pv (.int .i64 0) rfl rfl E34.und inf3 sz3 sd sd) ?_
  simp only [Int.toNat_natCast, Int.toNat_zero, getD_ints, getD_intss, getD_bools, getD_bytes, PV.cells, getD_ops, getD_pairs, getD_insts, getD_attrs, getD_attrss, getD_objs, getD_ordP]
  refine vd_light 5 rfl rfl rfl (by kernel_rfl) (by kernel_rfl) (by kernel_rfl) (wnt_none rfl) (lt_load_adr rfl Try.underlying3 rfl) ?_
  refine vd_light 6 rfl rfl rfl (by kernel_rfl) (by kernel_rfl) (by kernel_rfl) (wnt_none rfl) (lt_index_pv (.sl none 3 []) rfl rfl E24.und inf52 sz52 sd sd) ?_
  simp only [Int.toNat_natCast, Int.toNat_zero, getD_ints, getD_intss, getD_bools, getD_bytes, PV.cells, getD_ops, getD_pairs, getD_insts, getD_attrs, getD_attrss, getD_objs, getD_ordP]
  refine vd_light 7 rfl rfl rfl (by kernel_rfl) (by kernel_rfl) (by kernel_rfl) (wnt_none rfl) (lt_load_adr rfl Try.underlying52 rfl) ?_
  refine vd_light 8 rfl rfl rfl (by kernel_rfl) (by kernel_rfl) (by kernel_rfl) (wnt_none rfl) (lt_move_pv rfl) ?_
  refine vd_call 9 rfl (by kernel_rfl) (wnt_none rfl) Try.func112 rfl rfl rfl rfl (attrAt_sat (by omega)) ?_
  rintro _ _ ⟨rfl, rfl⟩
  refine ⟨rfl, rfl, .inl rfl, ?_⟩
  refine vd_stM ?_
  refine vd_light 10 rfl rfl rfl (by kernel_rfl) (by kernel_rfl) (by kernel_rfl) (wnt_none rfl) (lt_assign_pv rfl) ?_
  refine vd_nil (by kernel_rfl) ?_
  refine hK7 _ ?_
  refine vc_seq fun K8 hK8 => ?_
  refine vc_region ?_
  refine vo_move_pv rfl rfl ?_
  refine vo_binI rfl rfl rfl rfl trivial ?_
  refine vo_nil ?_
  refine hK8 _ ?_
  refine vc_cond rfl (fun hc2 => ?_) (fun hc2 => ?_)
  ·try simp only [zq0, zq1, zq2, zq3, zq4, zq5, zq6, zq7, zq8, zq9, zqa, zqb, zqc, zqd, zqe, zqf] at hc2
   have hlt := findA_lt hc2
   refine vc_seq fun K9 hK9 => ?_
   refine vc_drawLD [16] [0, 1, 2, 3, 4, 5, 6, 7, 8, 9, 10, 11, 12, 13, 14, 15, 16] [0, 1, 2, 3, 15, 4, 5, 6, 7, 8, 9, 10, 11, 12, 13, 14, 16] (by kernel_rfl) (by kernel_rfl) (by kernel_rfl) (by kernel_rfl) ?_
   change VL [16] _ _ _ 17 _ _ _
   refine vl_light 0 [1, 4, 5, 6, 7, 8, 9, 10, 11, 12, 13, 14] rfl rfl rfl (by kernel_rfl) (by kernel_rfl) (by kernel_rfl) (by kernel_rfl) (by kernel_rfl) (wnt_none rfl) (lt_move_pv rfl) ?_
   refine vl_light 1 [0, 4, 5, 6, 7, 8, 9, 10, 11, 12, 13, 14] rfl rfl rfl (by kernel_rfl) (by kernel_rfl) (by kernel_rfl) (by kernel_rfl) (by kernel_rfl) (wnt_none rfl) (lt_move_pv rfl) ?_
   refine vl_light 2 [0, 1, 4, 5, 6, 7, 8, 9, 10, 11, 12, 13, 14] rfl rfl rfl (by kernel_rfl) (by kernel_rfl) (by kernel_rfl) (by kernel_rfl) (by kernel_rfl) (wnt_none rfl) (lt_index_pv (.int .i64 0) rfl rfl E34.und inf3 sz3 sd sd) ?_
   simp only [Int.toNat_natCast, Int.toNat_zero, getD_ints, getD_intss, getD_bools, getD_bytes, PV.cells, getD_ops, getD_pairs, getD_insts, getD_attrs, getD_attrss, getD_objs, getD_ordP]
   refine vl_light 3 [0, 1, 2, 4, 5, 6, 7, 8, 9, 10, 11, 12, 13, 14] rfl rfl rfl (by kernel_rfl) (by kernel_rfl) (by kernel_rfl) (by kernel_rfl) (by kernel_rfl) (wnt_none rfl) (lt_load_adr rfl Try.underlying3 rfl) ?_
   refine vl_light 4 [0, 1, 2, 3, 6, 7, 8, 9, 12, 15] rfl rfl rfl (by kernel_rfl) (by kernel_rfl) (by kernel_rfl) (by kernel_rfl) (by kernel_rfl) (wnt_none rfl) (lt_fieldAddr_ptr rfl Try.underlying27 rfl inf24 (by rw [sz24]; decide)) ?_
   try simp only [Nat.zero_add]
   refine vl_light 5 [0, 1, 2, 3, 4, 6, 7, 8, 9, 12, 15] rfl rfl rfl (by kernel_rfl) (by kernel_rfl) (by kernel_rfl) (by kernel_rfl) (by kernel_rfl) (wnt_none rfl) (lt_load_var rfl rfl Try.underlying24 rfl rfl) ?_
   refine vl_light 6 [0, 1, 2, 3, 4, 5, 7, 12, 15] rfl rfl rfl (by kernel_rfl) (by kernel_rfl) (by kernel_rfl) (by kernel_rfl) (by kernel_rfl) (wnt_none rfl) (lt_move_pv rfl) ?_
   refine vl_light 7 [0, 1, 2, 3, 4, 5, 6, 12, 15] rfl rfl rfl (by kernel_rfl) (by kernel_rfl) (by kernel_rfl) (by kernel_rfl) (by kernel_rfl) (wnt_none rfl) (lt_move_pv rfl) ?_
   refine vl_light 8 [0, 1, 2, 3, 4, 5, 6, 7, 12, 15] rfl rfl rfl (by kernel_rfl) (by kernel_rfl) (by kernel_rfl) (by kernel_rfl) (by kernel_rfl) (wnt_none rfl) (lt_index_pv (.int .i64 0) rfl rfl E34.und inf3 sz3 sd sd) ?_
   simp only [Int.toNat_natCast, Int.toNat_zero, getD_ints, getD_intss, getD_bools, getD_bytes, PV.cells, getD_ops, getD_pairs, getD_insts, getD_attrs, getD_attrss, getD_objs, getD_ordP]
   refine vl_light 9 [0, 1, 2, 3, 4, 5, 6, 7, 8, 12, 15] rfl rfl rfl (by kernel_rfl) (by kernel_rfl) (by kernel_rfl) (by kernel_rfl) (by kernel_rfl) (wnt_none rfl) (lt_load_adr rfl Try.underlying3 rfl) ?_
   refine vl_light 10 [0, 1, 2, 3, 4, 5, 6, 7, 8, 9, 12, 15] rfl rfl rfl (by kernel_rfl) (by kernel_rfl) (by kernel_rfl) (by kernel_rfl) (by kernel_rfl) (wnt_none rfl) (lt_index_pv (.sl none 3 []) rfl rfl E24.und inf52 sz52 sd sd) ?_
   simp only [Int.toNat_natCast, Int.toNat_zero, getD_ints, getD_intss, getD_bools, getD_bytes, PV.cells, getD_ops, getD_pairs, getD_insts, getD_attrs, getD_attrss, getD_objs, getD_ordP]
   refine vl_light 11 [0, 1, 2, 3, 4, 5, 6, 7, 8, 9, 10, 12, 15] rfl rfl rfl (by kernel_rfl) (by kernel_rfl) (by kernel_rfl) (by kernel_rfl) (by kernel_rfl) (wnt_none rfl) (lt_load_adr rfl Try.underlying52 rfl) ?_
   refine vl_light 12 [0, 1, 2, 3, 4, 5, 6, 7, 8, 9, 10, 11, 15] rfl rfl rfl (by kernel_rfl) (by kernel_rfl) (by kernel_rfl) (by kernel_rfl) (by kernel_rfl) (wnt_none rfl) (lt_move_pv rfl) ?_
   refine vl_light 13 [0, 1, 2, 3, 4, 5, 6, 7, 8, 9, 10, 11, 12, 15] rfl rfl rfl (by kernel_rfl) (by kernel_rfl) (by kernel_rfl) (by kernel_rfl) (by kernel_rfl) (wnt_none rfl) (lt_index_pv (.agg [(.int .i64 0), (.int .i64 0), (.int .i64 0)]) rfl rfl E52.und inf31 sz31 sd sd) ?_
   simp only [Int.toNat_natCast, Int.toNat_zero, getD_ints, getD_intss, getD_bools, getD_bytes, PV.cells, getD_ops, getD_pairs, getD_insts, getD_attrs, getD_attrss, getD_objs, getD_ordP]
   refine vl_light 14 [0, 1, 2, 3, 4, 5, 6, 7, 8, 9, 10, 11, 12, 13, 15] rfl rfl rfl (by kernel_rfl) (by kernel_rfl) (by kernel_rfl) (by kernel_rfl) (by kernel_rfl) (wnt_none rfl) (lt_load_adrS rfl Try.underlying31 rfl inf31 sz31 rfl) ?_
   refine vl_st (by (try simp only [St.put, PV.cells, PV.scal, List.drop_succ_cons, List.drop_zero, List.take_succ_cons, List.take_zero, List.map_cons, List.map_nil, Bool.or_true, Bool.or_false, Bool.false_or, Bool.true_or, opP, pairP, instP, heapP]); exact eq_refl _) ?_
   refine vl_light 15 [0, 1, 2, 3, 4, 5, 6, 7, 8, 9, 10, 11, 12, 13, 14] rfl rfl rfl (by kernel_rfl) (by kernel_rfl) (by kernel_rfl) (by kernel_rfl) (by kernel_rfl) (wnt_none rfl) (lt_assign_pv rfl) ?_
   refine vl_one 16 rfl (by kernel_rfl) rfl ?_
   refine vo_store_varS rfl rfl rfl inf31 sz31 rfl ?_
   refine vo_stM ?_
   refine vo_done ⟨rfl, ?_⟩
   refine vl_nil (by kernel_rfl) ?_
   refine hK9 _ ?_
   refine vc_ret ?_
   change retQ _ _ _ _ _
   refine retQ_sel [] (srows := []) (.inr rfl) hC rfl rfl rfl rfl rfl rfl rfl ?_
   rw [hf, fnd_drop (by omega), if_pos (by omega)]; exact ⟨rfl, rfl⟩
  ·try simp only [zq0, zq1, zq2, zq3, zq4, zq5, zq6, zq7, zq8, zq9, zqa, zqb, zqc, zqd, zqe, zqf] at hc2
   refine vc_skip ?_
   refine hK6 _ ?_
   refine vc_region ?_
   refine vo_move_pv rfl rfl ?_
   refine vo_binI rfl rfl rfl rfl sd ?_
   refine vo_assign_pv rfl rfl ?_
   refine vo_nil ?_
   change againE _ _ _ _ _ _ _ _ _ _
   refine againE_mk rfl rfl rfl rfl rfl rfl ⟨_, ?_, k + 1, rfl, ?_, ?_, rfl, rfl⟩
   ·omega
   ·omega
   ·rw [hf, fnd_drop (by omega), if_neg (by omega)]
 ·try simp only [zq0, zq1, zq2, zq3, zq4, zq5, zq6, zq7, zq8, zq9, zqa, zqb, zqc, zqd, zqe, zqf] at hc1
  refine vc_exit ?_
  refine hK2 _ ?_
  refine vc_seq fun K10 hK10 => ?_
  refine vc_region ?_
  refine vo_build S31 rfl rfl rfl ?_
  refine vo_stM ?_
  refine vo_assign_pv rfl rfl ?_
  refine vo_store_varS rfl rfl rfl inf31 sz31 rfl ?_
  refine vo_stM ?_
  refine vo_nil ?_
  refine hK10 _ ?_
  refine vc_ret ?_
  change retQ _ _ _ _ _
  refine retQ_sel [] (srows := []) (.inr rfl) hC rfl rfl rfl rfl rfl rfl rfl ?_
  rw [hf, show k = order.length by omega, List.drop_length]; exact ⟨rfl, rfl⟩

theorem orderOf_satI {nl0 : Option Bool} {bases : List (List Int)} {c : Int} (hbases : bases.length < 1000000000) (hlbases : ∀ l ∈ bases, l.length < 1000000000) (hv : VB bases) (h0 : 0 ≤ c) (h1 : c < bases.length) : SatAt Try.prog 75 [.pv false (.sl nl0 1 (bases.map ints)), i64 c] [] (fun res rows => ∃ nl, res = [.ref 0] ∧ rows = [Row.own 3 1 nl true ((ordM bases c.toNat).map intP)]) := by
 obtain ⟨n, rfl⟩ := Int.eq_ofNat_of_zero_le h0
 exact orderOf_sat hbases hlbases hv n (by omega)
theorem findFromI_sat {w : WorldM} {nl1 : Option Bool} {order : List Int} {fr name : Int} (h0 : 0 ≤ fr) (hfr : fr ≤ order.length) (hA0 : w.attrs.length ≤ 2000000) (hA : ∀ l ∈ w.attrs, l.length ≤ 2000000) (ho : OrdIn w.attrs.length order) : SatAt Try.prog 77 [.pv false (worldP w), .pv false (.sl nl1 1 (order.map intP)), i64 fr, i64 name] [] (fun res rows => res = [i64 (fnd w.attrs name (order.drop fr.toNat)).1, .pv true (attrP (fnd w.attrs name (order.drop fr.toNat)).2)] ∧ rows = []) := by
 obtain ⟨n, rfl⟩ := Int.eq_ofNat_of_zero_le h0
 exact findFromK_sat (by omega) hA0 hA ho
theorem superM_at {w : WorldM} {x beh name : Int} (h : hasO w x) (h2 : 0 ≤ findM beh (ordM w.bases (w.objs.getD x.toNat ⟨0, []⟩).cls.toNat) 0) : superM w x beh name = bindO (fnd w.attrs name ((ordM w.bases (w.objs.getD x.toNat ⟨0, []⟩).cls.toNat).drop (findM beh (ordM w.bases (w.objs.getD x.toNat ⟨0, []⟩).cls.toNat) 0 + 1).toNat)) x (w.objs.getD x.toNat ⟨0, []⟩).cls := by
  unfold superM rstM; rw [if_pos h, if_pos h2]
theorem superM_no {w : WorldM} {x beh name : Int} (h : hasO w x) (h2 : ¬ 0 ≤ findM beh (ordM w.bases (w.objs.getD x.toNat ⟨0, []⟩).cls.toNat) 0) : superM w x beh name = none0 := by
  unfold superM rstM; rw [if_pos h, if_neg h2]; rfl


theorem specSuperAttr_sat {w : WorldM} {x : Int} {beh : Int} {name : Int}  (hw : SW w) : SatAt Try.prog 35 [.pv false (worldP w), i64 x, i64 beh, i64 name] [] (fun res rows => res = [.pv true (foundP (superM w x beh name))] ∧ rows = []) := by
 have hw0 := hw
 obtain ⟨⟨b1, b2⟩, ⟨a1, a2⟩, o1, o2⟩ := hw
 refine sat_entry_G (rs := [(8, some (37, 4))]) Try.func35 rfl rfl (Nat.le_of_ble_eq_true rfl) (Nat.le_of_ble_eq_true rfl) (resTs1 ⟨_, _, Try.underlying37, rfl, inf37, sz37⟩) fun C hC => ?_
 rw [Try.ntmps35]
 replace hC : C.nb = 0 := hC
 refine vc_seq fun K1 hK1 => ?_
 refine vc_region ?_
 refine vo_box rfl rfl ?_
 refine vo_stM ?_
 refine vo_alloc Z37 rfl ?_
 refine vo_stM ?_
 refine vo_nil ?_
 refine hK1 _ ?_
 refine vc_seq fun K2 hK2 => ?_
 refine vc_region ?_
 refine vo_build S37 rfl rfl rfl ?_
 refine vo_stM ?_
 refine vo_alloc Z37 rfl ?_
 refine vo_stM ?_
 refine vo_store_varS rfl rfl rfl inf37 sz37 rfl ?_
 refine vo_stM ?_
 refine vo_nil ?_
 refine hK2 _ ?_
 refine vc_seq fun K3 hK3 => ?_
 refine vc_seq fun K4 hK4 => ?_
 refine vc_region ?_
 refine vo_load_varS rfl rfl rfl Try.underlying27 rfl inf27 sz27 rfl rfl ?_
 refine vo_move_pv rfl rfl ?_
 refine vo_call0 Try.func58 rfl rfl rfl rfl (validObject_sat hw0) ?_
 rintro _ _ ⟨rfl, rfl⟩
 refine ⟨rfl, rfl, .inl rfl, ?_⟩
 refine vo_stM ?_
 refine vo_not rfl rfl ?_
 refine vo_nil ?_
 refine hK4 _ ?_
 refine vc_cond rfl (fun hc1 => ?_) (fun hc1 => ?_)
 ·try simp only [zq0, zq1, zq2, zq3, zq4, zq5, zq6, zq7, zq8, zq9, zqa, zqb, zqc, zqd, zqe, zqf] at hc1
  refine vc_seq fun K5 hK5 => ?_
  refine vc_region ?_
  refine vo_load_varS rfl rfl rfl Try.underlying37 rfl inf37 sz37 rfl rfl ?_
  refine vo_store_varS rfl rfl rfl inf37 sz37 rfl ?_
  refine vo_stM ?_
  refine vo_nil ?_
  refine hK5 _ ?_
  refine vc_ret ?_
  change retQ _ _ _ _ _
  refine retQ_sel [] (srows := []) (.inr rfl) hC rfl rfl rfl rfl rfl rfl rfl ?_
  first
   | (refine ⟨fr_eq (?_ : FoundM.mk _ _ _ _ = _), rfl⟩; unfold superM; rw [if_neg (by assumption)]; rfl)
   | (refine ⟨fr_eq (?_ : FoundM.mk _ _ _ _ = _), rfl⟩; rw [superM_no hc1 (by omega)]; rfl)
   | (refine ⟨fr_eq (?_ : FoundM.mk _ _ _ _ = _), rfl⟩; rw [superM_at hc1 (by omega)]; unfold bindO; rw [if_neg (by omega)]; rfl)
   | (refine ⟨fr_eq (?_ : bindM _ _ _ _ = _), rfl⟩; rw [superM_at hc1 (by omega)]; unfold bindO; rw [if_pos (by omega)])
 ·try simp only [zq0, zq1, zq2, zq3, zq4, zq5, zq6, zq7, zq8, zq9, zqa, zqb, zqc, zqd, zqe, zqf] at hc1
  have hx2 := hc1.2
  have hcl := hasO_cls hc1
  have hxl : x.toNat < w.objs.length := by have := hc1.2; omega
  have hof := getD_all o2 ⟨0, []⟩ SO_zero x.toNat
  unfold SO at hof
  have hnl := nms_lt (n := name) (l := (w.objs.getD x.toNat ⟨0, []⟩).pairs)
  have hoi := ordIn_of hc1.1 hcl.1 hcl.2
  have hol := ordM_len hc1.1.1.1 (show (w.objs.getD x.toNat ⟨0, []⟩).cls.toNat < w.bases.length by omega)
  refine vc_skip ?_
  refine hK3 _ ?_
  refine vc_seq fun K6 hK6 => ?_
  refine vc_draw (by kernel_rfl) ?_
  change VD _ _ _ 10 _ _ _
  refine vd_light 0 rfl rfl rfl (by kernel_rfl) (by kernel_rfl) (by kernel_rfl) (wnt_none rfl) (lt_fieldAddr_ptr rfl Try.underlying27 rfl inf23 (by rw [sz23]; decide)) ?_
  try simp only [Nat.zero_add]
  refine vd_light 1 rfl rfl rfl (by kernel_rfl) (by kernel_rfl) (by kernel_rfl) (wnt_none rfl) (lt_load_var rfl rfl Try.underlying23 rfl rfl) ?_
  refine vd_light 2 rfl rfl rfl (by kernel_rfl) (by kernel_rfl) (by kernel_rfl) (wnt_none rfl) (lt_fieldAddr_ptr rfl Try.underlying27 rfl inf25 (by rw [sz25]; decide)) ?_
  try simp only [Nat.zero_add]
  refine vd_light 3 rfl rfl rfl (by kernel_rfl) (by kernel_rfl) (by kernel_rfl) (wnt_none rfl) (lt_load_var rfl rfl Try.underlying25 rfl rfl) ?_
  refine vd_light 4 rfl rfl rfl (by kernel_rfl) (by kernel_rfl) (by kernel_rfl) (wnt_none rfl) (lt_move_pv rfl) ?_
  refine vd_light 5 rfl rfl rfl (by kernel_rfl) (by kernel_rfl) (by kernel_rfl) (wnt_none rfl) (lt_index_pv (.agg [(.int .i64 0), (.sl none 2 [])]) rfl rfl E25.und inf42 sz42 sd sd) ?_
  simp only [Int.toNat_natCast, Int.toNat_zero, getD_ints, getD_intss, getD_bools, getD_bytes, PV.cells, getD_ops, getD_pairs, getD_insts, getD_attrs, getD_attrss, getD_objs, getD_ordP]
  refine vd_light 6 rfl rfl rfl (by kernel_rfl) (by kernel_rfl) (by kernel_rfl) (wnt_none rfl) (lt_fieldAddr_adr rfl Try.underlying42 rfl inf3 (by rw [sz3]; decide)) ?_
  refine vd_light 7 rfl rfl rfl (by kernel_rfl) (by kernel_rfl) (by kernel_rfl) (wnt_none rfl) (lt_load_adr rfl Try.underlying3 rfl) ?_
  refine vd_callR 8 [] rfl rfl (by kernel_rfl) (wnt_none rfl) Try.func75 rfl rfl rfl rfl (orderOf_satI (by omega) (fun l hl => by have := b2 l hl; omega) hc1.1.1.1 hcl.1 (by omega)) rfl rfl rfl ?_
  rintro _ _ ⟨nlo, rfl, rfl⟩
  refine ⟨Nat.le_of_ble_eq_true rfl, ⟨rfl, rfl, rfl, rfl⟩, .inl rfl, ?_⟩
  refine vd_stM ?_
  refine vd_light 9 rfl rfl rfl (by kernel_rfl) (by kernel_rfl) (by kernel_rfl) (wnt_none rfl) (lt_assign_ref rfl) ?_
  refine vd_nil (by kernel_rfl) ?_
  refine hK6 _ ?_
  refine vc_seq fun K7 hK7 => ?_
  refine vc_region ?_
  refine vo_move_ref rfl rfl ?_
  refine vo_move_pv rfl rfl ?_
  refine vo_call0 Try.func76 rfl rfl rfl rfl (placeIn_sat (list := (ordM w.bases (w.objs.getD x.toNat ⟨0, []⟩).cls.toNat)) (by omega)) ?_
  rintro _ _ ⟨rfl, rfl⟩
  refine ⟨rfl, rfl, .inr rfl, ?_⟩
  refine vo_stM ?_
  refine vo_assign_pv rfl rfl ?_
  refine vo_nil ?_
  refine hK7 _ ?_
  refine vc_seq fun K8 hK8 => ?_
  refine vc_seq fun K9 hK9 => ?_
  refine vc_region ?_
  refine vo_move_pv rfl rfl ?_
  refine vo_binI rfl rfl rfl rfl trivial ?_
  refine vo_nil ?_
  refine hK9 _ ?_
  refine vc_cond rfl (fun hc2 => ?_) (fun hc2 => ?_)
  ·try simp only [zq0, zq1, zq2, zq3, zq4, zq5, zq6, zq7, zq8, zq9, zqa, zqb, zqc, zqd, zqe, zqf] at hc2
   refine vc_seq fun K10 hK10 => ?_
   refine vc_region ?_
   refine vo_load_varS rfl rfl rfl Try.underlying37 rfl inf37 sz37 rfl rfl ?_
   refine vo_store_varS rfl rfl rfl inf37 sz37 rfl ?_
   refine vo_stM ?_
   refine vo_nil ?_
   refine hK10 _ ?_
   refine vc_ret ?_
   change retQ _ _ _ _ _
   refine retQ_sel [] (srows := []) (.inr rfl) hC rfl rfl rfl rfl rfl rfl rfl ?_
   first
    | (refine ⟨fr_eq (?_ : FoundM.mk _ _ _ _ = _), rfl⟩; unfold superM; rw [if_neg (by assumption)]; rfl)
    | (refine ⟨fr_eq (?_ : FoundM.mk _ _ _ _ = _), rfl⟩; rw [superM_no hc1 (by omega)]; rfl)
    | (refine ⟨fr_eq (?_ : FoundM.mk _ _ _ _ = _), rfl⟩; rw [superM_at hc1 (by omega)]; unfold bindO; rw [if_neg (by omega)]; rfl)
    | (refine ⟨fr_eq (?_ : bindM _ _ _ _ = _), rfl⟩; rw [superM_at hc1 (by omega)]; unfold bindO; rw [if_pos (by omega)])
  ·try simp only [zq0, zq1, zq2, zq3, zq4, zq5, zq6, zq7, zq8, zq9, zqa, zqb, zqc, zqd, zqe, zqf] at hc2
   have hlt := findM_ltL (x := beh) (o := (ordM w.bases (w.objs.getD x.toNat ⟨0, []⟩).cls.toNat)) (by omega)
   refine vc_skip ?_
   refine hK8 _ ?_
   refine vc_seq fun K11 hK11 => ?_
   refine vc_region ?_
   refine vo_load_varS rfl rfl rfl Try.underlying27 rfl inf27 sz27 rfl rfl ?_
   refine vo_move_ref rfl rfl ?_
   refine vo_move_pv rfl rfl ?_
   refine vo_binI rfl rfl rfl rfl sd ?_
   refine vo_move_pv rfl rfl ?_
   refine vo_expose 3 (by omega) rfl ?_
   refine vo_stM ?_
   refine vo_weaken 37 rfl ?_
   refine vo_stM ?_
   refine vo_call0 Try.func77 rfl rfl rfl rfl (findFromI_sat (order := (ordM w.bases (w.objs.getD x.toNat ⟨0, []⟩).cls.toNat)) (by omega) (by omega) a1 a2 hoi) ?_
   rintro _ _ ⟨rfl, rfl⟩
   refine ⟨rfl, rfl, .inl rfl, ?_⟩
   refine vo_stM ?_
   refine vo_move rfl ?_
   refine vo_stM ?_
   refine vo_extract rfl rfl rfl ?_
   refine vo_extract rfl rfl rfl ?_
   refine vo_alloc Z31 rfl ?_
   refine vo_stM ?_
   refine vo_assign_pv rfl rfl ?_
   refine vo_store_varS rfl rfl rfl inf31 sz31 rfl ?_
   refine vo_stM ?_
   refine vo_nil ?_
   refine hK11 _ ?_
   refine vc_seq fun K12 hK12 => ?_
   refine vc_seq fun K13 hK13 => ?_
   refine vc_region ?_
   refine vo_move_pv rfl rfl ?_
   refine vo_binI rfl rfl rfl rfl trivial ?_
   refine vo_nil ?_
   refine hK13 _ ?_
   refine vc_cond rfl (fun hc3 => ?_) (fun hc3 => ?_)
   ·try simp only [zq0, zq1, zq2, zq3, zq4, zq5, zq6, zq7, zq8, zq9, zqa, zqb, zqc, zqd, zqe, zqf] at hc3
    refine vc_seq fun K14 hK14 => ?_
    refine vc_region ?_
    refine vo_load_varS rfl rfl rfl Try.underlying37 rfl inf37 sz37 rfl rfl ?_
    refine vo_store_varS rfl rfl rfl inf37 sz37 rfl ?_
    refine vo_stM ?_
    refine vo_nil ?_
    refine hK14 _ ?_
    refine vc_ret ?_
    change retQ _ _ _ _ _
    refine retQ_sel [] (srows := []) (.inr rfl) hC rfl rfl rfl rfl rfl rfl rfl ?_
    first
     | (refine ⟨fr_eq (?_ : FoundM.mk _ _ _ _ = _), rfl⟩; unfold superM; rw [if_neg (by assumption)]; rfl)
     | (refine ⟨fr_eq (?_ : FoundM.mk _ _ _ _ = _), rfl⟩; rw [superM_no hc1 (by omega)]; rfl)
     | (refine ⟨fr_eq (?_ : FoundM.mk _ _ _ _ = _), rfl⟩; rw [superM_at hc1 (by omega)]; unfold bindO; rw [if_neg (by omega)]; rfl)
     | (refine ⟨fr_eq (?_ : bindM _ _ _ _ = _), rfl⟩; rw [superM_at hc1 (by omega)]; unfold bindO; rw [if_pos (by omega)])
   ·try simp only [zq0, zq1, zq2, zq3, zq4, zq5, zq6, zq7, zq8, zq9, zqa, zqb, zqc, zqd, zqe, zqf] at hc3
    refine vc_skip ?_
    refine hK12 _ ?_
    refine vc_seq fun K15 hK15 => ?_
    refine vc_drawL [10] (by kernel_rfl) ?_
    change VL [10] _ _ _ 11 _ _ _
    refine vl_light 0 [1, 2, 3, 4, 5, 6, 7, 8] rfl rfl rfl (by kernel_rfl) (by kernel_rfl) (by kernel_rfl) (by kernel_rfl) (by kernel_rfl) (wnt_none rfl) (lt_move_pv rfl) ?_
    refine vl_light 1 [0, 2, 3, 4, 5, 6, 7, 8] rfl rfl rfl (by kernel_rfl) (by kernel_rfl) (by kernel_rfl) (by kernel_rfl) (by kernel_rfl) (wnt_none rfl) (lt_load_varS rfl rfl Try.underlying31 rfl inf31 sz31 rfl rfl) ?_
    refine vl_light 2 [0, 1, 3, 4, 5, 6, 7, 8] rfl rfl rfl (by kernel_rfl) (by kernel_rfl) (by kernel_rfl) (by kernel_rfl) (by kernel_rfl) (wnt_none rfl) (lt_move_pv rfl) ?_
    refine vl_light 3 [0, 1, 2, 5] rfl rfl rfl (by kernel_rfl) (by kernel_rfl) (by kernel_rfl) (by kernel_rfl) (by kernel_rfl) (wnt_none rfl) (lt_fieldAddr_ptr rfl Try.underlying27 rfl inf25 (by rw [sz25]; decide)) ?_
    try simp only [Nat.zero_add]
    refine vl_light 4 [0, 1, 2, 3, 5] rfl rfl rfl (by kernel_rfl) (by kernel_rfl) (by kernel_rfl) (by kernel_rfl) (by kernel_rfl) (wnt_none rfl) (lt_load_var rfl rfl Try.underlying25 rfl rfl) ?_
    refine vl_light 5 [0, 1, 2, 3, 4] rfl rfl rfl (by kernel_rfl) (by kernel_rfl) (by kernel_rfl) (by kernel_rfl) (by kernel_rfl) (wnt_none rfl) (lt_move_pv rfl) ?_
    refine vl_light 6 [0, 1, 2, 3, 4, 5] rfl rfl rfl (by kernel_rfl) (by kernel_rfl) (by kernel_rfl) (by kernel_rfl) (by kernel_rfl) (wnt_none rfl) (lt_index_pv (.agg [(.int .i64 0), (.sl none 2 [])]) rfl rfl E25.und inf42 sz42 sd sd) ?_
    simp only [Int.toNat_natCast, Int.toNat_zero, getD_ints, getD_intss, getD_bools, getD_bytes, PV.cells, getD_ops, getD_pairs, getD_insts, getD_attrs, getD_attrss, getD_objs, getD_ordP]
    refine vl_light 7 [0, 1, 2, 3, 4, 5, 6] rfl rfl rfl (by kernel_rfl) (by kernel_rfl) (by kernel_rfl) (by kernel_rfl) (by kernel_rfl) (wnt_none rfl) (lt_fieldAddr_adr rfl Try.underlying42 rfl inf3 (by rw [sz3]; decide)) ?_
    refine vl_light 8 [0, 1, 2, 3, 4, 5, 6, 7] rfl rfl rfl (by kernel_rfl) (by kernel_rfl) (by kernel_rfl) (by kernel_rfl) (by kernel_rfl) (wnt_none rfl) (lt_load_adr rfl Try.underlying3 rfl) ?_
    refine vl_callR 9 [] rfl rfl (by kernel_rfl) (wnt_none rfl) Try.func64 rfl rfl rfl rfl bind_sat rfl rfl rfl ?_
    rintro _ _ ⟨rfl, rfl⟩
    refine ⟨Nat.le_of_ble_eq_true rfl, ⟨rfl, rfl, rfl, rfl⟩, .inl rfl, ?_⟩
    refine vl_stM ?_
    refine vl_stM ?_
    refine vl_one 10 rfl (by kernel_rfl) rfl ?_
    refine vo_store_varS rfl rfl rfl inf37 sz37 rfl ?_
    refine vo_stM ?_
    refine vo_done ⟨rfl, ?_⟩
    refine vl_nil (by kernel_rfl) ?_
    refine hK15 _ ?_
    refine vc_ret ?_
    change retQ _ _ _ _ _
    refine retQ_sel [] (srows := []) (.inr rfl) hC rfl rfl rfl rfl rfl rfl rfl ?_
    first
     | (refine ⟨fr_eq (?_ : FoundM.mk _ _ _ _ = _), rfl⟩; unfold superM; rw [if_neg (by assumption)]; rfl)
     | (refine ⟨fr_eq (?_ : FoundM.mk _ _ _ _ = _), rfl⟩; rw [superM_no hc1 (by omega)]; rfl)
     | (refine ⟨fr_eq (?_ : FoundM.mk _ _ _ _ = _), rfl⟩; rw [superM_at hc1 (by omega)]; unfold bindO; rw [if_neg (by omega)]; rfl)
     | (refine ⟨fr_eq (?_ : bindM _ _ _ _ = _), rfl⟩; rw [superM_at hc1 (by omega)]; unfold bindO; rw [if_pos (by omega)])

end Go.Vl

namespace Go.Vl
set_option linter.unusedVariables false
set_option linter.unusedSimpArgs false
open Go.Proofs

theorem Q37 : EqI4 Try.prog 37 := by
  refine ⟨fun x1 x2 x3 x4 y1 y2 y3 y4 w => ?_, by kernel_rfl⟩
  have hS : Try.prog.underlying 37 = some (.struct (Try.prog.fieldsOf 37)) := by kernel_rfl
  have hp : Try.prog.stoodInHeld 37 = false := by kernel_rfl
  have u3 := Try.underlying3
  have a3 := Try.isAgg3
  have z3 := Try.sizeOf3
  rw [show (10000 : Nat) = 9999 + 1 from rfl, run_equalIn_agg w 9999 37 _ _ hS hp]
  simp only [Program.fieldsOf, Try.underlying37]
  go_simp
  by_cases h0 : x1 = y1 <;> by_cases h1 : x2 = y2 <;> by_cases h2 : x3 = y3 <;> by_cases h3 : x4 = y4 <;> simp [h0, h1, h2, h3]

theorem gbt {b : Bool} (h : b = true) : [bo b] = [bo true] := by rw [h]
end Go.Vl

namespace Go.Vl
set_option linter.unusedVariables false
set_option linter.unusedSimpArgs false
open Go.Proofs

end Go.Vl

namespace Go.Vl
set_option linter.unusedVariables false
set_option linter.unusedSimpArgs false
open Go.Proofs

end Go.Vl

namespace Go.Vl
set_option linter.unusedVariables false
set_option linter.unusedSimpArgs false
open Go.Proofs

theorem no_attr {l : List AttrM} {name : Int} {k : Nat} (hk : l.length ≤ k) (h : ∀ j, j < k → (l.getD j ⟨0, 0, 0⟩).name ≠ name) (hk2 : k ≤ l.length) : ¬ 0 ≤ findM name (anms l) 0 := by
  intro h0
  obtain ⟨i, hi, e1, e2, _⟩ := findM_pos_iff (by omega) h0
  have hi2 : i < l.length := by simpa [anms] using hi
  have e3 : (anms l).getD i 0 = (l.getD i ⟨0, 0, 0⟩).name := by simp [anms, hi2]
  exact h i (by omega) (by rw [← e3, e2])
theorem no_pair {l : List (Int × Int)} {name : Int} {k : Nat} (hk : l.length ≤ k) (h : ∀ j, j < k → (l.getD j (0, 0)).1 ≠ name) (hk2 : k ≤ l.length) : ¬ 0 ≤ findM name (nms l) 0 := by
  intro h0
  obtain ⟨i, hi, e1, e2, _⟩ := findM_pos_iff (by omega) h0
  have hi2 : i < l.length := by simpa [nms] using hi
  have e3 : (nms l).getD i 0 = (l.getD i (0, 0)).1 := by simp [nms, hi2]
  exact h i (by omega) (by rw [← e3, e2])
theorem super_first {w : WorldM} {x name : Int} (hO : hasO w x) (h1 : ¬ 0 ≤ findM name (anms (w.attrs.getD (w.objs.getD x.toNat ⟨0, []⟩).cls.toNat [])) 0) (h2 : ¬ 0 ≤ findM name (nms (w.objs.getD x.toNat ⟨0, []⟩).pairs) 0) :
    superM w x (w.objs.getD x.toNat ⟨0, []⟩).cls name = getAttrM w x name := by
  have hcl := hasO_cls hO
  have hvb := hO.1.1.1
  have hne := hO.1.1.2 (w.objs.getD x.toNat ⟨0, []⟩).cls.toNat (by omega)
  obtain ⟨t, ht⟩ := ordM_head hne
  rw [getAttrM_yes hO, fndM_obj hO]
  unfold superM
  rw [if_pos hO, ht, Int.toNat_of_nonneg hcl.1]
  have e1 : rstM ((w.objs.getD x.toNat ⟨0, []⟩).cls :: t) (w.objs.getD x.toNat ⟨0, []⟩).cls = t := by
    unfold rstM
    have : findM (w.objs.getD x.toNat ⟨0, []⟩).cls ((w.objs.getD x.toNat ⟨0, []⟩).cls :: t) 0 = 0 := by unfold findM; simp
    rw [this]; rfl
  have e2 : fnd w.attrs name ((w.objs.getD x.toNat ⟨0, []⟩).cls :: t) = fnd w.attrs name t := by rw [fnd, if_neg h1]
  rw [e1, e2]
  unfold bindO getR
  by_cases h3 : 0 ≤ (fnd w.attrs name t).1
  · rw [if_pos h3]
    split
    · rfl
    · rfl
  · rw [if_neg h3, if_neg (fun h => h3 h.1), if_neg h2]

theorem FnSuperAttrFirst_sat {nl : Option Bool} {code : List (Fin 256)} : SatAt Try.prog 10 [.pv false (.sl nl 1 (code.map byteP))] [] (fun res rows => res = [bo true] ∧ rows = []) := by
 refine sat_entry_G (rs := [(2, none)]) Try.func10 rfl rfl (Nat.le_of_ble_eq_true rfl) (Nat.le_of_ble_eq_true rfl) (resTs1 trivial) fun C hC => ?_
 rw [Try.ntmps10]
 replace hC : C.nb = 0 := hC
 refine vc_seq fun K1 hK1 => ?_
 refine vc_region ?_
 refine vo_assign_pv rfl rfl ?_
 refine vo_nil ?_
 refine hK1 _ ?_
 refine vc_seq fun K2 hK2 => ?_
 refine vc_seq fun K3 hK3 => ?_
 refine vc_region ?_
 refine vo_move_pv rfl rfl ?_
 refine vo_len_pv rfl rfl Try.underlying22 ?_
 refine vo_binI rfl rfl rfl rfl trivial ?_
 refine vo_nil ?_
 refine hK3 _ ?_
 refine vc_cond rfl (fun hc1 => ?_) (fun hc1 => ?_)
 ·try simp only [zq0, zq1, zq2, zq3, zq4, zq5, zq6, zq7, zq8, zq9, zqa, zqb, zqc, zqd, zqe, zqf] at hc1
  refine vc_seq fun K4 hK4 => ?_
  refine vc_region ?_
  refine vo_assign_pv rfl rfl ?_
  refine vo_nil ?_
  refine hK4 _ ?_
  refine vc_ret ?_
  change retQ _ _ _ _ _
  refine retQ_sel [] (srows := []) (.inr rfl) hC rfl rfl rfl rfl rfl rfl rfl ?_
  first | exact ⟨rfl, rfl⟩ | (rw [hsf]; refine ⟨gbt ?_, rfl⟩; simp; done) | (exfalso; simp_all; done) | (refine ⟨gbt ?_, rfl⟩; first | simp_all | (simp; omega))
 ·try simp only [zq0, zq1, zq2, zq3, zq4, zq5, zq6, zq7, zq8, zq9, zqa, zqb, zqc, zqd, zqe, zqf] at hc1
  refine vc_skip ?_
  refine hK2 _ ?_
  refine vc_seq fun K5 hK5 => ?_
  refine vc_region ?_
  refine vo_move_pv rfl rfl ?_
  refine vo_call0 Try.func33 rfl rfl rfl rfl (DrawSuperAttr_sat (by omega)) ?_
  rintro _ _ ⟨W, f, z, v, y, hW, rfl, rfl⟩
  refine ⟨rfl, rfl, .inl rfl, ?_⟩
  refine vo_stM ?_
  have hW2 := hW
  obtain ⟨⟨hb1, hb2, hb3⟩, ⟨hb4, hb5⟩, hb6, hb7⟩ := hW2
  refine vo_move rfl ?_
  refine vo_stM ?_
  refine vo_extract rfl rfl rfl ?_
  refine vo_extract rfl rfl rfl ?_
  refine vo_extract rfl rfl rfl ?_
  refine vo_extract rfl rfl rfl ?_
  refine vo_alloc Z27 rfl ?_
  refine vo_stM ?_
  refine vo_store_varS rfl rfl rfl inf27 sz27 rfl ?_
  refine vo_stM ?_
  refine vo_assign_pv rfl rfl ?_
  refine vo_assign_pv rfl rfl ?_
  refine vo_assign_pv rfl rfl ?_
  refine vo_nil ?_
  refine hK5 _ ?_
  refine vc_seq fun K6 hK6 => ?_
  refine vc_region ?_
  refine vo_load_varS rfl rfl rfl Try.underlying27 rfl inf27 sz27 rfl rfl ?_
  refine vo_move_pv rfl rfl ?_
  refine vo_move_pv rfl rfl ?_
  refine vo_move_pv rfl rfl ?_
  refine vo_call0 Try.func34 rfl rfl rfl rfl (implSuperAttr_sat hW.sw) ?_
  rintro _ _ ⟨rfl, rfl⟩
  refine ⟨rfl, rfl, .inl rfl, ?_⟩
  refine vo_stM ?_
  refine vo_alloc Z37 rfl ?_
  refine vo_stM ?_
  refine vo_store_varS rfl rfl rfl inf37 sz37 rfl ?_
  refine vo_stM ?_
  refine vo_nil ?_
  refine hK6 _ ?_
  refine vc_seq fun K7 hK7 => ?_
  refine vc_seq fun K8 hK8 => ?_
  refine vc_draw (by kernel_rfl) ?_
  change VD _ _ _ 23 _ _ _
  refine vd_light 0 rfl rfl rfl (by kernel_rfl) (by kernel_rfl) (by kernel_rfl) (wnt_none rfl) (lt_load_varS rfl rfl Try.underlying37 rfl inf37 sz37 rfl rfl) ?_
  refine vd_light 1 rfl rfl rfl (by kernel_rfl) (by kernel_rfl) (by kernel_rfl) (wnt_none rfl) (lt_load_varS rfl rfl Try.underlying27 rfl inf27 sz27 rfl rfl) ?_
  refine vd_light 2 rfl rfl rfl (by kernel_rfl) (by kernel_rfl) (by kernel_rfl) (wnt_none rfl) (lt_move_pv rfl) ?_
  refine vd_light 3 rfl rfl rfl (by kernel_rfl) (by kernel_rfl) (by kernel_rfl) (wnt_none rfl) (lt_move_pv rfl) ?_
  refine vd_light 4 rfl rfl rfl (by kernel_rfl) (by kernel_rfl) (by kernel_rfl) (wnt_none rfl) (lt_move_pv rfl) ?_
  refine vd_call 5 rfl (by kernel_rfl) (wnt_none rfl) Try.func35 rfl rfl rfl rfl (specSuperAttr_sat hW.sw) ?_
  rintro _ _ ⟨rfl, rfl⟩
  refine ⟨rfl, rfl, .inl rfl, ?_⟩
  refine vd_stM ?_
  refine vd_light 6 rfl rfl rfl (by kernel_rfl) (by kernel_rfl) (by kernel_rfl) (wnt_none rfl) (lt_neqS4 Q37 rfl rfl) ?_
  refine vd_light 7 rfl rfl rfl (by kernel_rfl) (by kernel_rfl) (by kernel_rfl) (wnt_none rfl) (lt_move_pv rfl) ?_
  refine vd_split 33 rfl (fun hg2 => ?_) (fun hg2 => ?_)
  ·try simp only [zq0, zq1, zq2, zq3, zq4, zq5, zq6, zq7, zq8, zq9, zqa, zqb, zqc, zqd, zqe, zqf] at hg2
   refine vd_skip 8 rfl rfl rfl (by kernel_rfl) (by kernel_rfl) (by kernel_rfl) (wnt_off rfl rfl rfl rfl rfl) ?_
   refine vd_skip 9 rfl rfl rfl (by kernel_rfl) (by kernel_rfl) (by kernel_rfl) (wnt_off rfl rfl rfl rfl rfl) ?_
   refine vd_skip 10 rfl rfl rfl (by kernel_rfl) (by kernel_rfl) (by kernel_rfl) (wnt_off rfl rfl rfl rfl rfl) ?_
   refine vd_light 11 rfl rfl rfl (by kernel_rfl) (by kernel_rfl) (by kernel_rfl) (wnt_none rfl) (lt_pick_t rfl) ?_
   refine vd_light 12 rfl rfl rfl (by kernel_rfl) (by kernel_rfl) (by kernel_rfl) (wnt_none rfl) (lt_move_pv rfl) ?_
   refine vd_skip 13 rfl rfl rfl (by kernel_rfl) (by kernel_rfl) (by kernel_rfl) (wnt_off rfl rfl rfl rfl rfl) ?_
   refine vd_skip 14 rfl rfl rfl (by kernel_rfl) (by kernel_rfl) (by kernel_rfl) (wnt_off rfl rfl rfl rfl rfl) ?_
   refine vd_light 15 rfl rfl rfl (by kernel_rfl) (by kernel_rfl) (by kernel_rfl) (wnt_none rfl) (lt_pick_t rfl) ?_
   refine vd_light 16 rfl rfl rfl (by kernel_rfl) (by kernel_rfl) (by kernel_rfl) (wnt_none rfl) (lt_move_pv rfl) ?_
   refine vd_skip 17 rfl rfl rfl (by kernel_rfl) (by kernel_rfl) (by kernel_rfl) (wnt_off rfl rfl rfl rfl rfl) ?_
   refine vd_skip 18 rfl rfl rfl (by kernel_rfl) (by kernel_rfl) (by kernel_rfl) (wnt_off rfl rfl rfl rfl rfl) ?_
   refine vd_skip 19 rfl rfl rfl (by kernel_rfl) (by kernel_rfl) (by kernel_rfl) (wnt_off rfl rfl rfl rfl rfl) ?_
   refine vd_skip 20 rfl rfl rfl (by kernel_rfl) (by kernel_rfl) (by kernel_rfl) (wnt_off rfl rfl rfl rfl rfl) ?_
   refine vd_skip 21 rfl rfl rfl (by kernel_rfl) (by kernel_rfl) (by kernel_rfl) (wnt_off rfl rfl rfl rfl rfl) ?_
   refine vd_light 22 rfl rfl rfl (by kernel_rfl) (by kernel_rfl) (by kernel_rfl) (wnt_none rfl) (lt_pick_t rfl) ?_
   refine vd_nil (by kernel_rfl) ?_
   refine hK8 _ ?_
   refine vc_cond_t rfl ?_
   refine vc_seq fun K9 hK9 => ?_
   refine vc_draw (by kernel_rfl) ?_
   change VD _ _ _ 8 _ _ _
   refine vd_light 0 rfl rfl rfl (by kernel_rfl) (by kernel_rfl) (by kernel_rfl) (wnt_none rfl) (lt_load_varS rfl rfl Try.underlying37 rfl inf37 sz37 rfl rfl) ?_
   refine vd_light 1 rfl rfl rfl (by kernel_rfl) (by kernel_rfl) (by kernel_rfl) (wnt_none rfl) (lt_load_varS rfl rfl Try.underlying27 rfl inf27 sz27 rfl rfl) ?_
   refine vd_light 2 rfl rfl rfl (by kernel_rfl) (by kernel_rfl) (by kernel_rfl) (wnt_none rfl) (lt_move_pv rfl) ?_
   refine vd_light 3 rfl rfl rfl (by kernel_rfl) (by kernel_rfl) (by kernel_rfl) (wnt_none rfl) (lt_move_pv rfl) ?_
   refine vd_light 4 rfl rfl rfl (by kernel_rfl) (by kernel_rfl) (by kernel_rfl) (wnt_none rfl) (lt_move_pv rfl) ?_
   refine vd_call 5 rfl (by kernel_rfl) (wnt_none rfl) Try.func35 rfl rfl rfl rfl (specSuperAttr_sat hW.sw) ?_
   rintro _ _ ⟨rfl, rfl⟩
   refine ⟨rfl, rfl, .inl rfl, ?_⟩
   refine vd_stM ?_
   refine vd_light 6 rfl rfl rfl (by kernel_rfl) (by kernel_rfl) (by kernel_rfl) (wnt_none rfl) (lt_eqS4 Q37 rfl rfl) ?_
   refine vd_light 7 rfl rfl rfl (by kernel_rfl) (by kernel_rfl) (by kernel_rfl) (wnt_none rfl) (lt_assign_pv rfl) ?_
   refine vd_nil (by kernel_rfl) ?_
   refine hK9 _ ?_
   refine vc_ret ?_
   change retQ _ _ _ _ _
   refine retQ_sel [] (srows := []) (.inr rfl) hC rfl rfl rfl rfl rfl rfl rfl ?_
   first | exact ⟨rfl, rfl⟩ | (rw [hsf]; refine ⟨gbt ?_, rfl⟩; simp; done) | (exfalso; simp_all; done) | (refine ⟨gbt ?_, rfl⟩; first | simp_all | (simp; omega))
  ·try simp only [zq0, zq1, zq2, zq3, zq4, zq5, zq6, zq7, zq8, zq9, zqa, zqb, zqc, zqd, zqe, zqf] at hg2
   refine vd_light 8 rfl rfl rfl (by kernel_rfl) (by kernel_rfl) (by kernel_rfl) (wnt_on rfl rfl rfl rfl) (lt_load_varS rfl rfl Try.underlying27 rfl inf27 sz27 rfl rfl) ?_
   refine vd_call 9 rfl (by kernel_rfl) (wnt_on rfl rfl rfl rfl) Try.func19 rfl rfl rfl rfl (implValidWorld_sat hW.sw) ?_
   rintro _ _ ⟨rfl, rfl⟩
   refine ⟨rfl, rfl, .inl rfl, ?_⟩
   refine vd_stM ?_
   refine vd_light 10 rfl rfl rfl (by kernel_rfl) (by kernel_rfl) (by kernel_rfl) (wnt_on rfl rfl rfl rfl) (lt_not rfl) ?_
   refine vd_light 11 rfl rfl rfl (by kernel_rfl) (by kernel_rfl) (by kernel_rfl) (wnt_none rfl) (lt_pick_f rfl) ?_
   refine vd_light 12 rfl rfl rfl (by kernel_rfl) (by kernel_rfl) (by kernel_rfl) (wnt_none rfl) (lt_move_pv rfl) ?_
   refine vd_split 38 rfl (fun hg3 => ?_) (fun hg3 => ?_)
   ·try simp only [zq0, zq1, zq2, zq3, zq4, zq5, zq6, zq7, zq8, zq9, zqa, zqb, zqc, zqd, zqe, zqf] at hg3
    refine vd_skip 13 rfl rfl rfl (by kernel_rfl) (by kernel_rfl) (by kernel_rfl) (wnt_off rfl rfl rfl rfl rfl) ?_
    refine vd_skip 14 rfl rfl rfl (by kernel_rfl) (by kernel_rfl) (by kernel_rfl) (wnt_off rfl rfl rfl rfl rfl) ?_
    refine vd_light 15 rfl rfl rfl (by kernel_rfl) (by kernel_rfl) (by kernel_rfl) (wnt_none rfl) (lt_pick_t rfl) ?_
    refine vd_light 16 rfl rfl rfl (by kernel_rfl) (by kernel_rfl) (by kernel_rfl) (wnt_none rfl) (lt_move_pv rfl) ?_
    refine vd_skip 17 rfl rfl rfl (by kernel_rfl) (by kernel_rfl) (by kernel_rfl) (wnt_off rfl rfl rfl rfl rfl) ?_
    refine vd_skip 18 rfl rfl rfl (by kernel_rfl) (by kernel_rfl) (by kernel_rfl) (wnt_off rfl rfl rfl rfl rfl) ?_
    refine vd_skip 19 rfl rfl rfl (by kernel_rfl) (by kernel_rfl) (by kernel_rfl) (wnt_off rfl rfl rfl rfl rfl) ?_
    refine vd_skip 20 rfl rfl rfl (by kernel_rfl) (by kernel_rfl) (by kernel_rfl) (wnt_off rfl rfl rfl rfl rfl) ?_
    refine vd_skip 21 rfl rfl rfl (by kernel_rfl) (by kernel_rfl) (by kernel_rfl) (wnt_off rfl rfl rfl rfl rfl) ?_
    refine vd_light 22 rfl rfl rfl (by kernel_rfl) (by kernel_rfl) (by kernel_rfl) (wnt_none rfl) (lt_pick_t rfl) ?_
    refine vd_nil (by kernel_rfl) ?_
    refine hK8 _ ?_
    refine vc_cond_t rfl ?_
    refine vc_seq fun K10 hK10 => ?_
    refine vc_draw (by kernel_rfl) ?_
    change VD _ _ _ 8 _ _ _
    refine vd_light 0 rfl rfl rfl (by kernel_rfl) (by kernel_rfl) (by kernel_rfl) (wnt_none rfl) (lt_load_varS rfl rfl Try.underlying37 rfl inf37 sz37 rfl rfl) ?_
    refine vd_light 1 rfl rfl rfl (by kernel_rfl) (by kernel_rfl) (by kernel_rfl) (wnt_none rfl) (lt_load_varS rfl rfl Try.underlying27 rfl inf27 sz27 rfl rfl) ?_
    refine vd_light 2 rfl rfl rfl (by kernel_rfl) (by kernel_rfl) (by kernel_rfl) (wnt_none rfl) (lt_move_pv rfl) ?_
    refine vd_light 3 rfl rfl rfl (by kernel_rfl) (by kernel_rfl) (by kernel_rfl) (wnt_none rfl) (lt_move_pv rfl) ?_
    refine vd_light 4 rfl rfl rfl (by kernel_rfl) (by kernel_rfl) (by kernel_rfl) (wnt_none rfl) (lt_move_pv rfl) ?_
    refine vd_call 5 rfl (by kernel_rfl) (wnt_none rfl) Try.func35 rfl rfl rfl rfl (specSuperAttr_sat hW.sw) ?_
    rintro _ _ ⟨rfl, rfl⟩
    refine ⟨rfl, rfl, .inl rfl, ?_⟩
    refine vd_stM ?_
    refine vd_light 6 rfl rfl rfl (by kernel_rfl) (by kernel_rfl) (by kernel_rfl) (wnt_none rfl) (lt_eqS4 Q37 rfl rfl) ?_
    refine vd_light 7 rfl rfl rfl (by kernel_rfl) (by kernel_rfl) (by kernel_rfl) (wnt_none rfl) (lt_assign_pv rfl) ?_
    refine vd_nil (by kernel_rfl) ?_
    refine hK10 _ ?_
    refine vc_ret ?_
    change retQ _ _ _ _ _
    refine retQ_sel [] (srows := []) (.inr rfl) hC rfl rfl rfl rfl rfl rfl rfl ?_
    first | exact ⟨rfl, rfl⟩ | (rw [hsf]; refine ⟨gbt ?_, rfl⟩; simp; done) | (exfalso; simp_all; done) | (refine ⟨gbt ?_, rfl⟩; first | simp_all | (simp; omega))
   ·try simp only [zq0, zq1, zq2, zq3, zq4, zq5, zq6, zq7, zq8, zq9, zqa, zqb, zqc, zqd, zqe, zqf] at hg3
    refine vd_light 13 rfl rfl rfl (by kernel_rfl) (by kernel_rfl) (by kernel_rfl) (wnt_on rfl rfl rfl rfl) (lt_move_pv rfl) ?_
    refine vd_light 14 rfl rfl rfl (by kernel_rfl) (by kernel_rfl) (by kernel_rfl) (wnt_on rfl rfl rfl rfl) (lt_binI rfl rfl rfl trivial) ?_
    refine vd_light 15 rfl rfl rfl (by kernel_rfl) (by kernel_rfl) (by kernel_rfl) (wnt_none rfl) (lt_pick_f rfl) ?_
    refine vd_light 16 rfl rfl rfl (by kernel_rfl) (by kernel_rfl) (by kernel_rfl) (wnt_none rfl) (lt_move_pv rfl) ?_
    refine vd_split 42 rfl (fun hg4 => ?_) (fun hg4 => ?_)
    ·try simp only [zq0, zq1, zq2, zq3, zq4, zq5, zq6, zq7, zq8, zq9, zqa, zqb, zqc, zqd, zqe, zqf] at hg4
     refine vd_skip 17 rfl rfl rfl (by kernel_rfl) (by kernel_rfl) (by kernel_rfl) (wnt_off rfl rfl rfl rfl rfl) ?_
     refine vd_skip 18 rfl rfl rfl (by kernel_rfl) (by kernel_rfl) (by kernel_rfl) (wnt_off rfl rfl rfl rfl rfl) ?_
     refine vd_skip 19 rfl rfl rfl (by kernel_rfl) (by kernel_rfl) (by kernel_rfl) (wnt_off rfl rfl rfl rfl rfl) ?_
     refine vd_skip 20 rfl rfl rfl (by kernel_rfl) (by kernel_rfl) (by kernel_rfl) (wnt_off rfl rfl rfl rfl rfl) ?_
     refine vd_skip 21 rfl rfl rfl (by kernel_rfl) (by kernel_rfl) (by kernel_rfl) (wnt_off rfl rfl rfl rfl rfl) ?_
     refine vd_light 22 rfl rfl rfl (by kernel_rfl) (by kernel_rfl) (by kernel_rfl) (wnt_none rfl) (lt_pick_t rfl) ?_
     refine vd_nil (by kernel_rfl) ?_
     refine hK8 _ ?_
     refine vc_cond_t rfl ?_
     refine vc_seq fun K11 hK11 => ?_
     refine vc_draw (by kernel_rfl) ?_
     change VD _ _ _ 8 _ _ _
     refine vd_light 0 rfl rfl rfl (by kernel_rfl) (by kernel_rfl) (by kernel_rfl) (wnt_none rfl) (lt_load_varS rfl rfl Try.underlying37 rfl inf37 sz37 rfl rfl) ?_
     refine vd_light 1 rfl rfl rfl (by kernel_rfl) (by kernel_rfl) (by kernel_rfl) (wnt_none rfl) (lt_load_varS rfl rfl Try.underlying27 rfl inf27 sz27 rfl rfl) ?_
     refine vd_light 2 rfl rfl rfl (by kernel_rfl) (by kernel_rfl) (by kernel_rfl) (wnt_none rfl) (lt_move_pv rfl) ?_
     refine vd_light 3 rfl rfl rfl (by kernel_rfl) (by kernel_rfl) (by kernel_rfl) (wnt_none rfl) (lt_move_pv rfl) ?_
     refine vd_light 4 rfl rfl rfl (by kernel_rfl) (by kernel_rfl) (by kernel_rfl) (wnt_none rfl) (lt_move_pv rfl) ?_
     refine vd_call 5 rfl (by kernel_rfl) (wnt_none rfl) Try.func35 rfl rfl rfl rfl (specSuperAttr_sat hW.sw) ?_
     rintro _ _ ⟨rfl, rfl⟩
     refine ⟨rfl, rfl, .inl rfl, ?_⟩
     refine vd_stM ?_
     refine vd_light 6 rfl rfl rfl (by kernel_rfl) (by kernel_rfl) (by kernel_rfl) (wnt_none rfl) (lt_eqS4 Q37 rfl rfl) ?_
     refine vd_light 7 rfl rfl rfl (by kernel_rfl) (by kernel_rfl) (by kernel_rfl) (wnt_none rfl) (lt_assign_pv rfl) ?_
     refine vd_nil (by kernel_rfl) ?_
     refine hK11 _ ?_
     refine vc_ret ?_
     change retQ _ _ _ _ _
     refine retQ_sel [] (srows := []) (.inr rfl) hC rfl rfl rfl rfl rfl rfl rfl ?_
     first | exact ⟨rfl, rfl⟩ | (rw [hsf]; refine ⟨gbt ?_, rfl⟩; simp; done) | (exfalso; simp_all; done) | (refine ⟨gbt ?_, rfl⟩; first | simp_all | (simp; omega))
    ·try simp only [zq0, zq1, zq2, zq3, zq4, zq5, zq6, zq7, zq8, zq9, zqa, zqb, zqc, zqd, zqe, zqf] at hg4
     refine vd_light 17 rfl rfl rfl (by kernel_rfl) (by kernel_rfl) (by kernel_rfl) (wnt_on rfl rfl rfl rfl) (lt_move_pv rfl) ?_
     refine vd_light 18 rfl rfl rfl (by kernel_rfl) (by kernel_rfl) (by kernel_rfl) (wnt_on rfl rfl rfl rfl) (lt_fieldAddr_ptr rfl Try.underlying27 rfl inf25 (by rw [sz25]; decide)) ?_
     try simp only [Nat.zero_add]
     refine vd_light 19 rfl rfl rfl (by kernel_rfl) (by kernel_rfl) (by kernel_rfl) (wnt_on rfl rfl rfl rfl) (lt_load_var rfl rfl Try.underlying25 rfl rfl) ?_
     refine vd_light 20 rfl rfl rfl (by kernel_rfl) (by kernel_rfl) (by kernel_rfl) (wnt_on rfl rfl rfl rfl) (lt_len_pv rfl Try.underlying25) ?_
     refine vd_light 21 rfl rfl rfl (by kernel_rfl) (by kernel_rfl) (by kernel_rfl) (wnt_on rfl rfl rfl rfl) (lt_binI rfl rfl rfl trivial) ?_
     refine vd_light 22 rfl rfl rfl (by kernel_rfl) (by kernel_rfl) (by kernel_rfl) (wnt_none rfl) (lt_pick_f rfl) ?_
     refine vd_nil (by kernel_rfl) ?_
     refine hK8 _ ?_
     refine vc_cond rfl (fun hc5 => ?_) (fun hc5 => ?_)
     ·try simp only [zq0, zq1, zq2, zq3, zq4, zq5, zq6, zq7, zq8, zq9, zqa, zqb, zqc, zqd, zqe, zqf] at hc5
      refine vc_seq fun K12 hK12 => ?_
      refine vc_draw (by kernel_rfl) ?_
      change VD _ _ _ 8 _ _ _
      refine vd_light 0 rfl rfl rfl (by kernel_rfl) (by kernel_rfl) (by kernel_rfl) (wnt_none rfl) (lt_load_varS rfl rfl Try.underlying37 rfl inf37 sz37 rfl rfl) ?_
      refine vd_light 1 rfl rfl rfl (by kernel_rfl) (by kernel_rfl) (by kernel_rfl) (wnt_none rfl) (lt_load_varS rfl rfl Try.underlying27 rfl inf27 sz27 rfl rfl) ?_
      refine vd_light 2 rfl rfl rfl (by kernel_rfl) (by kernel_rfl) (by kernel_rfl) (wnt_none rfl) (lt_move_pv rfl) ?_
      refine vd_light 3 rfl rfl rfl (by kernel_rfl) (by kernel_rfl) (by kernel_rfl) (wnt_none rfl) (lt_move_pv rfl) ?_
      refine vd_light 4 rfl rfl rfl (by kernel_rfl) (by kernel_rfl) (by kernel_rfl) (wnt_none rfl) (lt_move_pv rfl) ?_
      refine vd_call 5 rfl (by kernel_rfl) (wnt_none rfl) Try.func35 rfl rfl rfl rfl (specSuperAttr_sat hW.sw) ?_
      rintro _ _ ⟨rfl, rfl⟩
      refine ⟨rfl, rfl, .inl rfl, ?_⟩
      refine vd_stM ?_
      refine vd_light 6 rfl rfl rfl (by kernel_rfl) (by kernel_rfl) (by kernel_rfl) (wnt_none rfl) (lt_eqS4 Q37 rfl rfl) ?_
      refine vd_light 7 rfl rfl rfl (by kernel_rfl) (by kernel_rfl) (by kernel_rfl) (wnt_none rfl) (lt_assign_pv rfl) ?_
      refine vd_nil (by kernel_rfl) ?_
      refine hK12 _ ?_
      refine vc_ret ?_
      change retQ _ _ _ _ _
      refine retQ_sel [] (srows := []) (.inr rfl) hC rfl rfl rfl rfl rfl rfl rfl ?_
      first | exact ⟨rfl, rfl⟩ | (rw [hsf]; refine ⟨gbt ?_, rfl⟩; simp; done) | (exfalso; simp_all; done) | (refine ⟨gbt ?_, rfl⟩; first | simp_all | (simp; omega))
     ·try simp only [zq0, zq1, zq2, zq3, zq4, zq5, zq6, zq7, zq8, zq9, zqa, zqb, zqc, zqd, zqe, zqf] at hc5
      have hO : hasO W z := ⟨by assumption, by omega, by omega⟩
      have hcl := hasO_cls hO
      have hla := hO.1.2.1
      have hP3 : (W.objs.getD z.toNat ⟨0, []⟩).pairs.length ≤ 3 := hb7 _ (getD_mem (by omega) _)
      have hA4 : (W.attrs.getD (W.objs.getD z.toNat ⟨0, []⟩).cls.toNat []).length ≤ 4 := hb5 _ (getD_mem (by omega) _)
      refine vc_skip ?_
      refine hK7 _ ?_
      refine vc_seq fun K13 hK13 => ?_
      refine vc_region ?_
      refine vo_fieldAddr_ptr rfl rfl Try.underlying27 rfl inf25 (by rw [sz25]; decide) ?_
      try simp only [Nat.zero_add]
      refine vo_load_var rfl rfl rfl Try.underlying25 rfl rfl ?_
      refine vo_move_pv rfl rfl ?_
      refine vo_index_pv (.agg [(.int .i64 0), (.sl none 2 [])]) rfl rfl rfl E25.und inf42 sz42 sd sd ?_
      simp only [Int.toNat_natCast, Int.toNat_zero, getD_ints, getD_intss, getD_bools, getD_bytes, PV.cells, getD_ops, getD_pairs, getD_insts, getD_attrs, getD_attrss, getD_objs, getD_ordP]
      refine vo_fieldAddr_adr rfl rfl Try.underlying42 rfl inf3 (by rw [sz3]; decide) ?_
      refine vo_load_adr rfl rfl Try.underlying3 rfl ?_
      simp only [PV.scal, Bool.or_true]
      refine vo_stM ?_
      refine vo_assign_pv rfl rfl ?_
      refine vo_nil ?_
      refine hK13 _ ?_
      refine vc_seq fun K14 hK14 => ?_
      refine vc_seq fun K15 hK15 => ?_
      refine vc_region ?_
      refine vo_assign_pv rfl rfl ?_
      refine vo_nil ?_
      refine hK15 _ ?_
      refine vc_block ?_
      refine vc_stM ?_
      refine vc_loopE [3, 4, 6, 8] [9] [] _ _ (fun mz vs rs => ∃ (k : Nat), mz = (W.attrs.getD (W.objs.getD z.toNat ⟨0, []⟩).cls.toNat []).length - k ∧ (k ≤ (W.attrs.getD (W.objs.getD z.toNat ⟨0, []⟩).cls.toNat []).length) ∧ (∀ j, j < k → ((W.attrs.getD (W.objs.getD z.toNat ⟨0, []⟩).cls.toNat []).getD j ⟨0, 0, 0⟩).name ≠ y) ∧ vs = [i64 k] ∧ rs = []) ((W.attrs.getD (W.objs.getD z.toNat ⟨0, []⟩).cls.toNat []).length) rfl rfl (le_len hC rfl) ⟨rfl, rfl, rfl⟩ rfl ⟨0, rfl, Nat.zero_le _, (by intro j hj; omega), rfl, rfl⟩ ?_
      rintro mz vs rs - - ⟨k, rfl, hk, hk1, rfl, rfl⟩
      refine vc_stM ?_
      refine vc_seq fun K16 hK16 => ?_
      refine vc_seq fun K17 hK17 => ?_
      refine vc_region ?_
      refine vo_move_pv rfl rfl ?_
      refine vo_fieldAddr_ptr rfl rfl Try.underlying27 rfl inf24 (by rw [sz24]; decide) ?_
      try simp only [Nat.zero_add]
      refine vo_load_var rfl rfl rfl Try.underlying24 rfl rfl ?_
      refine vo_move_pv rfl rfl ?_
      refine vo_index_pv (.sl none 3 []) rfl rfl rfl E24.und inf52 sz52 sd sd ?_
      simp only [Int.toNat_natCast, Int.toNat_zero, getD_ints, getD_intss, getD_bools, getD_bytes, PV.cells, getD_ops, getD_pairs, getD_insts, getD_attrs, getD_attrss, getD_objs, getD_ordP]
      refine vo_load_adr rfl rfl Try.underlying52 rfl ?_
      refine vo_len_pv rfl rfl Try.underlying52 ?_
      refine vo_binI rfl rfl rfl rfl trivial ?_
      refine vo_nil ?_
      refine hK17 _ ?_
      refine vc_cond rfl (fun hc6 => ?_) (fun hc6 => ?_)
      ·try simp only [zq0, zq1, zq2, zq3, zq4, zq5, zq6, zq7, zq8, zq9, zqa, zqb, zqc, zqd, zqe, zqf] at hc6
       refine vc_skip ?_
       refine hK16 _ ?_
       refine vc_seq fun K18 hK18 => ?_
       refine vc_block ?_
       refine vc_seq fun K19 hK19 => ?_
       refine vc_region ?_
       refine vo_fieldAddr_ptr rfl rfl Try.underlying27 rfl inf24 (by rw [sz24]; decide) ?_
       try simp only [Nat.zero_add]
       refine vo_load_var rfl rfl rfl Try.underlying24 rfl rfl ?_
       refine vo_move_pv rfl rfl ?_
       refine vo_index_pv (.sl none 3 []) rfl rfl rfl E24.und inf52 sz52 sd sd ?_
       simp only [Int.toNat_natCast, Int.toNat_zero, getD_ints, getD_intss, getD_bools, getD_bytes, PV.cells, getD_ops, getD_pairs, getD_insts, getD_attrs, getD_attrss, getD_objs, getD_ordP]
       refine vo_load_adr rfl rfl Try.underlying52 rfl ?_
       refine vo_move_pv rfl rfl ?_
       refine vo_index_pv (.agg [(.int .i64 0), (.int .i64 0), (.int .i64 0)]) rfl rfl rfl E52.und inf31 sz31 sd sd ?_
       simp only [Int.toNat_natCast, Int.toNat_zero, getD_ints, getD_intss, getD_bools, getD_bytes, PV.cells, getD_ops, getD_pairs, getD_insts, getD_attrs, getD_attrss, getD_objs, getD_ordP]
       refine vo_fieldAddr_adr rfl rfl Try.underlying31 rfl inf3 (by rw [sz3]; decide) ?_
       refine vo_load_adr rfl rfl Try.underlying3 rfl ?_
       refine vo_move_pv rfl rfl ?_
       refine vo_binI rfl rfl rfl rfl trivial ?_
       refine vo_nil ?_
       refine hK19 _ ?_
       refine vc_cond rfl (fun hc7 => ?_) (fun hc7 => ?_)
       ·try simp only [zq0, zq1, zq2, zq3, zq4, zq5, zq6, zq7, zq8, zq9, zqa, zqb, zqc, zqd, zqe, zqf] at hc7
        refine vc_seq fun K20 hK20 => ?_
        refine vc_region ?_
        refine vo_assign_pv rfl rfl ?_
        refine vo_nil ?_
        refine hK20 _ ?_
        refine vc_ret ?_
        change retQ _ _ _ _ _
        refine retQ_sel [] (srows := []) (.inr rfl) hC rfl rfl rfl rfl rfl rfl rfl ?_
        first | exact ⟨rfl, rfl⟩ | (rw [hsf]; refine ⟨gbt ?_, rfl⟩; simp; done) | (exfalso; simp_all; done) | (refine ⟨gbt ?_, rfl⟩; first | simp_all | (simp; omega))
       ·try simp only [zq0, zq1, zq2, zq3, zq4, zq5, zq6, zq7, zq8, zq9, zqa, zqb, zqc, zqd, zqe, zqf] at hc7
        refine vc_skip ?_
        refine hK18 _ ?_
        refine vc_region ?_
        refine vo_move_pv rfl rfl ?_
        refine vo_binI rfl rfl rfl rfl sd ?_
        refine vo_assign_pv rfl rfl ?_
        refine vo_nil ?_
        change againE _ _ _ _ _ _ _ _ _ _
        refine againE_mk rfl rfl rfl rfl rfl rfl ⟨_, ?_, k + 1, rfl, ?_, ?_, rfl, rfl⟩
        ·omega
        ·omega
        ·intro j hj2; rcases Nat.lt_or_ge j k with h | h
         ·exact hk1 j h
         ·rw [show j = k by omega]; assumption
      ·try simp only [zq0, zq1, zq2, zq3, zq4, zq5, zq6, zq7, zq8, zq9, zqa, zqb, zqc, zqd, zqe, zqf] at hc6
       have hn1 := no_attr (by omega) hk1 hk
       refine vc_exit ?_
       refine hK14 _ ?_
       refine vc_seq fun K21 hK21 => ?_
       refine vc_seq fun K22 hK22 => ?_
       refine vc_region ?_
       refine vo_assign_pv rfl rfl ?_
       refine vo_nil ?_
       refine hK22 _ ?_
       refine vc_block ?_
       refine vc_stM ?_
       refine vc_loopE [3, 4, 6, 8] [10] [] _ _ (fun mz vs rs => ∃ (i : Nat), mz = (W.objs.getD z.toNat ⟨0, []⟩).pairs.length - i ∧ (i ≤ (W.objs.getD z.toNat ⟨0, []⟩).pairs.length) ∧ (∀ j, j < i → ((W.objs.getD z.toNat ⟨0, []⟩).pairs.getD j (0, 0)).1 ≠ y) ∧ vs = [i64 i] ∧ rs = []) ((W.objs.getD z.toNat ⟨0, []⟩).pairs.length) rfl rfl (le_len hC rfl) ⟨rfl, rfl, rfl⟩ rfl ⟨0, rfl, Nat.zero_le _, (by intro j hj; omega), rfl, rfl⟩ ?_
       rintro mz vs rs - - ⟨i, rfl, hi, hi1, rfl, rfl⟩
       refine vc_stM ?_
       refine vc_seq fun K23 hK23 => ?_
       refine vc_seq fun K24 hK24 => ?_
       refine vc_region ?_
       refine vo_move_pv rfl rfl ?_
       refine vo_fieldAddr_ptr rfl rfl Try.underlying27 rfl inf25 (by rw [sz25]; decide) ?_
       try simp only [Nat.zero_add]
       refine vo_load_var rfl rfl rfl Try.underlying25 rfl rfl ?_
       refine vo_move_pv rfl rfl ?_
       refine vo_index_pv (.agg [(.int .i64 0), (.sl none 2 [])]) rfl rfl rfl E25.und inf42 sz42 sd sd ?_
       simp only [Int.toNat_natCast, Int.toNat_zero, getD_ints, getD_intss, getD_bools, getD_bytes, PV.cells, getD_ops, getD_pairs, getD_insts, getD_attrs, getD_attrss, getD_objs, getD_ordP]
       refine vo_fieldAddr_adr rfl rfl Try.underlying42 rfl inf40 (by rw [sz40]; decide) ?_
       refine vo_load_adr rfl rfl Try.underlying40 rfl ?_
       refine vo_len_pv rfl rfl Try.underlying40 ?_
       refine vo_binI rfl rfl rfl rfl trivial ?_
       refine vo_nil ?_
       refine hK24 _ ?_
       refine vc_cond rfl (fun hc8 => ?_) (fun hc8 => ?_)
       ·try simp only [zq0, zq1, zq2, zq3, zq4, zq5, zq6, zq7, zq8, zq9, zqa, zqb, zqc, zqd, zqe, zqf] at hc8
        refine vc_skip ?_
        refine hK23 _ ?_
        refine vc_seq fun K25 hK25 => ?_
        refine vc_block ?_
        refine vc_seq fun K26 hK26 => ?_
        refine vc_region ?_
        refine vo_fieldAddr_ptr rfl rfl Try.underlying27 rfl inf25 (by rw [sz25]; decide) ?_
        try simp only [Nat.zero_add]
        refine vo_load_var rfl rfl rfl Try.underlying25 rfl rfl ?_
        refine vo_move_pv rfl rfl ?_
        refine vo_index_pv (.agg [(.int .i64 0), (.sl none 2 [])]) rfl rfl rfl E25.und inf42 sz42 sd sd ?_
        simp only [Int.toNat_natCast, Int.toNat_zero, getD_ints, getD_intss, getD_bools, getD_bytes, PV.cells, getD_ops, getD_pairs, getD_insts, getD_attrs, getD_attrss, getD_objs, getD_ordP]
        refine vo_fieldAddr_adr rfl rfl Try.underlying42 rfl inf40 (by rw [sz40]; decide) ?_
        refine vo_load_adr rfl rfl Try.underlying40 rfl ?_
        refine vo_move_pv rfl rfl ?_
        refine vo_index_pv (.agg [(.int .i64 0), (.int .i64 0)]) rfl rfl rfl E40.und inf44 sz44 sd sd ?_
        simp only [Int.toNat_natCast, Int.toNat_zero, getD_ints, getD_intss, getD_bools, getD_bytes, PV.cells, getD_ops, getD_pairs, getD_insts, getD_attrs, getD_attrss, getD_objs, getD_ordP]
        refine vo_fieldAddr_adr rfl rfl Try.underlying44 rfl inf3 (by rw [sz3]; decide) ?_
        refine vo_load_adr rfl rfl Try.underlying3 rfl ?_
        refine vo_move_pv rfl rfl ?_
        refine vo_binI rfl rfl rfl rfl trivial ?_
        refine vo_nil ?_
        refine hK26 _ ?_
        refine vc_cond rfl (fun hc9 => ?_) (fun hc9 => ?_)
        ·try simp only [zq0, zq1, zq2, zq3, zq4, zq5, zq6, zq7, zq8, zq9, zqa, zqb, zqc, zqd, zqe, zqf] at hc9
         refine vc_seq fun K27 hK27 => ?_
         refine vc_region ?_
         refine vo_assign_pv rfl rfl ?_
         refine vo_nil ?_
         refine hK27 _ ?_
         refine vc_ret ?_
         change retQ _ _ _ _ _
         refine retQ_sel [] (srows := []) (.inr rfl) hC rfl rfl rfl rfl rfl rfl rfl ?_
         first | exact ⟨rfl, rfl⟩ | (rw [hsf]; refine ⟨gbt ?_, rfl⟩; simp; done) | (exfalso; simp_all; done) | (refine ⟨gbt ?_, rfl⟩; first | simp_all | (simp; omega))
        ·try simp only [zq0, zq1, zq2, zq3, zq4, zq5, zq6, zq7, zq8, zq9, zqa, zqb, zqc, zqd, zqe, zqf] at hc9
         refine vc_skip ?_
         refine hK25 _ ?_
         refine vc_region ?_
         refine vo_move_pv rfl rfl ?_
         refine vo_binI rfl rfl rfl rfl sd ?_
         refine vo_assign_pv rfl rfl ?_
         refine vo_nil ?_
         change againE _ _ _ _ _ _ _ _ _ _
         refine againE_mk rfl rfl rfl rfl rfl rfl ⟨_, ?_, i + 1, rfl, ?_, ?_, rfl, rfl⟩
         ·omega
         ·omega
         ·intro j hj2; rcases Nat.lt_or_ge j i with h | h
          ·exact hi1 j h
          ·rw [show j = i by omega]; assumption
       ·try simp only [zq0, zq1, zq2, zq3, zq4, zq5, zq6, zq7, zq8, zq9, zqa, zqb, zqc, zqd, zqe, zqf] at hc8
        have hn2 := no_pair (by omega) hi1 hi
        have hsf := super_first hO hn1 hn2
        refine vc_exit ?_
        refine hK21 _ ?_
        refine vc_seq fun K28 hK28 => ?_
        refine vc_draw (by kernel_rfl) ?_
        change VD _ _ _ 11 _ _ _
        refine vd_light 0 rfl rfl rfl (by kernel_rfl) (by kernel_rfl) (by kernel_rfl) (wnt_none rfl) (lt_load_varS rfl rfl Try.underlying27 rfl inf27 sz27 rfl rfl) ?_
        refine vd_light 1 rfl rfl rfl (by kernel_rfl) (by kernel_rfl) (by kernel_rfl) (wnt_none rfl) (lt_move_pv rfl) ?_
        refine vd_light 2 rfl rfl rfl (by kernel_rfl) (by kernel_rfl) (by kernel_rfl) (wnt_none rfl) (lt_move_pv rfl) ?_
        refine vd_light 3 rfl rfl rfl (by kernel_rfl) (by kernel_rfl) (by kernel_rfl) (wnt_none rfl) (lt_move_pv rfl) ?_
        refine vd_light 5 rfl rfl rfl (by kernel_rfl) (by kernel_rfl) (by kernel_rfl) (wnt_none rfl) (lt_load_varS rfl rfl Try.underlying27 rfl inf27 sz27 rfl rfl) ?_
        refine vd_light 6 rfl rfl rfl (by kernel_rfl) (by kernel_rfl) (by kernel_rfl) (wnt_none rfl) (lt_move_pv rfl) ?_
        refine vd_light 7 rfl rfl rfl (by kernel_rfl) (by kernel_rfl) (by kernel_rfl) (wnt_none rfl) (lt_move_pv rfl) ?_
        refine vd_call 4 rfl (by kernel_rfl) (wnt_none rfl) Try.func34 rfl rfl rfl rfl (implSuperAttr_sat hW.sw) ?_
        rintro _ _ ⟨rfl, rfl⟩
        refine ⟨rfl, rfl, .inl rfl, ?_⟩
        refine vd_stM ?_
        refine vd_call 8 rfl (by kernel_rfl) (wnt_none rfl) Try.func17 rfl rfl rfl rfl (implGetAttr_sat hW.sw) ?_
        rintro _ _ ⟨rfl, rfl⟩
        refine ⟨rfl, rfl, .inl rfl, ?_⟩
        refine vd_stM ?_
        refine vd_light 9 rfl rfl rfl (by kernel_rfl) (by kernel_rfl) (by kernel_rfl) (wnt_none rfl) (lt_eqS4 Q37 rfl rfl) ?_
        refine vd_light 10 rfl rfl rfl (by kernel_rfl) (by kernel_rfl) (by kernel_rfl) (wnt_none rfl) (lt_assign_pv rfl) ?_
        refine vd_nil (by kernel_rfl) ?_
        refine hK28 _ ?_
        refine vc_ret ?_
        change retQ _ _ _ _ _
        refine retQ_sel [] (srows := []) (.inr rfl) hC rfl rfl rfl rfl rfl rfl rfl ?_
        first | exact ⟨rfl, rfl⟩ | (rw [hsf]; refine ⟨gbt ?_, rfl⟩; simp; done) | (exfalso; simp_all; done) | (refine ⟨gbt ?_, rfl⟩; first | simp_all | (simp; omega))

end Go.Vl
