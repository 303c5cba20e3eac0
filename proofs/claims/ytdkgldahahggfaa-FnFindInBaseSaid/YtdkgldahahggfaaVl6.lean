/- Part 6 of the texts that the proof of FnFindInBase is built on. -/
import Derived.Test.YtdkgldahahggfaaVl5
namespace Go.Vl
set_option linter.unusedVariables false
set_option linter.unusedSimpArgs false
open Go.Proofs

def medW (w : WorldM) : Prop := (1 ≤ w.bases.length ∧ w.bases.length ≤ 9 ∧ ∀ l ∈ w.bases, l.length ≤ 3) ∧ (w.attrs.length ≤ 10 ∧ ∀ l ∈ w.attrs, l.length ≤ 4) ∧ w.objs.length ≤ 4 ∧ ∀ o ∈ w.objs, o.pairs.length ≤ 3
theorem medW.sw {w : WorldM} (h : medW w) : SW w := by
  obtain ⟨⟨_, h1, h2⟩, ⟨h3, h4⟩, h5, h6⟩ := h
  exact ⟨⟨by omega, fun l hl => by have := h2 l hl; omega⟩, ⟨by omega, fun l hl => by have := h4 l hl; omega⟩, by omega, fun o ho => by have := h6 o ho; unfold SO; omega⟩
theorem attrs_at0 {A : List (List AttrM)} (h : 0 < A.length) : (A.map attrsP)[0]? = some (.sl none 3 ((A.getD 0 []).map attrP)) := getP [] h
theorem app_attrs3 (l : List AttrM) (a b c : Int) : l.map attrP ++ [.agg [.int .i64 a, .int .i64 b, .int .i64 c]] = (l ++ [(⟨a, b, c⟩ : AttrM)]).map attrP := by simp
theorem set_attrss (l : List (List AttrM)) (i : Nat) (a : List AttrM) : (l.map attrsP).set i (.sl none 3 (a.map attrP)) = (l.set i a).map attrsP := by simp [List.map_set]
theorem get_endP {α : Type} (f : α → PV) (l : List α) (x : PV) : (l.map f ++ [x])[l.length]? = some x := by simp
theorem set_endO (l : List ObjM) (a : Int) (x : PV) : (l.map objP ++ [x]).set l.length (.agg [.int .i64 a, .sl none 2 []]) = (l ++ [(⟨a, []⟩ : ObjM)]).map objP := by
  rw [List.set_append_right _ _ (by simp)]; simp
theorem set_endA (l : List (List AttrM)) (x : PV) : (l.map attrsP ++ [x]).set l.length (.sl none 3 []) = (l ++ [([] : List AttrM)]).map attrsP := by
  rw [List.set_append_right _ _ (by simp)]; simp
theorem set_all {α : Type} {p : α → Prop} {l : List α} {x : α} (h : ∀ y ∈ l, p y) (hx : p x) (i : Nat) : ∀ y ∈ l.set i x, p y := by
  intro y hy
  rcases List.mem_or_eq_of_mem_set hy with h1 | h1
  · exact h y h1
  · rw [h1]; exact hx
theorem plain_nilO (a : Int) : plainX [.agg [.int .i64 a, .sl (some true) 2 []]] := by
  intro x hx c hc
  rw [List.mem_singleton] at hx; subst hx
  simp [PV.cells] at hc
  rcases hc with rfl | rfl <;> rfl
theorem plain_nil1 : plainX [.sl (some true) 0 []] := by
  intro x hx c hc
  rw [List.mem_singleton] at hx; subst hx
  simp [PV.cells] at hc; subst hc; rfl
set_option maxHeartbeats 4000000 in
theorem anyWorld_sat {nl : Option Bool} {c : List (Fin 256)} {p : Nat} (hc : c.length ≤ 2000) (hp : p < 989000) : SatAt Try.prog 98 [.ptr 0 0 0 0] [rdr nl c p] (fun res rows => ∃ (W : WorldM) (q : Nat) (f : Bool), (medW W ∧ q ≤ p + 420) ∧ res = [.pv f (worldP W)] ∧ rows = [rdr nl c q]) := by
  refine sat_entry_G (rs := [(2, some (27, 3))]) Try.func98 rfl rfl (Nat.le_of_ble_eq_true rfl) (Nat.le_of_ble_eq_true rfl) (resTs1 ⟨_, _, Try.underlying27, rfl, inf27, sz27⟩) fun C hC => ?_
  rw [Try.ntmps98]
  replace hC : C.nb = 1 := hC
  refine vc_seq fun K1 hK1 => ?_
  refine vc_region ?_
  refine vo_alloc Z27 rfl ?_
  refine vo_stM ?_
  refine vo_nil ?_
  refine hK1 _ ?_
  refine vc_seq fun K2 hK2 => ?_
  refine vc_region ?_
  refine vo_move_ptr rfl rfl ?_
  refine vo_call [0] Try.func135 rfl rfl rfl rfl rfl rfl rfl (someWorld_sat hc (by omega)) ?_
  rintro _ _ ⟨W, q, f, ⟨⟨⟨hb1, hb2, hb3⟩, ⟨ha1, ha2⟩, ho1, ho2⟩, hq⟩, rfl, rfl⟩
  refine ⟨Nat.le_of_ble_eq_true rfl, ⟨rfl, rfl, rfl, rfl⟩, .inl rfl, ?_⟩
  refine vo_stM ?_
  refine vo_alloc Z27 rfl ?_
  refine vo_stM ?_
  refine vo_store_varG rfl rfl rfl rfl inf27 sz27 rfl ?_
  refine vo_stM ?_
  refine vo_nil ?_
  refine hK2 _ ?_
  refine vc_seq fun K3 hK3 => ?_
  refine vc_seq fun K4 hK4 => ?_
  refine vc_region ?_
  refine vo_move_ptr rfl rfl ?_
  refine vo_call [0] Try.func72 rfl rfl rfl rfl rfl rfl rfl (pick_sat hc (by omega)) ?_
  rintro _ _ ⟨x7, ⟨hx70, hx71⟩, rfl, rfl⟩
  refine ⟨Nat.le_of_ble_eq_true rfl, ⟨rfl, rfl, rfl, rfl⟩, .inl rfl, ?_⟩
  refine vo_stM ?_
  refine vo_nil ?_
  refine hK4 _ ?_
  refine vc_block ?_
  refine vc_seq fun K5 hK5 => ?_
  refine vc_region ?_
  refine vo_binI rfl rfl rfl rfl trivial ?_
  refine vo_assign_pv rfl rfl ?_
  refine vo_nil ?_
  refine hK5 _ ?_
  refine vc_cond rfl (fun hc1 => ?_) (fun hc1 => ?_)
  · try simp only [zq0, zq1, zq2, zq3, zq4, zq5, zq6, zq7, zq8, zq9, zqa, zqb, zqc, zqd, zqe, zqf] at hc1
    have hat0 : (W.attrs.getD 0 []).length ≤ 3 := getD_all (p := fun l : List AttrM => l.length ≤ 3) ha2 [] (by simp) 0
    refine vc_drawB [11, 13] (by kernel_rfl) ?_
    change VLB [11, 13] _ _ _ 14 _ _ _
    refine vb_light0 0 rfl rfl rfl (by kernel_rfl) (by kernel_rfl) (by kernel_rfl) (wnt_none rfl) (l0_fieldAddr_ptr rfl Try.underlying27 rfl inf24 (by rw [sz24]; decide)) ?_
    try simp only [Nat.zero_add]
    refine vb_light0 2 rfl rfl rfl (by kernel_rfl) (by kernel_rfl) (by kernel_rfl) (wnt_none rfl) (l0_fieldAddr_ptr rfl Try.underlying27 rfl inf24 (by rw [sz24]; decide)) ?_
    try simp only [Nat.zero_add]
    refine vb_light 3 [0, 1, 2, 6, 7, 8, 9, 10] rfl rfl rfl (by kernel_rfl) (by kernel_rfl) (by kernel_rfl) (by kernel_rfl) (by kernel_rfl) (wnt_none rfl) (lb_load_var hC rfl rfl rfl rfl Try.underlying24 rfl rfl) ?_
    refine vb_light0 4 rfl rfl rfl (by kernel_rfl) (by kernel_rfl) (by kernel_rfl) (wnt_none rfl) (l0_index_ref rfl rfl rfl E24.und inf52 sz52 sd sd) ?_
    try simp only [Int.toNat_natCast]
    refine vb_light0 6 rfl rfl rfl (by kernel_rfl) (by kernel_rfl) (by kernel_rfl) (wnt_none rfl) (l0_move_ptr rfl) ?_
    refine vb_any3 1 5 7 (by kernel_rfl) ?_ ?_ ?_
    · refine sb_light 1 rfl rfl rfl (wnt_none rfl) (lb_load_var hC rfl rfl rfl rfl Try.underlying24 rfl rfl) ?_
      refine vb_any2 5 7 (by kernel_rfl) ?_ ?_
      · refine sb_extE 5 rfl (fun _ => rfl) (xt_load_take1 rfl rfl (by omega) Try.underlying52 rfl (attrs_at0 (by omega))) fun Rf15 => ?_
        refine vb_stM ?_
        refine vb_treeown 5 (by omega) rfl ?_
        refine vb_stM ?_
        refine vb_ext 7 rfl (by kernel_rfl) rfl (xt_buildSlice E34 rfl rfl rfl rfl) ?_
        refine vb_stM ?_
        refine vb_expose 6 (by omega) rfl ?_
        refine vb_stM ?_
        refine vb_weaken 17 rfl ?_
        refine vb_stM ?_
        refine vb_any1 8 (by kernel_rfl) ?_
        refine sb_call 8 [0] hC rfl rfl (wnt_none rfl) Try.func99 rfl rfl rfl rfl rfl rfl rfl (one_sat (list := [_,_]) hc (by omega) (by simp) (by simp)) ?_
        rintro _ _ ⟨y18, hy18, rfl, rfl⟩
        refine ⟨Nat.le_of_ble_eq_true rfl, ⟨rfl, rfl, rfl, rfl⟩, .inl rfl, ?_⟩
        refine vb_stM ?_
        refine vb_light0 9 rfl rfl rfl (by kernel_rfl) (by kernel_rfl) (by kernel_rfl) (wnt_none rfl) (l0_build S31 rfl rfl) ?_
        refine vb_stM ?_
        refine vb_ext 10 rfl (by kernel_rfl) rfl (xt_buildSlice E52 rfl rfl rfl rfl) ?_
        refine vb_stM ?_
        refine vb_one 11 rfl (by kernel_rfl) rfl ?_
        refine vo_appendU E52 rfl (by omega) rfl rfl rfl sd sd fun Rt5 => ?_
        refine vo_stM ?_
        try simp only [app_ints, app_intss, app_bools, app_attrs3]
        refine vo_done ⟨rfl, ?_⟩
        refine vb_light0 12 rfl rfl rfl (by kernel_rfl) (by kernel_rfl) (by kernel_rfl) (wnt_none rfl) (l0_index_ref rfl rfl rfl E24.und inf52 sz52 sd sd) ?_
        try simp only [Int.toNat_natCast]
        refine vb_one 13 rfl (by kernel_rfl) rfl ?_
        refine vo_totree 5 rfl ((by first | exact plain_nilO _ | exact plain_nil1 | exact plain_attrs _ | exact plain_pairsX _)) ?_
        refine vo_stM ?_
        refine vo_weaktree 5 rfl ?_
        refine vo_stM ?_
        refine vo_put (p := .sl _ _ _) rfl rfl rfl rfl rfl rfl rfl hC rfl (by first | decide | simp [refsOf]) inf52 sz52 sd ?_
        refine vo_stM ?_
        try simp only [List.set_set, set_attrss]
        refine vo_done ⟨rfl, ?_⟩
        refine vb_nil (by kernel_rfl) ?_
        refine hK3 _ ?_
        refine vc_seq fun K6 hK6 => ?_
        refine vc_region ?_
        refine vo_load_varG rfl rfl rfl Try.underlying27 rfl inf27 sz27 rfl ?_
        refine vo_stM ?_
        refine vo_store_varG rfl rfl rfl rfl inf27 sz27 rfl ?_
        refine vo_stM ?_
        refine vo_nil ?_
        refine hK6 _ ?_
        refine vc_treeown 2 (by omega) rfl ?_
        refine vc_stM ?_
        refine vc_expose 2 (by omega) rfl ?_
        refine vc_stM ?_
        refine vc_treeown 3 (by omega) rfl ?_
        refine vc_stM ?_
        refine vc_expose 3 (by omega) rfl ?_
        refine vc_stM ?_
        refine vc_ret ?_
        change retQ _ _ _ _ _
        refine retQ_sel [] (srows := []) (.inr rfl) hC rfl rfl rfl rfl rfl rfl rfl ?_
        first
          | exact ⟨⟨W.bases, W.attrs.set 0 (W.attrs.getD 0 [] ++ [⟨y18, 1, 0⟩]), W.objs⟩, _, _, ⟨⟨⟨hb1, hb2, hb3⟩, ⟨by rw [List.length_set]; omega, set_all (fun l hl => Nat.le_succ_of_le (ha2 l hl)) (by rw [List.length_append, List.length_singleton]; have := getD_all (p := fun l : List AttrM => l.length ≤ 3) ha2 [] (by simp) 0; omega) 0⟩, Nat.le_succ_of_le ho1, ho2⟩, by omega⟩, rfl, rfl⟩
          | exact ⟨⟨W.bases, W.attrs, W.objs ++ [⟨y29, []⟩]⟩, _, _, ⟨⟨⟨hb1, hb2, hb3⟩, ⟨by show W.attrs.length ≤ 10; omega, fun l hl => Nat.le_succ_of_le (ha2 l hl)⟩, by rw [List.length_append, List.length_singleton]; omega, app_all ho2 (by simp)⟩, by omega⟩, rfl, rfl⟩
          | exact ⟨⟨W.bases, W.attrs ++ [[]], W.objs⟩, _, _, ⟨⟨⟨hb1, hb2, hb3⟩, ⟨by rw [List.length_append, List.length_singleton]; omega, app_all (fun l hl => Nat.le_succ_of_le (ha2 l hl)) (by simp)⟩, Nat.le_succ_of_le ho1, ho2⟩, by omega⟩, rfl, rfl⟩
          | exact ⟨⟨W.bases, W.attrs, W.objs⟩, _, _, ⟨⟨⟨hb1, hb2, hb3⟩, ⟨by show W.attrs.length ≤ 10; omega, fun l hl => Nat.le_succ_of_le (ha2 l hl)⟩, Nat.le_succ_of_le ho1, ho2⟩, by omega⟩, rfl, rfl⟩
      · refine sb_ext 7 rfl rfl (xt_buildSlice E34 rfl rfl rfl rfl) ?_
        refine vb_stM ?_
        refine vb_expose 5 (by omega) rfl ?_
        refine vb_stM ?_
        refine vb_weaken 17 rfl ?_
        refine vb_stM ?_
        refine vb_any2 5 8 (by kernel_rfl) ?_ ?_
        · refine sb_extE 5 rfl (fun _ => rfl) (xt_load_take1 rfl rfl (by omega) Try.underlying52 rfl (attrs_at0 (by omega))) fun Rf15 => ?_
          refine vb_stM ?_
          refine vb_treeown 6 (by omega) rfl ?_
          refine vb_stM ?_
          refine vb_any1 8 (by kernel_rfl) ?_
          refine sb_call 8 [0] hC rfl rfl (wnt_none rfl) Try.func99 rfl rfl rfl rfl rfl rfl rfl (one_sat (list := [_,_]) hc (by omega) (by simp) (by simp)) ?_
          rintro _ _ ⟨y18, hy18, rfl, rfl⟩
          refine ⟨Nat.le_of_ble_eq_true rfl, ⟨rfl, rfl, rfl, rfl⟩, .inl rfl, ?_⟩
          refine vb_stM ?_
          refine vb_light0 9 rfl rfl rfl (by kernel_rfl) (by kernel_rfl) (by kernel_rfl) (wnt_none rfl) (l0_build S31 rfl rfl) ?_
          refine vb_stM ?_
          refine vb_ext 10 rfl (by kernel_rfl) rfl (xt_buildSlice E52 rfl rfl rfl rfl) ?_
          refine vb_stM ?_
          refine vb_one 11 rfl (by kernel_rfl) rfl ?_
          refine vo_appendU E52 rfl (by omega) rfl rfl rfl sd sd fun Rt6 => ?_
          refine vo_stM ?_
          try simp only [app_ints, app_intss, app_bools, app_attrs3]
          refine vo_done ⟨rfl, ?_⟩
          refine vb_light0 12 rfl rfl rfl (by kernel_rfl) (by kernel_rfl) (by kernel_rfl) (wnt_none rfl) (l0_index_ref rfl rfl rfl E24.und inf52 sz52 sd sd) ?_
          try simp only [Int.toNat_natCast]
          refine vb_one 13 rfl (by kernel_rfl) rfl ?_
          refine vo_totree 6 rfl ((by first | exact plain_nilO _ | exact plain_nil1 | exact plain_attrs _ | exact plain_pairsX _)) ?_
          refine vo_stM ?_
          refine vo_weaktree 6 rfl ?_
          refine vo_stM ?_
          refine vo_put (p := .sl _ _ _) rfl rfl rfl rfl rfl rfl rfl hC rfl (by first | decide | simp [refsOf]) inf52 sz52 sd ?_
          refine vo_stM ?_
          try simp only [List.set_set, set_attrss]
          refine vo_done ⟨rfl, ?_⟩
          refine vb_nil (by kernel_rfl) ?_
          refine hK3 _ ?_
          refine vc_seq fun K7 hK7 => ?_
          refine vc_region ?_
          refine vo_load_varG rfl rfl rfl Try.underlying27 rfl inf27 sz27 rfl ?_
          refine vo_stM ?_
          refine vo_store_varG rfl rfl rfl rfl inf27 sz27 rfl ?_
          refine vo_stM ?_
          refine vo_nil ?_
          refine hK7 _ ?_
          refine vc_treeown 2 (by omega) rfl ?_
          refine vc_stM ?_
          refine vc_expose 2 (by omega) rfl ?_
          refine vc_stM ?_
          refine vc_treeown 3 (by omega) rfl ?_
          refine vc_stM ?_
          refine vc_expose 3 (by omega) rfl ?_
          refine vc_stM ?_
          refine vc_ret ?_
          change retQ _ _ _ _ _
          refine retQ_sel [] (srows := []) (.inr rfl) hC rfl rfl rfl rfl rfl rfl rfl ?_
          first
            | exact ⟨⟨W.bases, W.attrs.set 0 (W.attrs.getD 0 [] ++ [⟨y18, 1, 0⟩]), W.objs⟩, _, _, ⟨⟨⟨hb1, hb2, hb3⟩, ⟨by rw [List.length_set]; omega, set_all (fun l hl => Nat.le_succ_of_le (ha2 l hl)) (by rw [List.length_append, List.length_singleton]; have := getD_all (p := fun l : List AttrM => l.length ≤ 3) ha2 [] (by simp) 0; omega) 0⟩, Nat.le_succ_of_le ho1, ho2⟩, by omega⟩, rfl, rfl⟩
            | exact ⟨⟨W.bases, W.attrs, W.objs ++ [⟨y29, []⟩]⟩, _, _, ⟨⟨⟨hb1, hb2, hb3⟩, ⟨by show W.attrs.length ≤ 10; omega, fun l hl => Nat.le_succ_of_le (ha2 l hl)⟩, by rw [List.length_append, List.length_singleton]; omega, app_all ho2 (by simp)⟩, by omega⟩, rfl, rfl⟩
            | exact ⟨⟨W.bases, W.attrs ++ [[]], W.objs⟩, _, _, ⟨⟨⟨hb1, hb2, hb3⟩, ⟨by rw [List.length_append, List.length_singleton]; omega, app_all (fun l hl => Nat.le_succ_of_le (ha2 l hl)) (by simp)⟩, Nat.le_succ_of_le ho1, ho2⟩, by omega⟩, rfl, rfl⟩
            | exact ⟨⟨W.bases, W.attrs, W.objs⟩, _, _, ⟨⟨⟨hb1, hb2, hb3⟩, ⟨by show W.attrs.length ≤ 10; omega, fun l hl => Nat.le_succ_of_le (ha2 l hl)⟩, Nat.le_succ_of_le ho1, ho2⟩, by omega⟩, rfl, rfl⟩
        · refine sb_call 8 [0] hC rfl rfl (wnt_none rfl) Try.func99 rfl rfl rfl rfl rfl rfl rfl (one_sat (list := [_,_]) hc (by omega) (by simp) (by simp)) ?_
          rintro _ _ ⟨y18, hy18, rfl, rfl⟩
          refine ⟨Nat.le_of_ble_eq_true rfl, ⟨rfl, rfl, rfl, rfl⟩, .inl rfl, ?_⟩
          refine vb_stM ?_
          refine vb_light0 9 rfl rfl rfl (by kernel_rfl) (by kernel_rfl) (by kernel_rfl) (wnt_none rfl) (l0_build S31 rfl rfl) ?_
          refine vb_stM ?_
          refine vb_any2 5 10 (by kernel_rfl) ?_ ?_
          · refine sb_extE 5 rfl (fun _ => rfl) (xt_load_take1 rfl rfl (by omega) Try.underlying52 rfl (attrs_at0 (by omega))) fun Rf15 => ?_
            refine vb_stM ?_
            refine vb_treeown 6 (by omega) rfl ?_
            refine vb_stM ?_
            refine vb_ext 10 rfl (by kernel_rfl) rfl (xt_buildSlice E52 rfl rfl rfl rfl) ?_
            refine vb_stM ?_
            refine vb_one 11 rfl (by kernel_rfl) rfl ?_
            refine vo_appendU E52 rfl (by omega) rfl rfl rfl sd sd fun Rt7 => ?_
            refine vo_stM ?_
            try simp only [app_ints, app_intss, app_bools, app_attrs3]
            refine vo_done ⟨rfl, ?_⟩
            refine vb_light0 12 rfl rfl rfl (by kernel_rfl) (by kernel_rfl) (by kernel_rfl) (wnt_none rfl) (l0_index_ref rfl rfl rfl E24.und inf52 sz52 sd sd) ?_
            try simp only [Int.toNat_natCast]
            refine vb_one 13 rfl (by kernel_rfl) rfl ?_
            refine vo_totree 6 rfl ((by first | exact plain_nilO _ | exact plain_nil1 | exact plain_attrs _ | exact plain_pairsX _)) ?_
            refine vo_stM ?_
            refine vo_weaktree 6 rfl ?_
            refine vo_stM ?_
            refine vo_put (p := .sl _ _ _) rfl rfl rfl rfl rfl rfl rfl hC rfl (by first | decide | simp [refsOf]) inf52 sz52 sd ?_
            refine vo_stM ?_
            try simp only [List.set_set, set_attrss]
            refine vo_done ⟨rfl, ?_⟩
            refine vb_nil (by kernel_rfl) ?_
            refine hK3 _ ?_
            refine vc_seq fun K8 hK8 => ?_
            refine vc_region ?_
            refine vo_load_varG rfl rfl rfl Try.underlying27 rfl inf27 sz27 rfl ?_
            refine vo_stM ?_
            refine vo_store_varG rfl rfl rfl rfl inf27 sz27 rfl ?_
            refine vo_stM ?_
            refine vo_nil ?_
            refine hK8 _ ?_
            refine vc_treeown 2 (by omega) rfl ?_
            refine vc_stM ?_
            refine vc_expose 2 (by omega) rfl ?_
            refine vc_stM ?_
            refine vc_treeown 3 (by omega) rfl ?_
            refine vc_stM ?_
            refine vc_expose 3 (by omega) rfl ?_
            refine vc_stM ?_
            refine vc_ret ?_
            change retQ _ _ _ _ _
            refine retQ_sel [] (srows := []) (.inr rfl) hC rfl rfl rfl rfl rfl rfl rfl ?_
            first
              | exact ⟨⟨W.bases, W.attrs.set 0 (W.attrs.getD 0 [] ++ [⟨y18, 1, 0⟩]), W.objs⟩, _, _, ⟨⟨⟨hb1, hb2, hb3⟩, ⟨by rw [List.length_set]; omega, set_all (fun l hl => Nat.le_succ_of_le (ha2 l hl)) (by rw [List.length_append, List.length_singleton]; have := getD_all (p := fun l : List AttrM => l.length ≤ 3) ha2 [] (by simp) 0; omega) 0⟩, Nat.le_succ_of_le ho1, ho2⟩, by omega⟩, rfl, rfl⟩
              | exact ⟨⟨W.bases, W.attrs, W.objs ++ [⟨y29, []⟩]⟩, _, _, ⟨⟨⟨hb1, hb2, hb3⟩, ⟨by show W.attrs.length ≤ 10; omega, fun l hl => Nat.le_succ_of_le (ha2 l hl)⟩, by rw [List.length_append, List.length_singleton]; omega, app_all ho2 (by simp)⟩, by omega⟩, rfl, rfl⟩
              | exact ⟨⟨W.bases, W.attrs ++ [[]], W.objs⟩, _, _, ⟨⟨⟨hb1, hb2, hb3⟩, ⟨by rw [List.length_append, List.length_singleton]; omega, app_all (fun l hl => Nat.le_succ_of_le (ha2 l hl)) (by simp)⟩, Nat.le_succ_of_le ho1, ho2⟩, by omega⟩, rfl, rfl⟩
              | exact ⟨⟨W.bases, W.attrs, W.objs⟩, _, _, ⟨⟨⟨hb1, hb2, hb3⟩, ⟨by show W.attrs.length ≤ 10; omega, fun l hl => Nat.le_succ_of_le (ha2 l hl)⟩, Nat.le_succ_of_le ho1, ho2⟩, by omega⟩, rfl, rfl⟩
          · refine sb_ext 10 rfl rfl (xt_buildSlice E52 rfl rfl rfl rfl) ?_
            refine vb_stM ?_
            refine vb_any1 5 (by kernel_rfl) ?_
            refine sb_extE 5 rfl (fun _ => rfl) (xt_load_take1 rfl rfl (by omega) Try.underlying52 rfl (attrs_at0 (by omega))) fun Rf15 => ?_
            refine vb_stM ?_
            refine vb_treeown 7 (by omega) rfl ?_
            refine vb_stM ?_
            refine vb_one 11 rfl (by kernel_rfl) rfl ?_
            refine vo_appendU E52 rfl (by omega) rfl rfl rfl sd sd fun Rt8 => ?_
            refine vo_stM ?_
            try simp only [app_ints, app_intss, app_bools, app_attrs3]
            refine vo_done ⟨rfl, ?_⟩
            refine vb_light0 12 rfl rfl rfl (by kernel_rfl) (by kernel_rfl) (by kernel_rfl) (wnt_none rfl) (l0_index_ref rfl rfl rfl E24.und inf52 sz52 sd sd) ?_
            try simp only [Int.toNat_natCast]
            refine vb_one 13 rfl (by kernel_rfl) rfl ?_
            refine vo_totree 7 rfl ((by first | exact plain_nilO _ | exact plain_nil1 | exact plain_attrs _ | exact plain_pairsX _)) ?_
            refine vo_stM ?_
            refine vo_weaktree 7 rfl ?_
            refine vo_stM ?_
            refine vo_put (p := .sl _ _ _) rfl rfl rfl rfl rfl rfl rfl hC rfl (by first | decide | simp [refsOf]) inf52 sz52 sd ?_
            refine vo_stM ?_
            try simp only [List.set_set, set_attrss]
            refine vo_done ⟨rfl, ?_⟩
            refine vb_nil (by kernel_rfl) ?_
            refine hK3 _ ?_
            refine vc_seq fun K9 hK9 => ?_
            refine vc_region ?_
            refine vo_load_varG rfl rfl rfl Try.underlying27 rfl inf27 sz27 rfl ?_
            refine vo_stM ?_
            refine vo_store_varG rfl rfl rfl rfl inf27 sz27 rfl ?_
            refine vo_stM ?_
            refine vo_nil ?_
            refine hK9 _ ?_
            refine vc_treeown 2 (by omega) rfl ?_
            refine vc_stM ?_
            refine vc_expose 2 (by omega) rfl ?_
            refine vc_stM ?_
            refine vc_treeown 3 (by omega) rfl ?_
            refine vc_stM ?_
            refine vc_expose 3 (by omega) rfl ?_
            refine vc_stM ?_
            refine vc_ret ?_
            change retQ _ _ _ _ _
            refine retQ_sel [] (srows := []) (.inr rfl) hC rfl rfl rfl rfl rfl rfl rfl ?_
            first
              | exact ⟨⟨W.bases, W.attrs.set 0 (W.attrs.getD 0 [] ++ [⟨y18, 1, 0⟩]), W.objs⟩, _, _, ⟨⟨⟨hb1, hb2, hb3⟩, ⟨by rw [List.length_set]; omega, set_all (fun l hl => Nat.le_succ_of_le (ha2 l hl)) (by rw [List.length_append, List.length_singleton]; have := getD_all (p := fun l : List AttrM => l.length ≤ 3) ha2 [] (by simp) 0; omega) 0⟩, Nat.le_succ_of_le ho1, ho2⟩, by omega⟩, rfl, rfl⟩
              | exact ⟨⟨W.bases, W.attrs, W.objs ++ [⟨y29, []⟩]⟩, _, _, ⟨⟨⟨hb1, hb2, hb3⟩, ⟨by show W.attrs.length ≤ 10; omega, fun l hl => Nat.le_succ_of_le (ha2 l hl)⟩, by rw [List.length_append, List.length_singleton]; omega, app_all ho2 (by simp)⟩, by omega⟩, rfl, rfl⟩
              | exact ⟨⟨W.bases, W.attrs ++ [[]], W.objs⟩, _, _, ⟨⟨⟨hb1, hb2, hb3⟩, ⟨by rw [List.length_append, List.length_singleton]; omega, app_all (fun l hl => Nat.le_succ_of_le (ha2 l hl)) (by simp)⟩, Nat.le_succ_of_le ho1, ho2⟩, by omega⟩, rfl, rfl⟩
              | exact ⟨⟨W.bases, W.attrs, W.objs⟩, _, _, ⟨⟨⟨hb1, hb2, hb3⟩, ⟨by show W.attrs.length ≤ 10; omega, fun l hl => Nat.le_succ_of_le (ha2 l hl)⟩, Nat.le_succ_of_le ho1, ho2⟩, by omega⟩, rfl, rfl⟩
    · refine sb_extE 5 rfl (fun _ => rfl) (xt_load_take1 rfl rfl (by omega) Try.underlying52 rfl (attrs_at0 (by omega))) fun Rf15 => ?_
      refine vb_stM ?_
      refine vb_treeown 5 (by omega) rfl ?_
      refine vb_stM ?_
      refine vb_any2 1 7 (by kernel_rfl) ?_ ?_
      · refine sb_light 1 rfl rfl rfl (wnt_none rfl) (lb_load_var hC rfl rfl rfl rfl Try.underlying24 rfl rfl) ?_
        refine vb_ext 7 rfl (by kernel_rfl) rfl (xt_buildSlice E34 rfl rfl rfl rfl) ?_
        refine vb_stM ?_
        refine vb_expose 6 (by omega) rfl ?_
        refine vb_stM ?_
        refine vb_weaken 17 rfl ?_
        refine vb_stM ?_
        refine vb_any1 8 (by kernel_rfl) ?_
        refine sb_call 8 [0] hC rfl rfl (wnt_none rfl) Try.func99 rfl rfl rfl rfl rfl rfl rfl (one_sat (list := [_,_]) hc (by omega) (by simp) (by simp)) ?_
        rintro _ _ ⟨y18, hy18, rfl, rfl⟩
        refine ⟨Nat.le_of_ble_eq_true rfl, ⟨rfl, rfl, rfl, rfl⟩, .inl rfl, ?_⟩
        refine vb_stM ?_
        refine vb_light0 9 rfl rfl rfl (by kernel_rfl) (by kernel_rfl) (by kernel_rfl) (wnt_none rfl) (l0_build S31 rfl rfl) ?_
        refine vb_stM ?_
        refine vb_ext 10 rfl (by kernel_rfl) rfl (xt_buildSlice E52 rfl rfl rfl rfl) ?_
        refine vb_stM ?_
        refine vb_one 11 rfl (by kernel_rfl) rfl ?_
        refine vo_appendU E52 rfl (by omega) rfl rfl rfl sd sd fun Rt9 => ?_
        refine vo_stM ?_
        try simp only [app_ints, app_intss, app_bools, app_attrs3]
        refine vo_done ⟨rfl, ?_⟩
        refine vb_light0 12 rfl rfl rfl (by kernel_rfl) (by kernel_rfl) (by kernel_rfl) (wnt_none rfl) (l0_index_ref rfl rfl rfl E24.und inf52 sz52 sd sd) ?_
        try simp only [Int.toNat_natCast]
        refine vb_one 13 rfl (by kernel_rfl) rfl ?_
        refine vo_totree 5 rfl ((by first | exact plain_nilO _ | exact plain_nil1 | exact plain_attrs _ | exact plain_pairsX _)) ?_
        refine vo_stM ?_
        refine vo_weaktree 5 rfl ?_
        refine vo_stM ?_
        refine vo_put (p := .sl _ _ _) rfl rfl rfl rfl rfl rfl rfl hC rfl (by first | decide | simp [refsOf]) inf52 sz52 sd ?_
        refine vo_stM ?_
        try simp only [List.set_set, set_attrss]
        refine vo_done ⟨rfl, ?_⟩
        refine vb_nil (by kernel_rfl) ?_
        refine hK3 _ ?_
        refine vc_seq fun K10 hK10 => ?_
        refine vc_region ?_
        refine vo_load_varG rfl rfl rfl Try.underlying27 rfl inf27 sz27 rfl ?_
        refine vo_stM ?_
        refine vo_store_varG rfl rfl rfl rfl inf27 sz27 rfl ?_
        refine vo_stM ?_
        refine vo_nil ?_
        refine hK10 _ ?_
        refine vc_treeown 2 (by omega) rfl ?_
        refine vc_stM ?_
        refine vc_expose 2 (by omega) rfl ?_
        refine vc_stM ?_
        refine vc_treeown 3 (by omega) rfl ?_
        refine vc_stM ?_
        refine vc_expose 3 (by omega) rfl ?_
        refine vc_stM ?_
        refine vc_ret ?_
        change retQ _ _ _ _ _
        refine retQ_sel [] (srows := []) (.inr rfl) hC rfl rfl rfl rfl rfl rfl rfl ?_
        first
          | exact ⟨⟨W.bases, W.attrs.set 0 (W.attrs.getD 0 [] ++ [⟨y18, 1, 0⟩]), W.objs⟩, _, _, ⟨⟨⟨hb1, hb2, hb3⟩, ⟨by rw [List.length_set]; omega, set_all (fun l hl => Nat.le_succ_of_le (ha2 l hl)) (by rw [List.length_append, List.length_singleton]; have := getD_all (p := fun l : List AttrM => l.length ≤ 3) ha2 [] (by simp) 0; omega) 0⟩, Nat.le_succ_of_le ho1, ho2⟩, by omega⟩, rfl, rfl⟩
          | exact ⟨⟨W.bases, W.attrs, W.objs ++ [⟨y29, []⟩]⟩, _, _, ⟨⟨⟨hb1, hb2, hb3⟩, ⟨by show W.attrs.length ≤ 10; omega, fun l hl => Nat.le_succ_of_le (ha2 l hl)⟩, by rw [List.length_append, List.length_singleton]; omega, app_all ho2 (by simp)⟩, by omega⟩, rfl, rfl⟩
          | exact ⟨⟨W.bases, W.attrs ++ [[]], W.objs⟩, _, _, ⟨⟨⟨hb1, hb2, hb3⟩, ⟨by rw [List.length_append, List.length_singleton]; omega, app_all (fun l hl => Nat.le_succ_of_le (ha2 l hl)) (by simp)⟩, Nat.le_succ_of_le ho1, ho2⟩, by omega⟩, rfl, rfl⟩
          | exact ⟨⟨W.bases, W.attrs, W.objs⟩, _, _, ⟨⟨⟨hb1, hb2, hb3⟩, ⟨by show W.attrs.length ≤ 10; omega, fun l hl => Nat.le_succ_of_le (ha2 l hl)⟩, Nat.le_succ_of_le ho1, ho2⟩, by omega⟩, rfl, rfl⟩
      · refine sb_ext 7 rfl rfl (xt_buildSlice E34 rfl rfl rfl rfl) ?_
        refine vb_stM ?_
        refine vb_expose 6 (by omega) rfl ?_
        refine vb_stM ?_
        refine vb_weaken 17 rfl ?_
        refine vb_stM ?_
        refine vb_any2 1 8 (by kernel_rfl) ?_ ?_
        · refine sb_light 1 rfl rfl rfl (wnt_none rfl) (lb_load_var hC rfl rfl rfl rfl Try.underlying24 rfl rfl) ?_
          refine vb_any1 8 (by kernel_rfl) ?_
          refine sb_call 8 [0] hC rfl rfl (wnt_none rfl) Try.func99 rfl rfl rfl rfl rfl rfl rfl (one_sat (list := [_,_]) hc (by omega) (by simp) (by simp)) ?_
          rintro _ _ ⟨y18, hy18, rfl, rfl⟩
          refine ⟨Nat.le_of_ble_eq_true rfl, ⟨rfl, rfl, rfl, rfl⟩, .inl rfl, ?_⟩
          refine vb_stM ?_
          refine vb_light0 9 rfl rfl rfl (by kernel_rfl) (by kernel_rfl) (by kernel_rfl) (wnt_none rfl) (l0_build S31 rfl rfl) ?_
          refine vb_stM ?_
          refine vb_ext 10 rfl (by kernel_rfl) rfl (xt_buildSlice E52 rfl rfl rfl rfl) ?_
          refine vb_stM ?_
          refine vb_one 11 rfl (by kernel_rfl) rfl ?_
          refine vo_appendU E52 rfl (by omega) rfl rfl rfl sd sd fun Rt10 => ?_
          refine vo_stM ?_
          try simp only [app_ints, app_intss, app_bools, app_attrs3]
          refine vo_done ⟨rfl, ?_⟩
          refine vb_light0 12 rfl rfl rfl (by kernel_rfl) (by kernel_rfl) (by kernel_rfl) (wnt_none rfl) (l0_index_ref rfl rfl rfl E24.und inf52 sz52 sd sd) ?_
          try simp only [Int.toNat_natCast]
          refine vb_one 13 rfl (by kernel_rfl) rfl ?_
          refine vo_totree 5 rfl ((by first | exact plain_nilO _ | exact plain_nil1 | exact plain_attrs _ | exact plain_pairsX _)) ?_
          refine vo_stM ?_
          refine vo_weaktree 5 rfl ?_
          refine vo_stM ?_
          refine vo_put (p := .sl _ _ _) rfl rfl rfl rfl rfl rfl rfl hC rfl (by first | decide | simp [refsOf]) inf52 sz52 sd ?_
          refine vo_stM ?_
          try simp only [List.set_set, set_attrss]
          refine vo_done ⟨rfl, ?_⟩
          refine vb_nil (by kernel_rfl) ?_
          refine hK3 _ ?_
          refine vc_seq fun K11 hK11 => ?_
          refine vc_region ?_
          refine vo_load_varG rfl rfl rfl Try.underlying27 rfl inf27 sz27 rfl ?_
          refine vo_stM ?_
          refine vo_store_varG rfl rfl rfl rfl inf27 sz27 rfl ?_
          refine vo_stM ?_
          refine vo_nil ?_
          refine hK11 _ ?_
          refine vc_treeown 2 (by omega) rfl ?_
          refine vc_stM ?_
          refine vc_expose 2 (by omega) rfl ?_
          refine vc_stM ?_
          refine vc_treeown 3 (by omega) rfl ?_
          refine vc_stM ?_
          refine vc_expose 3 (by omega) rfl ?_
          refine vc_stM ?_
          refine vc_ret ?_
          change retQ _ _ _ _ _
          refine retQ_sel [] (srows := []) (.inr rfl) hC rfl rfl rfl rfl rfl rfl rfl ?_
          first
            | exact ⟨⟨W.bases, W.attrs.set 0 (W.attrs.getD 0 [] ++ [⟨y18, 1, 0⟩]), W.objs⟩, _, _, ⟨⟨⟨hb1, hb2, hb3⟩, ⟨by rw [List.length_set]; omega, set_all (fun l hl => Nat.le_succ_of_le (ha2 l hl)) (by rw [List.length_append, List.length_singleton]; have := getD_all (p := fun l : List AttrM => l.length ≤ 3) ha2 [] (by simp) 0; omega) 0⟩, Nat.le_succ_of_le ho1, ho2⟩, by omega⟩, rfl, rfl⟩
            | exact ⟨⟨W.bases, W.attrs, W.objs ++ [⟨y29, []⟩]⟩, _, _, ⟨⟨⟨hb1, hb2, hb3⟩, ⟨by show W.attrs.length ≤ 10; omega, fun l hl => Nat.le_succ_of_le (ha2 l hl)⟩, by rw [List.length_append, List.length_singleton]; omega, app_all ho2 (by simp)⟩, by omega⟩, rfl, rfl⟩
            | exact ⟨⟨W.bases, W.attrs ++ [[]], W.objs⟩, _, _, ⟨⟨⟨hb1, hb2, hb3⟩, ⟨by rw [List.length_append, List.length_singleton]; omega, app_all (fun l hl => Nat.le_succ_of_le (ha2 l hl)) (by simp)⟩, Nat.le_succ_of_le ho1, ho2⟩, by omega⟩, rfl, rfl⟩
            | exact ⟨⟨W.bases, W.attrs, W.objs⟩, _, _, ⟨⟨⟨hb1, hb2, hb3⟩, ⟨by show W.attrs.length ≤ 10; omega, fun l hl => Nat.le_succ_of_le (ha2 l hl)⟩, Nat.le_succ_of_le ho1, ho2⟩, by omega⟩, rfl, rfl⟩
        · refine sb_call 8 [0] hC rfl rfl (wnt_none rfl) Try.func99 rfl rfl rfl rfl rfl rfl rfl (one_sat (list := [_,_]) hc (by omega) (by simp) (by simp)) ?_
          rintro _ _ ⟨y18, hy18, rfl, rfl⟩
          refine ⟨Nat.le_of_ble_eq_true rfl, ⟨rfl, rfl, rfl, rfl⟩, .inl rfl, ?_⟩
          refine vb_stM ?_
          refine vb_light0 9 rfl rfl rfl (by kernel_rfl) (by kernel_rfl) (by kernel_rfl) (wnt_none rfl) (l0_build S31 rfl rfl) ?_
          refine vb_stM ?_
          refine vb_any2 1 10 (by kernel_rfl) ?_ ?_
          · refine sb_light 1 rfl rfl rfl (wnt_none rfl) (lb_load_var hC rfl rfl rfl rfl Try.underlying24 rfl rfl) ?_
            refine vb_ext 10 rfl (by kernel_rfl) rfl (xt_buildSlice E52 rfl rfl rfl rfl) ?_
            refine vb_stM ?_
            refine vb_one 11 rfl (by kernel_rfl) rfl ?_
            refine vo_appendU E52 rfl (by omega) rfl rfl rfl sd sd fun Rt11 => ?_
            refine vo_stM ?_
            try simp only [app_ints, app_intss, app_bools, app_attrs3]
            refine vo_done ⟨rfl, ?_⟩
            refine vb_light0 12 rfl rfl rfl (by kernel_rfl) (by kernel_rfl) (by kernel_rfl) (wnt_none rfl) (l0_index_ref rfl rfl rfl E24.und inf52 sz52 sd sd) ?_
            try simp only [Int.toNat_natCast]
            refine vb_one 13 rfl (by kernel_rfl) rfl ?_
            refine vo_totree 5 rfl ((by first | exact plain_nilO _ | exact plain_nil1 | exact plain_attrs _ | exact plain_pairsX _)) ?_
            refine vo_stM ?_
            refine vo_weaktree 5 rfl ?_
            refine vo_stM ?_
            refine vo_put (p := .sl _ _ _) rfl rfl rfl rfl rfl rfl rfl hC rfl (by first | decide | simp [refsOf]) inf52 sz52 sd ?_
            refine vo_stM ?_
            try simp only [List.set_set, set_attrss]
            refine vo_done ⟨rfl, ?_⟩
            refine vb_nil (by kernel_rfl) ?_
            refine hK3 _ ?_
            refine vc_seq fun K12 hK12 => ?_
            refine vc_region ?_
            refine vo_load_varG rfl rfl rfl Try.underlying27 rfl inf27 sz27 rfl ?_
            refine vo_stM ?_
            refine vo_store_varG rfl rfl rfl rfl inf27 sz27 rfl ?_
            refine vo_stM ?_
            refine vo_nil ?_
            refine hK12 _ ?_
            refine vc_treeown 2 (by omega) rfl ?_
            refine vc_stM ?_
            refine vc_expose 2 (by omega) rfl ?_
            refine vc_stM ?_
            refine vc_treeown 3 (by omega) rfl ?_
            refine vc_stM ?_
            refine vc_expose 3 (by omega) rfl ?_
            refine vc_stM ?_
            refine vc_ret ?_
            change retQ _ _ _ _ _
            refine retQ_sel [] (srows := []) (.inr rfl) hC rfl rfl rfl rfl rfl rfl rfl ?_
            first
              | exact ⟨⟨W.bases, W.attrs.set 0 (W.attrs.getD 0 [] ++ [⟨y18, 1, 0⟩]), W.objs⟩, _, _, ⟨⟨⟨hb1, hb2, hb3⟩, ⟨by rw [List.length_set]; omega, set_all (fun l hl => Nat.le_succ_of_le (ha2 l hl)) (by rw [List.length_append, List.length_singleton]; have := getD_all (p := fun l : List AttrM => l.length ≤ 3) ha2 [] (by simp) 0; omega) 0⟩, Nat.le_succ_of_le ho1, ho2⟩, by omega⟩, rfl, rfl⟩
              | exact ⟨⟨W.bases, W.attrs, W.objs ++ [⟨y29, []⟩]⟩, _, _, ⟨⟨⟨hb1, hb2, hb3⟩, ⟨by show W.attrs.length ≤ 10; omega, fun l hl => Nat.le_succ_of_le (ha2 l hl)⟩, by rw [List.length_append, List.length_singleton]; omega, app_all ho2 (by simp)⟩, by omega⟩, rfl, rfl⟩
              | exact ⟨⟨W.bases, W.attrs ++ [[]], W.objs⟩, _, _, ⟨⟨⟨hb1, hb2, hb3⟩, ⟨by rw [List.length_append, List.length_singleton]; omega, app_all (fun l hl => Nat.le_succ_of_le (ha2 l hl)) (by simp)⟩, Nat.le_succ_of_le ho1, ho2⟩, by omega⟩, rfl, rfl⟩
              | exact ⟨⟨W.bases, W.attrs, W.objs⟩, _, _, ⟨⟨⟨hb1, hb2, hb3⟩, ⟨by show W.attrs.length ≤ 10; omega, fun l hl => Nat.le_succ_of_le (ha2 l hl)⟩, Nat.le_succ_of_le ho1, ho2⟩, by omega⟩, rfl, rfl⟩
          · refine sb_ext 10 rfl rfl (xt_buildSlice E52 rfl rfl rfl rfl) ?_
            refine vb_stM ?_
            refine vb_any2 1 11 (by kernel_rfl) ?_ ?_
            · refine sb_light 1 rfl rfl rfl (wnt_none rfl) (lb_load_var hC rfl rfl rfl rfl Try.underlying24 rfl rfl) ?_
              refine vb_one 11 rfl (by kernel_rfl) rfl ?_
              refine vo_appendU E52 rfl (by omega) rfl rfl rfl sd sd fun Rt12 => ?_
              refine vo_stM ?_
              try simp only [app_ints, app_intss, app_bools, app_attrs3]
              refine vo_done ⟨rfl, ?_⟩
              refine vb_light0 12 rfl rfl rfl (by kernel_rfl) (by kernel_rfl) (by kernel_rfl) (wnt_none rfl) (l0_index_ref rfl rfl rfl E24.und inf52 sz52 sd sd) ?_
              try simp only [Int.toNat_natCast]
              refine vb_one 13 rfl (by kernel_rfl) rfl ?_
              refine vo_totree 5 rfl ((by first | exact plain_nilO _ | exact plain_nil1 | exact plain_attrs _ | exact plain_pairsX _)) ?_
              refine vo_stM ?_
              refine vo_weaktree 5 rfl ?_
              refine vo_stM ?_
              refine vo_put (p := .sl _ _ _) rfl rfl rfl rfl rfl rfl rfl hC rfl (by first | decide | simp [refsOf]) inf52 sz52 sd ?_
              refine vo_stM ?_
              try simp only [List.set_set, set_attrss]
              refine vo_done ⟨rfl, ?_⟩
              refine vb_nil (by kernel_rfl) ?_
              refine hK3 _ ?_
              refine vc_seq fun K13 hK13 => ?_
              refine vc_region ?_
              refine vo_load_varG rfl rfl rfl Try.underlying27 rfl inf27 sz27 rfl ?_
              refine vo_stM ?_
              refine vo_store_varG rfl rfl rfl rfl inf27 sz27 rfl ?_
              refine vo_stM ?_
              refine vo_nil ?_
              refine hK13 _ ?_
              refine vc_treeown 2 (by omega) rfl ?_
              refine vc_stM ?_
              refine vc_expose 2 (by omega) rfl ?_
              refine vc_stM ?_
              refine vc_treeown 3 (by omega) rfl ?_
              refine vc_stM ?_
              refine vc_expose 3 (by omega) rfl ?_
              refine vc_stM ?_
              refine vc_ret ?_
              change retQ _ _ _ _ _
              refine retQ_sel [] (srows := []) (.inr rfl) hC rfl rfl rfl rfl rfl rfl rfl ?_
              first
                | exact ⟨⟨W.bases, W.attrs.set 0 (W.attrs.getD 0 [] ++ [⟨y18, 1, 0⟩]), W.objs⟩, _, _, ⟨⟨⟨hb1, hb2, hb3⟩, ⟨by rw [List.length_set]; omega, set_all (fun l hl => Nat.le_succ_of_le (ha2 l hl)) (by rw [List.length_append, List.length_singleton]; have := getD_all (p := fun l : List AttrM => l.length ≤ 3) ha2 [] (by simp) 0; omega) 0⟩, Nat.le_succ_of_le ho1, ho2⟩, by omega⟩, rfl, rfl⟩
                | exact ⟨⟨W.bases, W.attrs, W.objs ++ [⟨y29, []⟩]⟩, _, _, ⟨⟨⟨hb1, hb2, hb3⟩, ⟨by show W.attrs.length ≤ 10; omega, fun l hl => Nat.le_succ_of_le (ha2 l hl)⟩, by rw [List.length_append, List.length_singleton]; omega, app_all ho2 (by simp)⟩, by omega⟩, rfl, rfl⟩
                | exact ⟨⟨W.bases, W.attrs ++ [[]], W.objs⟩, _, _, ⟨⟨⟨hb1, hb2, hb3⟩, ⟨by rw [List.length_append, List.length_singleton]; omega, app_all (fun l hl => Nat.le_succ_of_le (ha2 l hl)) (by simp)⟩, Nat.le_succ_of_le ho1, ho2⟩, by omega⟩, rfl, rfl⟩
                | exact ⟨⟨W.bases, W.attrs, W.objs⟩, _, _, ⟨⟨⟨hb1, hb2, hb3⟩, ⟨by show W.attrs.length ≤ 10; omega, fun l hl => Nat.le_succ_of_le (ha2 l hl)⟩, Nat.le_succ_of_le ho1, ho2⟩, by omega⟩, rfl, rfl⟩
            · refine sb_one 11 rfl (by kernel_rfl) ?_
              refine vo_appendU E52 rfl (by omega) rfl rfl rfl sd sd fun Rt13 => ?_
              refine vo_stM ?_
              try simp only [app_ints, app_intss, app_bools, app_attrs3]
              refine vo_done ⟨rfl, ?_⟩
              refine vb_any1 1 (by kernel_rfl) ?_
              refine sb_light 1 rfl rfl rfl (wnt_none rfl) (lb_load_var hC rfl rfl rfl rfl Try.underlying24 rfl rfl) ?_
              refine vb_light0 12 rfl rfl rfl (by kernel_rfl) (by kernel_rfl) (by kernel_rfl) (wnt_none rfl) (l0_index_ref rfl rfl rfl E24.und inf52 sz52 sd sd) ?_
              try simp only [Int.toNat_natCast]
              refine vb_one 13 rfl (by kernel_rfl) rfl ?_
              refine vo_totree 5 rfl ((by first | exact plain_nilO _ | exact plain_nil1 | exact plain_attrs _ | exact plain_pairsX _)) ?_
              refine vo_stM ?_
              refine vo_weaktree 5 rfl ?_
              refine vo_stM ?_
              refine vo_put (p := .sl _ _ _) rfl rfl rfl rfl rfl rfl rfl hC rfl (by first | decide | simp [refsOf]) inf52 sz52 sd ?_
              refine vo_stM ?_
              try simp only [List.set_set, set_attrss]
              refine vo_done ⟨rfl, ?_⟩
              refine vb_nil (by kernel_rfl) ?_
              refine hK3 _ ?_
              refine vc_seq fun K14 hK14 => ?_
              refine vc_region ?_
              refine vo_load_varG rfl rfl rfl Try.underlying27 rfl inf27 sz27 rfl ?_
              refine vo_stM ?_
              refine vo_store_varG rfl rfl rfl rfl inf27 sz27 rfl ?_
              refine vo_stM ?_
              refine vo_nil ?_
              refine hK14 _ ?_
              refine vc_treeown 2 (by omega) rfl ?_
              refine vc_stM ?_
              refine vc_expose 2 (by omega) rfl ?_
              refine vc_stM ?_
              refine vc_treeown 3 (by omega) rfl ?_
              refine vc_stM ?_
              refine vc_expose 3 (by omega) rfl ?_
              refine vc_stM ?_
              refine vc_ret ?_
              change retQ _ _ _ _ _
              refine retQ_sel [] (srows := []) (.inr rfl) hC rfl rfl rfl rfl rfl rfl rfl ?_
              first
                | exact ⟨⟨W.bases, W.attrs.set 0 (W.attrs.getD 0 [] ++ [⟨y18, 1, 0⟩]), W.objs⟩, _, _, ⟨⟨⟨hb1, hb2, hb3⟩, ⟨by rw [List.length_set]; omega, set_all (fun l hl => Nat.le_succ_of_le (ha2 l hl)) (by rw [List.length_append, List.length_singleton]; have := getD_all (p := fun l : List AttrM => l.length ≤ 3) ha2 [] (by simp) 0; omega) 0⟩, Nat.le_succ_of_le ho1, ho2⟩, by omega⟩, rfl, rfl⟩
                | exact ⟨⟨W.bases, W.attrs, W.objs ++ [⟨y29, []⟩]⟩, _, _, ⟨⟨⟨hb1, hb2, hb3⟩, ⟨by show W.attrs.length ≤ 10; omega, fun l hl => Nat.le_succ_of_le (ha2 l hl)⟩, by rw [List.length_append, List.length_singleton]; omega, app_all ho2 (by simp)⟩, by omega⟩, rfl, rfl⟩
                | exact ⟨⟨W.bases, W.attrs ++ [[]], W.objs⟩, _, _, ⟨⟨⟨hb1, hb2, hb3⟩, ⟨by rw [List.length_append, List.length_singleton]; omega, app_all (fun l hl => Nat.le_succ_of_le (ha2 l hl)) (by simp)⟩, Nat.le_succ_of_le ho1, ho2⟩, by omega⟩, rfl, rfl⟩
                | exact ⟨⟨W.bases, W.attrs, W.objs⟩, _, _, ⟨⟨⟨hb1, hb2, hb3⟩, ⟨by show W.attrs.length ≤ 10; omega, fun l hl => Nat.le_succ_of_le (ha2 l hl)⟩, Nat.le_succ_of_le ho1, ho2⟩, by omega⟩, rfl, rfl⟩
    · refine sb_ext 7 rfl rfl (xt_buildSlice E34 rfl rfl rfl rfl) ?_
      refine vb_stM ?_
      refine vb_expose 5 (by omega) rfl ?_
      refine vb_stM ?_
      refine vb_weaken 17 rfl ?_
      refine vb_stM ?_
      refine vb_any3 1 5 8 (by kernel_rfl) ?_ ?_ ?_
      · refine sb_light 1 rfl rfl rfl (wnt_none rfl) (lb_load_var hC rfl rfl rfl rfl Try.underlying24 rfl rfl) ?_
        refine vb_any2 5 8 (by kernel_rfl) ?_ ?_
        · refine sb_extE 5 rfl (fun _ => rfl) (xt_load_take1 rfl rfl (by omega) Try.underlying52 rfl (attrs_at0 (by omega))) fun Rf15 => ?_
          refine vb_stM ?_
          refine vb_treeown 6 (by omega) rfl ?_
          refine vb_stM ?_
          refine vb_any1 8 (by kernel_rfl) ?_
          refine sb_call 8 [0] hC rfl rfl (wnt_none rfl) Try.func99 rfl rfl rfl rfl rfl rfl rfl (one_sat (list := [_,_]) hc (by omega) (by simp) (by simp)) ?_
          rintro _ _ ⟨y18, hy18, rfl, rfl⟩
          refine ⟨Nat.le_of_ble_eq_true rfl, ⟨rfl, rfl, rfl, rfl⟩, .inl rfl, ?_⟩
          refine vb_stM ?_
          refine vb_light0 9 rfl rfl rfl (by kernel_rfl) (by kernel_rfl) (by kernel_rfl) (wnt_none rfl) (l0_build S31 rfl rfl) ?_
          refine vb_stM ?_
          refine vb_ext 10 rfl (by kernel_rfl) rfl (xt_buildSlice E52 rfl rfl rfl rfl) ?_
          refine vb_stM ?_
          refine vb_one 11 rfl (by kernel_rfl) rfl ?_
          refine vo_appendU E52 rfl (by omega) rfl rfl rfl sd sd fun Rt14 => ?_
          refine vo_stM ?_
          try simp only [app_ints, app_intss, app_bools, app_attrs3]
          refine vo_done ⟨rfl, ?_⟩
          refine vb_light0 12 rfl rfl rfl (by kernel_rfl) (by kernel_rfl) (by kernel_rfl) (wnt_none rfl) (l0_index_ref rfl rfl rfl E24.und inf52 sz52 sd sd) ?_
          try simp only [Int.toNat_natCast]
          refine vb_one 13 rfl (by kernel_rfl) rfl ?_
          refine vo_totree 6 rfl ((by first | exact plain_nilO _ | exact plain_nil1 | exact plain_attrs _ | exact plain_pairsX _)) ?_
          refine vo_stM ?_
          refine vo_weaktree 6 rfl ?_
          refine vo_stM ?_
          refine vo_put (p := .sl _ _ _) rfl rfl rfl rfl rfl rfl rfl hC rfl (by first | decide | simp [refsOf]) inf52 sz52 sd ?_
          refine vo_stM ?_
          try simp only [List.set_set, set_attrss]
          refine vo_done ⟨rfl, ?_⟩
          refine vb_nil (by kernel_rfl) ?_
          refine hK3 _ ?_
          refine vc_seq fun K15 hK15 => ?_
          refine vc_region ?_
          refine vo_load_varG rfl rfl rfl Try.underlying27 rfl inf27 sz27 rfl ?_
          refine vo_stM ?_
          refine vo_store_varG rfl rfl rfl rfl inf27 sz27 rfl ?_
          refine vo_stM ?_
          refine vo_nil ?_
          refine hK15 _ ?_
          refine vc_treeown 2 (by omega) rfl ?_
          refine vc_stM ?_
          refine vc_expose 2 (by omega) rfl ?_
          refine vc_stM ?_
          refine vc_treeown 3 (by omega) rfl ?_
          refine vc_stM ?_
          refine vc_expose 3 (by omega) rfl ?_
          refine vc_stM ?_
          refine vc_ret ?_
          change retQ _ _ _ _ _
          refine retQ_sel [] (srows := []) (.inr rfl) hC rfl rfl rfl rfl rfl rfl rfl ?_
          first
            | exact ⟨⟨W.bases, W.attrs.set 0 (W.attrs.getD 0 [] ++ [⟨y18, 1, 0⟩]), W.objs⟩, _, _, ⟨⟨⟨hb1, hb2, hb3⟩, ⟨by rw [List.length_set]; omega, set_all (fun l hl => Nat.le_succ_of_le (ha2 l hl)) (by rw [List.length_append, List.length_singleton]; have := getD_all (p := fun l : List AttrM => l.length ≤ 3) ha2 [] (by simp) 0; omega) 0⟩, Nat.le_succ_of_le ho1, ho2⟩, by omega⟩, rfl, rfl⟩
            | exact ⟨⟨W.bases, W.attrs, W.objs ++ [⟨y29, []⟩]⟩, _, _, ⟨⟨⟨hb1, hb2, hb3⟩, ⟨by show W.attrs.length ≤ 10; omega, fun l hl => Nat.le_succ_of_le (ha2 l hl)⟩, by rw [List.length_append, List.length_singleton]; omega, app_all ho2 (by simp)⟩, by omega⟩, rfl, rfl⟩
            | exact ⟨⟨W.bases, W.attrs ++ [[]], W.objs⟩, _, _, ⟨⟨⟨hb1, hb2, hb3⟩, ⟨by rw [List.length_append, List.length_singleton]; omega, app_all (fun l hl => Nat.le_succ_of_le (ha2 l hl)) (by simp)⟩, Nat.le_succ_of_le ho1, ho2⟩, by omega⟩, rfl, rfl⟩
            | exact ⟨⟨W.bases, W.attrs, W.objs⟩, _, _, ⟨⟨⟨hb1, hb2, hb3⟩, ⟨by show W.attrs.length ≤ 10; omega, fun l hl => Nat.le_succ_of_le (ha2 l hl)⟩, Nat.le_succ_of_le ho1, ho2⟩, by omega⟩, rfl, rfl⟩
        · refine sb_call 8 [0] hC rfl rfl (wnt_none rfl) Try.func99 rfl rfl rfl rfl rfl rfl rfl (one_sat (list := [_,_]) hc (by omega) (by simp) (by simp)) ?_
          rintro _ _ ⟨y18, hy18, rfl, rfl⟩
          refine ⟨Nat.le_of_ble_eq_true rfl, ⟨rfl, rfl, rfl, rfl⟩, .inl rfl, ?_⟩
          refine vb_stM ?_
          refine vb_light0 9 rfl rfl rfl (by kernel_rfl) (by kernel_rfl) (by kernel_rfl) (wnt_none rfl) (l0_build S31 rfl rfl) ?_
          refine vb_stM ?_
          refine vb_any2 5 10 (by kernel_rfl) ?_ ?_
          · refine sb_extE 5 rfl (fun _ => rfl) (xt_load_take1 rfl rfl (by omega) Try.underlying52 rfl (attrs_at0 (by omega))) fun Rf15 => ?_
            refine vb_stM ?_
            refine vb_treeown 6 (by omega) rfl ?_
            refine vb_stM ?_
            refine vb_ext 10 rfl (by kernel_rfl) rfl (xt_buildSlice E52 rfl rfl rfl rfl) ?_
            refine vb_stM ?_
            refine vb_one 11 rfl (by kernel_rfl) rfl ?_
            refine vo_appendU E52 rfl (by omega) rfl rfl rfl sd sd fun Rt15 => ?_
            refine vo_stM ?_
            try simp only [app_ints, app_intss, app_bools, app_attrs3]
            refine vo_done ⟨rfl, ?_⟩
            refine vb_light0 12 rfl rfl rfl (by kernel_rfl) (by kernel_rfl) (by kernel_rfl) (wnt_none rfl) (l0_index_ref rfl rfl rfl E24.und inf52 sz52 sd sd) ?_
            try simp only [Int.toNat_natCast]
            refine vb_one 13 rfl (by kernel_rfl) rfl ?_
            refine vo_totree 6 rfl ((by first | exact plain_nilO _ | exact plain_nil1 | exact plain_attrs _ | exact plain_pairsX _)) ?_
            refine vo_stM ?_
            refine vo_weaktree 6 rfl ?_
            refine vo_stM ?_
            refine vo_put (p := .sl _ _ _) rfl rfl rfl rfl rfl rfl rfl hC rfl (by first | decide | simp [refsOf]) inf52 sz52 sd ?_
            refine vo_stM ?_
            try simp only [List.set_set, set_attrss]
            refine vo_done ⟨rfl, ?_⟩
            refine vb_nil (by kernel_rfl) ?_
            refine hK3 _ ?_
            refine vc_seq fun K16 hK16 => ?_
            refine vc_region ?_
            refine vo_load_varG rfl rfl rfl Try.underlying27 rfl inf27 sz27 rfl ?_
            refine vo_stM ?_
            refine vo_store_varG rfl rfl rfl rfl inf27 sz27 rfl ?_
            refine vo_stM ?_
            refine vo_nil ?_
            refine hK16 _ ?_
            refine vc_treeown 2 (by omega) rfl ?_
            refine vc_stM ?_
            refine vc_expose 2 (by omega) rfl ?_
            refine vc_stM ?_
            refine vc_treeown 3 (by omega) rfl ?_
            refine vc_stM ?_
            refine vc_expose 3 (by omega) rfl ?_
            refine vc_stM ?_
            refine vc_ret ?_
            change retQ _ _ _ _ _
            refine retQ_sel [] (srows := []) (.inr rfl) hC rfl rfl rfl rfl rfl rfl rfl ?_
            first
              | exact ⟨⟨W.bases, W.attrs.set 0 (W.attrs.getD 0 [] ++ [⟨y18, 1, 0⟩]), W.objs⟩, _, _, ⟨⟨⟨hb1, hb2, hb3⟩, ⟨by rw [List.length_set]; omega, set_all (fun l hl => Nat.le_succ_of_le (ha2 l hl)) (by rw [List.length_append, List.length_singleton]; have := getD_all (p := fun l : List AttrM => l.length ≤ 3) ha2 [] (by simp) 0; omega) 0⟩, Nat.le_succ_of_le ho1, ho2⟩, by omega⟩, rfl, rfl⟩
              | exact ⟨⟨W.bases, W.attrs, W.objs ++ [⟨y29, []⟩]⟩, _, _, ⟨⟨⟨hb1, hb2, hb3⟩, ⟨by show W.attrs.length ≤ 10; omega, fun l hl => Nat.le_succ_of_le (ha2 l hl)⟩, by rw [List.length_append, List.length_singleton]; omega, app_all ho2 (by simp)⟩, by omega⟩, rfl, rfl⟩
              | exact ⟨⟨W.bases, W.attrs ++ [[]], W.objs⟩, _, _, ⟨⟨⟨hb1, hb2, hb3⟩, ⟨by rw [List.length_append, List.length_singleton]; omega, app_all (fun l hl => Nat.le_succ_of_le (ha2 l hl)) (by simp)⟩, Nat.le_succ_of_le ho1, ho2⟩, by omega⟩, rfl, rfl⟩
              | exact ⟨⟨W.bases, W.attrs, W.objs⟩, _, _, ⟨⟨⟨hb1, hb2, hb3⟩, ⟨by show W.attrs.length ≤ 10; omega, fun l hl => Nat.le_succ_of_le (ha2 l hl)⟩, Nat.le_succ_of_le ho1, ho2⟩, by omega⟩, rfl, rfl⟩
          · refine sb_ext 10 rfl rfl (xt_buildSlice E52 rfl rfl rfl rfl) ?_
            refine vb_stM ?_
            refine vb_any1 5 (by kernel_rfl) ?_
            refine sb_extE 5 rfl (fun _ => rfl) (xt_load_take1 rfl rfl (by omega) Try.underlying52 rfl (attrs_at0 (by omega))) fun Rf15 => ?_
            refine vb_stM ?_
            refine vb_treeown 7 (by omega) rfl ?_
            refine vb_stM ?_
            refine vb_one 11 rfl (by kernel_rfl) rfl ?_
            refine vo_appendU E52 rfl (by omega) rfl rfl rfl sd sd fun Rt16 => ?_
            refine vo_stM ?_
            try simp only [app_ints, app_intss, app_bools, app_attrs3]
            refine vo_done ⟨rfl, ?_⟩
            refine vb_light0 12 rfl rfl rfl (by kernel_rfl) (by kernel_rfl) (by kernel_rfl) (wnt_none rfl) (l0_index_ref rfl rfl rfl E24.und inf52 sz52 sd sd) ?_
            try simp only [Int.toNat_natCast]
            refine vb_one 13 rfl (by kernel_rfl) rfl ?_
            refine vo_totree 7 rfl ((by first | exact plain_nilO _ | exact plain_nil1 | exact plain_attrs _ | exact plain_pairsX _)) ?_
            refine vo_stM ?_
            refine vo_weaktree 7 rfl ?_
            refine vo_stM ?_
            refine vo_put (p := .sl _ _ _) rfl rfl rfl rfl rfl rfl rfl hC rfl (by first | decide | simp [refsOf]) inf52 sz52 sd ?_
            refine vo_stM ?_
            try simp only [List.set_set, set_attrss]
            refine vo_done ⟨rfl, ?_⟩
            refine vb_nil (by kernel_rfl) ?_
            refine hK3 _ ?_
            refine vc_seq fun K17 hK17 => ?_
            refine vc_region ?_
            refine vo_load_varG rfl rfl rfl Try.underlying27 rfl inf27 sz27 rfl ?_
            refine vo_stM ?_
            refine vo_store_varG rfl rfl rfl rfl inf27 sz27 rfl ?_
            refine vo_stM ?_
            refine vo_nil ?_
            refine hK17 _ ?_
            refine vc_treeown 2 (by omega) rfl ?_
            refine vc_stM ?_
            refine vc_expose 2 (by omega) rfl ?_
            refine vc_stM ?_
            refine vc_treeown 3 (by omega) rfl ?_
            refine vc_stM ?_
            refine vc_expose 3 (by omega) rfl ?_
            refine vc_stM ?_
            refine vc_ret ?_
            change retQ _ _ _ _ _
            refine retQ_sel [] (srows := []) (.inr rfl) hC rfl rfl rfl rfl rfl rfl rfl ?_
            first
              | exact ⟨⟨W.bases, W.attrs.set 0 (W.attrs.getD 0 [] ++ [⟨y18, 1, 0⟩]), W.objs⟩, _, _, ⟨⟨⟨hb1, hb2, hb3⟩, ⟨by rw [List.length_set]; omega, set_all (fun l hl => Nat.le_succ_of_le (ha2 l hl)) (by rw [List.length_append, List.length_singleton]; have := getD_all (p := fun l : List AttrM => l.length ≤ 3) ha2 [] (by simp) 0; omega) 0⟩, Nat.le_succ_of_le ho1, ho2⟩, by omega⟩, rfl, rfl⟩
              | exact ⟨⟨W.bases, W.attrs, W.objs ++ [⟨y29, []⟩]⟩, _, _, ⟨⟨⟨hb1, hb2, hb3⟩, ⟨by show W.attrs.length ≤ 10; omega, fun l hl => Nat.le_succ_of_le (ha2 l hl)⟩, by rw [List.length_append, List.length_singleton]; omega, app_all ho2 (by simp)⟩, by omega⟩, rfl, rfl⟩
              | exact ⟨⟨W.bases, W.attrs ++ [[]], W.objs⟩, _, _, ⟨⟨⟨hb1, hb2, hb3⟩, ⟨by rw [List.length_append, List.length_singleton]; omega, app_all (fun l hl => Nat.le_succ_of_le (ha2 l hl)) (by simp)⟩, Nat.le_succ_of_le ho1, ho2⟩, by omega⟩, rfl, rfl⟩
              | exact ⟨⟨W.bases, W.attrs, W.objs⟩, _, _, ⟨⟨⟨hb1, hb2, hb3⟩, ⟨by show W.attrs.length ≤ 10; omega, fun l hl => Nat.le_succ_of_le (ha2 l hl)⟩, Nat.le_succ_of_le ho1, ho2⟩, by omega⟩, rfl, rfl⟩
      · refine sb_extE 5 rfl (fun _ => rfl) (xt_load_take1 rfl rfl (by omega) Try.underlying52 rfl (attrs_at0 (by omega))) fun Rf15 => ?_
        refine vb_stM ?_
        refine vb_treeown 6 (by omega) rfl ?_
        refine vb_stM ?_
        refine vb_any2 1 8 (by kernel_rfl) ?_ ?_
        · refine sb_light 1 rfl rfl rfl (wnt_none rfl) (lb_load_var hC rfl rfl rfl rfl Try.underlying24 rfl rfl) ?_
          refine vb_any1 8 (by kernel_rfl) ?_
          refine sb_call 8 [0] hC rfl rfl (wnt_none rfl) Try.func99 rfl rfl rfl rfl rfl rfl rfl (one_sat (list := [_,_]) hc (by omega) (by simp) (by simp)) ?_
          rintro _ _ ⟨y18, hy18, rfl, rfl⟩
          refine ⟨Nat.le_of_ble_eq_true rfl, ⟨rfl, rfl, rfl, rfl⟩, .inl rfl, ?_⟩
          refine vb_stM ?_
          refine vb_light0 9 rfl rfl rfl (by kernel_rfl) (by kernel_rfl) (by kernel_rfl) (wnt_none rfl) (l0_build S31 rfl rfl) ?_
          refine vb_stM ?_
          refine vb_ext 10 rfl (by kernel_rfl) rfl (xt_buildSlice E52 rfl rfl rfl rfl) ?_
          refine vb_stM ?_
          refine vb_one 11 rfl (by kernel_rfl) rfl ?_
          refine vo_appendU E52 rfl (by omega) rfl rfl rfl sd sd fun Rt17 => ?_
          refine vo_stM ?_
          try simp only [app_ints, app_intss, app_bools, app_attrs3]
          refine vo_done ⟨rfl, ?_⟩
          refine vb_light0 12 rfl rfl rfl (by kernel_rfl) (by kernel_rfl) (by kernel_rfl) (wnt_none rfl) (l0_index_ref rfl rfl rfl E24.und inf52 sz52 sd sd) ?_
          try simp only [Int.toNat_natCast]
          refine vb_one 13 rfl (by kernel_rfl) rfl ?_
          refine vo_totree 6 rfl ((by first | exact plain_nilO _ | exact plain_nil1 | exact plain_attrs _ | exact plain_pairsX _)) ?_
          refine vo_stM ?_
          refine vo_weaktree 6 rfl ?_
          refine vo_stM ?_
          refine vo_put (p := .sl _ _ _) rfl rfl rfl rfl rfl rfl rfl hC rfl (by first | decide | simp [refsOf]) inf52 sz52 sd ?_
          refine vo_stM ?_
          try simp only [List.set_set, set_attrss]
          refine vo_done ⟨rfl, ?_⟩
          refine vb_nil (by kernel_rfl) ?_
          refine hK3 _ ?_
          refine vc_seq fun K18 hK18 => ?_
          refine vc_region ?_
          refine vo_load_varG rfl rfl rfl Try.underlying27 rfl inf27 sz27 rfl ?_
          refine vo_stM ?_
          refine vo_store_varG rfl rfl rfl rfl inf27 sz27 rfl ?_
          refine vo_stM ?_
          refine vo_nil ?_
          refine hK18 _ ?_
          refine vc_treeown 2 (by omega) rfl ?_
          refine vc_stM ?_
          refine vc_expose 2 (by omega) rfl ?_
          refine vc_stM ?_
          refine vc_treeown 3 (by omega) rfl ?_
          refine vc_stM ?_
          refine vc_expose 3 (by omega) rfl ?_
          refine vc_stM ?_
          refine vc_ret ?_
          change retQ _ _ _ _ _
          refine retQ_sel [] (srows := []) (.inr rfl) hC rfl rfl rfl rfl rfl rfl rfl ?_
          first
            | exact ⟨⟨W.bases, W.attrs.set 0 (W.attrs.getD 0 [] ++ [⟨y18, 1, 0⟩]), W.objs⟩, _, _, ⟨⟨⟨hb1, hb2, hb3⟩, ⟨by rw [List.length_set]; omega, set_all (fun l hl => Nat.le_succ_of_le (ha2 l hl)) (by rw [List.length_append, List.length_singleton]; have := getD_all (p := fun l : List AttrM => l.length ≤ 3) ha2 [] (by simp) 0; omega) 0⟩, Nat.le_succ_of_le ho1, ho2⟩, by omega⟩, rfl, rfl⟩
            | exact ⟨⟨W.bases, W.attrs, W.objs ++ [⟨y29, []⟩]⟩, _, _, ⟨⟨⟨hb1, hb2, hb3⟩, ⟨by show W.attrs.length ≤ 10; omega, fun l hl => Nat.le_succ_of_le (ha2 l hl)⟩, by rw [List.length_append, List.length_singleton]; omega, app_all ho2 (by simp)⟩, by omega⟩, rfl, rfl⟩
            | exact ⟨⟨W.bases, W.attrs ++ [[]], W.objs⟩, _, _, ⟨⟨⟨hb1, hb2, hb3⟩, ⟨by rw [List.length_append, List.length_singleton]; omega, app_all (fun l hl => Nat.le_succ_of_le (ha2 l hl)) (by simp)⟩, Nat.le_succ_of_le ho1, ho2⟩, by omega⟩, rfl, rfl⟩
            | exact ⟨⟨W.bases, W.attrs, W.objs⟩, _, _, ⟨⟨⟨hb1, hb2, hb3⟩, ⟨by show W.attrs.length ≤ 10; omega, fun l hl => Nat.le_succ_of_le (ha2 l hl)⟩, Nat.le_succ_of_le ho1, ho2⟩, by omega⟩, rfl, rfl⟩
        · refine sb_call 8 [0] hC rfl rfl (wnt_none rfl) Try.func99 rfl rfl rfl rfl rfl rfl rfl (one_sat (list := [_,_]) hc (by omega) (by simp) (by simp)) ?_
          rintro _ _ ⟨y18, hy18, rfl, rfl⟩
          refine ⟨Nat.le_of_ble_eq_true rfl, ⟨rfl, rfl, rfl, rfl⟩, .inl rfl, ?_⟩
          refine vb_stM ?_
          refine vb_light0 9 rfl rfl rfl (by kernel_rfl) (by kernel_rfl) (by kernel_rfl) (wnt_none rfl) (l0_build S31 rfl rfl) ?_
          refine vb_stM ?_
          refine vb_any2 1 10 (by kernel_rfl) ?_ ?_
          · refine sb_light 1 rfl rfl rfl (wnt_none rfl) (lb_load_var hC rfl rfl rfl rfl Try.underlying24 rfl rfl) ?_
            refine vb_ext 10 rfl (by kernel_rfl) rfl (xt_buildSlice E52 rfl rfl rfl rfl) ?_
            refine vb_stM ?_
            refine vb_one 11 rfl (by kernel_rfl) rfl ?_
            refine vo_appendU E52 rfl (by omega) rfl rfl rfl sd sd fun Rt18 => ?_
            refine vo_stM ?_
            try simp only [app_ints, app_intss, app_bools, app_attrs3]
            refine vo_done ⟨rfl, ?_⟩
            refine vb_light0 12 rfl rfl rfl (by kernel_rfl) (by kernel_rfl) (by kernel_rfl) (wnt_none rfl) (l0_index_ref rfl rfl rfl E24.und inf52 sz52 sd sd) ?_
            try simp only [Int.toNat_natCast]
            refine vb_one 13 rfl (by kernel_rfl) rfl ?_
            refine vo_totree 6 rfl ((by first | exact plain_nilO _ | exact plain_nil1 | exact plain_attrs _ | exact plain_pairsX _)) ?_
            refine vo_stM ?_
            refine vo_weaktree 6 rfl ?_
            refine vo_stM ?_
            refine vo_put (p := .sl _ _ _) rfl rfl rfl rfl rfl rfl rfl hC rfl (by first | decide | simp [refsOf]) inf52 sz52 sd ?_
            refine vo_stM ?_
            try simp only [List.set_set, set_attrss]
            refine vo_done ⟨rfl, ?_⟩
            refine vb_nil (by kernel_rfl) ?_
            refine hK3 _ ?_
            refine vc_seq fun K19 hK19 => ?_
            refine vc_region ?_
            refine vo_load_varG rfl rfl rfl Try.underlying27 rfl inf27 sz27 rfl ?_
            refine vo_stM ?_
            refine vo_store_varG rfl rfl rfl rfl inf27 sz27 rfl ?_
            refine vo_stM ?_
            refine vo_nil ?_
            refine hK19 _ ?_
            refine vc_treeown 2 (by omega) rfl ?_
            refine vc_stM ?_
            refine vc_expose 2 (by omega) rfl ?_
            refine vc_stM ?_
            refine vc_treeown 3 (by omega) rfl ?_
            refine vc_stM ?_
            refine vc_expose 3 (by omega) rfl ?_
            refine vc_stM ?_
            refine vc_ret ?_
            change retQ _ _ _ _ _
            refine retQ_sel [] (srows := []) (.inr rfl) hC rfl rfl rfl rfl rfl rfl rfl ?_
            first
              | exact ⟨⟨W.bases, W.attrs.set 0 (W.attrs.getD 0 [] ++ [⟨y18, 1, 0⟩]), W.objs⟩, _, _, ⟨⟨⟨hb1, hb2, hb3⟩, ⟨by rw [List.length_set]; omega, set_all (fun l hl => Nat.le_succ_of_le (ha2 l hl)) (by rw [List.length_append, List.length_singleton]; have := getD_all (p := fun l : List AttrM => l.length ≤ 3) ha2 [] (by simp) 0; omega) 0⟩, Nat.le_succ_of_le ho1, ho2⟩, by omega⟩, rfl, rfl⟩
              | exact ⟨⟨W.bases, W.attrs, W.objs ++ [⟨y29, []⟩]⟩, _, _, ⟨⟨⟨hb1, hb2, hb3⟩, ⟨by show W.attrs.length ≤ 10; omega, fun l hl => Nat.le_succ_of_le (ha2 l hl)⟩, by rw [List.length_append, List.length_singleton]; omega, app_all ho2 (by simp)⟩, by omega⟩, rfl, rfl⟩
              | exact ⟨⟨W.bases, W.attrs ++ [[]], W.objs⟩, _, _, ⟨⟨⟨hb1, hb2, hb3⟩, ⟨by rw [List.length_append, List.length_singleton]; omega, app_all (fun l hl => Nat.le_succ_of_le (ha2 l hl)) (by simp)⟩, Nat.le_succ_of_le ho1, ho2⟩, by omega⟩, rfl, rfl⟩
              | exact ⟨⟨W.bases, W.attrs, W.objs⟩, _, _, ⟨⟨⟨hb1, hb2, hb3⟩, ⟨by show W.attrs.length ≤ 10; omega, fun l hl => Nat.le_succ_of_le (ha2 l hl)⟩, Nat.le_succ_of_le ho1, ho2⟩, by omega⟩, rfl, rfl⟩
          · refine sb_ext 10 rfl rfl (xt_buildSlice E52 rfl rfl rfl rfl) ?_
            refine vb_stM ?_
            refine vb_any2 1 11 (by kernel_rfl) ?_ ?_
            · refine sb_light 1 rfl rfl rfl (wnt_none rfl) (lb_load_var hC rfl rfl rfl rfl Try.underlying24 rfl rfl) ?_
              refine vb_one 11 rfl (by kernel_rfl) rfl ?_
              refine vo_appendU E52 rfl (by omega) rfl rfl rfl sd sd fun Rt19 => ?_
              refine vo_stM ?_
              try simp only [app_ints, app_intss, app_bools, app_attrs3]
              refine vo_done ⟨rfl, ?_⟩
              refine vb_light0 12 rfl rfl rfl (by kernel_rfl) (by kernel_rfl) (by kernel_rfl) (wnt_none rfl) (l0_index_ref rfl rfl rfl E24.und inf52 sz52 sd sd) ?_
              try simp only [Int.toNat_natCast]
              refine vb_one 13 rfl (by kernel_rfl) rfl ?_
              refine vo_totree 6 rfl ((by first | exact plain_nilO _ | exact plain_nil1 | exact plain_attrs _ | exact plain_pairsX _)) ?_
              refine vo_stM ?_
              refine vo_weaktree 6 rfl ?_
              refine vo_stM ?_
              refine vo_put (p := .sl _ _ _) rfl rfl rfl rfl rfl rfl rfl hC rfl (by first | decide | simp [refsOf]) inf52 sz52 sd ?_
              refine vo_stM ?_
              try simp only [List.set_set, set_attrss]
              refine vo_done ⟨rfl, ?_⟩
              refine vb_nil (by kernel_rfl) ?_
              refine hK3 _ ?_
              refine vc_seq fun K20 hK20 => ?_
              refine vc_region ?_
              refine vo_load_varG rfl rfl rfl Try.underlying27 rfl inf27 sz27 rfl ?_
              refine vo_stM ?_
              refine vo_store_varG rfl rfl rfl rfl inf27 sz27 rfl ?_
              refine vo_stM ?_
              refine vo_nil ?_
              refine hK20 _ ?_
              refine vc_treeown 2 (by omega) rfl ?_
              refine vc_stM ?_
              refine vc_expose 2 (by omega) rfl ?_
              refine vc_stM ?_
              refine vc_treeown 3 (by omega) rfl ?_
              refine vc_stM ?_
              refine vc_expose 3 (by omega) rfl ?_
              refine vc_stM ?_
              refine vc_ret ?_
              change retQ _ _ _ _ _
              refine retQ_sel [] (srows := []) (.inr rfl) hC rfl rfl rfl rfl rfl rfl rfl ?_
              first
                | exact ⟨⟨W.bases, W.attrs.set 0 (W.attrs.getD 0 [] ++ [⟨y18, 1, 0⟩]), W.objs⟩, _, _, ⟨⟨⟨hb1, hb2, hb3⟩, ⟨by rw [List.length_set]; omega, set_all (fun l hl => Nat.le_succ_of_le (ha2 l hl)) (by rw [List.length_append, List.length_singleton]; have := getD_all (p := fun l : List AttrM => l.length ≤ 3) ha2 [] (by simp) 0; omega) 0⟩, Nat.le_succ_of_le ho1, ho2⟩, by omega⟩, rfl, rfl⟩
                | exact ⟨⟨W.bases, W.attrs, W.objs ++ [⟨y29, []⟩]⟩, _, _, ⟨⟨⟨hb1, hb2, hb3⟩, ⟨by show W.attrs.length ≤ 10; omega, fun l hl => Nat.le_succ_of_le (ha2 l hl)⟩, by rw [List.length_append, List.length_singleton]; omega, app_all ho2 (by simp)⟩, by omega⟩, rfl, rfl⟩
                | exact ⟨⟨W.bases, W.attrs ++ [[]], W.objs⟩, _, _, ⟨⟨⟨hb1, hb2, hb3⟩, ⟨by rw [List.length_append, List.length_singleton]; omega, app_all (fun l hl => Nat.le_succ_of_le (ha2 l hl)) (by simp)⟩, Nat.le_succ_of_le ho1, ho2⟩, by omega⟩, rfl, rfl⟩
                | exact ⟨⟨W.bases, W.attrs, W.objs⟩, _, _, ⟨⟨⟨hb1, hb2, hb3⟩, ⟨by show W.attrs.length ≤ 10; omega, fun l hl => Nat.le_succ_of_le (ha2 l hl)⟩, Nat.le_succ_of_le ho1, ho2⟩, by omega⟩, rfl, rfl⟩
            · refine sb_one 11 rfl (by kernel_rfl) ?_
              refine vo_appendU E52 rfl (by omega) rfl rfl rfl sd sd fun Rt20 => ?_
              refine vo_stM ?_
              try simp only [app_ints, app_intss, app_bools, app_attrs3]
              refine vo_done ⟨rfl, ?_⟩
              refine vb_any1 1 (by kernel_rfl) ?_
              refine sb_light 1 rfl rfl rfl (wnt_none rfl) (lb_load_var hC rfl rfl rfl rfl Try.underlying24 rfl rfl) ?_
              refine vb_light0 12 rfl rfl rfl (by kernel_rfl) (by kernel_rfl) (by kernel_rfl) (wnt_none rfl) (l0_index_ref rfl rfl rfl E24.und inf52 sz52 sd sd) ?_
              try simp only [Int.toNat_natCast]
              refine vb_one 13 rfl (by kernel_rfl) rfl ?_
              refine vo_totree 6 rfl ((by first | exact plain_nilO _ | exact plain_nil1 | exact plain_attrs _ | exact plain_pairsX _)) ?_
              refine vo_stM ?_
              refine vo_weaktree 6 rfl ?_
              refine vo_stM ?_
              refine vo_put (p := .sl _ _ _) rfl rfl rfl rfl rfl rfl rfl hC rfl (by first | decide | simp [refsOf]) inf52 sz52 sd ?_
              refine vo_stM ?_
              try simp only [List.set_set, set_attrss]
              refine vo_done ⟨rfl, ?_⟩
              refine vb_nil (by kernel_rfl) ?_
              refine hK3 _ ?_
              refine vc_seq fun K21 hK21 => ?_
              refine vc_region ?_
              refine vo_load_varG rfl rfl rfl Try.underlying27 rfl inf27 sz27 rfl ?_
              refine vo_stM ?_
              refine vo_store_varG rfl rfl rfl rfl inf27 sz27 rfl ?_
              refine vo_stM ?_
              refine vo_nil ?_
              refine hK21 _ ?_
              refine vc_treeown 2 (by omega) rfl ?_
              refine vc_stM ?_
              refine vc_expose 2 (by omega) rfl ?_
              refine vc_stM ?_
              refine vc_treeown 3 (by omega) rfl ?_
              refine vc_stM ?_
              refine vc_expose 3 (by omega) rfl ?_
              refine vc_stM ?_
              refine vc_ret ?_
              change retQ _ _ _ _ _
              refine retQ_sel [] (srows := []) (.inr rfl) hC rfl rfl rfl rfl rfl rfl rfl ?_
              first
                | exact ⟨⟨W.bases, W.attrs.set 0 (W.attrs.getD 0 [] ++ [⟨y18, 1, 0⟩]), W.objs⟩, _, _, ⟨⟨⟨hb1, hb2, hb3⟩, ⟨by rw [List.length_set]; omega, set_all (fun l hl => Nat.le_succ_of_le (ha2 l hl)) (by rw [List.length_append, List.length_singleton]; have := getD_all (p := fun l : List AttrM => l.length ≤ 3) ha2 [] (by simp) 0; omega) 0⟩, Nat.le_succ_of_le ho1, ho2⟩, by omega⟩, rfl, rfl⟩
                | exact ⟨⟨W.bases, W.attrs, W.objs ++ [⟨y29, []⟩]⟩, _, _, ⟨⟨⟨hb1, hb2, hb3⟩, ⟨by show W.attrs.length ≤ 10; omega, fun l hl => Nat.le_succ_of_le (ha2 l hl)⟩, by rw [List.length_append, List.length_singleton]; omega, app_all ho2 (by simp)⟩, by omega⟩, rfl, rfl⟩
                | exact ⟨⟨W.bases, W.attrs ++ [[]], W.objs⟩, _, _, ⟨⟨⟨hb1, hb2, hb3⟩, ⟨by rw [List.length_append, List.length_singleton]; omega, app_all (fun l hl => Nat.le_succ_of_le (ha2 l hl)) (by simp)⟩, Nat.le_succ_of_le ho1, ho2⟩, by omega⟩, rfl, rfl⟩
                | exact ⟨⟨W.bases, W.attrs, W.objs⟩, _, _, ⟨⟨⟨hb1, hb2, hb3⟩, ⟨by show W.attrs.length ≤ 10; omega, fun l hl => Nat.le_succ_of_le (ha2 l hl)⟩, Nat.le_succ_of_le ho1, ho2⟩, by omega⟩, rfl, rfl⟩
      · refine sb_call 8 [0] hC rfl rfl (wnt_none rfl) Try.func99 rfl rfl rfl rfl rfl rfl rfl (one_sat (list := [_,_]) hc (by omega) (by simp) (by simp)) ?_
        rintro _ _ ⟨y18, hy18, rfl, rfl⟩
        refine ⟨Nat.le_of_ble_eq_true rfl, ⟨rfl, rfl, rfl, rfl⟩, .inl rfl, ?_⟩
        refine vb_stM ?_
        refine vb_light0 9 rfl rfl rfl (by kernel_rfl) (by kernel_rfl) (by kernel_rfl) (wnt_none rfl) (l0_build S31 rfl rfl) ?_
        refine vb_stM ?_
        refine vb_any3 1 5 10 (by kernel_rfl) ?_ ?_ ?_
        · refine sb_light 1 rfl rfl rfl (wnt_none rfl) (lb_load_var hC rfl rfl rfl rfl Try.underlying24 rfl rfl) ?_
          refine vb_any2 5 10 (by kernel_rfl) ?_ ?_
          · refine sb_extE 5 rfl (fun _ => rfl) (xt_load_take1 rfl rfl (by omega) Try.underlying52 rfl (attrs_at0 (by omega))) fun Rf15 => ?_
            refine vb_stM ?_
            refine vb_treeown 6 (by omega) rfl ?_
            refine vb_stM ?_
            refine vb_ext 10 rfl (by kernel_rfl) rfl (xt_buildSlice E52 rfl rfl rfl rfl) ?_
            refine vb_stM ?_
            refine vb_one 11 rfl (by kernel_rfl) rfl ?_
            refine vo_appendU E52 rfl (by omega) rfl rfl rfl sd sd fun Rt21 => ?_
            refine vo_stM ?_
            try simp only [app_ints, app_intss, app_bools, app_attrs3]
            refine vo_done ⟨rfl, ?_⟩
            refine vb_light0 12 rfl rfl rfl (by kernel_rfl) (by kernel_rfl) (by kernel_rfl) (wnt_none rfl) (l0_index_ref rfl rfl rfl E24.und inf52 sz52 sd sd) ?_
            try simp only [Int.toNat_natCast]
            refine vb_one 13 rfl (by kernel_rfl) rfl ?_
            refine vo_totree 6 rfl ((by first | exact plain_nilO _ | exact plain_nil1 | exact plain_attrs _ | exact plain_pairsX _)) ?_
            refine vo_stM ?_
            refine vo_weaktree 6 rfl ?_
            refine vo_stM ?_
            refine vo_put (p := .sl _ _ _) rfl rfl rfl rfl rfl rfl rfl hC rfl (by first | decide | simp [refsOf]) inf52 sz52 sd ?_
            refine vo_stM ?_
            try simp only [List.set_set, set_attrss]
            refine vo_done ⟨rfl, ?_⟩
            refine vb_nil (by kernel_rfl) ?_
            refine hK3 _ ?_
            refine vc_seq fun K22 hK22 => ?_
            refine vc_region ?_
            refine vo_load_varG rfl rfl rfl Try.underlying27 rfl inf27 sz27 rfl ?_
            refine vo_stM ?_
            refine vo_store_varG rfl rfl rfl rfl inf27 sz27 rfl ?_
            refine vo_stM ?_
            refine vo_nil ?_
            refine hK22 _ ?_
            refine vc_treeown 2 (by omega) rfl ?_
            refine vc_stM ?_
            refine vc_expose 2 (by omega) rfl ?_
            refine vc_stM ?_
            refine vc_treeown 3 (by omega) rfl ?_
            refine vc_stM ?_
            refine vc_expose 3 (by omega) rfl ?_
            refine vc_stM ?_
            refine vc_ret ?_
            change retQ _ _ _ _ _
            refine retQ_sel [] (srows := []) (.inr rfl) hC rfl rfl rfl rfl rfl rfl rfl ?_
            first
              | exact ⟨⟨W.bases, W.attrs.set 0 (W.attrs.getD 0 [] ++ [⟨y18, 1, 0⟩]), W.objs⟩, _, _, ⟨⟨⟨hb1, hb2, hb3⟩, ⟨by rw [List.length_set]; omega, set_all (fun l hl => Nat.le_succ_of_le (ha2 l hl)) (by rw [List.length_append, List.length_singleton]; have := getD_all (p := fun l : List AttrM => l.length ≤ 3) ha2 [] (by simp) 0; omega) 0⟩, Nat.le_succ_of_le ho1, ho2⟩, by omega⟩, rfl, rfl⟩
              | exact ⟨⟨W.bases, W.attrs, W.objs ++ [⟨y29, []⟩]⟩, _, _, ⟨⟨⟨hb1, hb2, hb3⟩, ⟨by show W.attrs.length ≤ 10; omega, fun l hl => Nat.le_succ_of_le (ha2 l hl)⟩, by rw [List.length_append, List.length_singleton]; omega, app_all ho2 (by simp)⟩, by omega⟩, rfl, rfl⟩
              | exact ⟨⟨W.bases, W.attrs ++ [[]], W.objs⟩, _, _, ⟨⟨⟨hb1, hb2, hb3⟩, ⟨by rw [List.length_append, List.length_singleton]; omega, app_all (fun l hl => Nat.le_succ_of_le (ha2 l hl)) (by simp)⟩, Nat.le_succ_of_le ho1, ho2⟩, by omega⟩, rfl, rfl⟩
              | exact ⟨⟨W.bases, W.attrs, W.objs⟩, _, _, ⟨⟨⟨hb1, hb2, hb3⟩, ⟨by show W.attrs.length ≤ 10; omega, fun l hl => Nat.le_succ_of_le (ha2 l hl)⟩, Nat.le_succ_of_le ho1, ho2⟩, by omega⟩, rfl, rfl⟩
          · refine sb_ext 10 rfl rfl (xt_buildSlice E52 rfl rfl rfl rfl) ?_
            refine vb_stM ?_
            refine vb_any1 5 (by kernel_rfl) ?_
            refine sb_extE 5 rfl (fun _ => rfl) (xt_load_take1 rfl rfl (by omega) Try.underlying52 rfl (attrs_at0 (by omega))) fun Rf15 => ?_
            refine vb_stM ?_
            refine vb_treeown 7 (by omega) rfl ?_
            refine vb_stM ?_
            refine vb_one 11 rfl (by kernel_rfl) rfl ?_
            refine vo_appendU E52 rfl (by omega) rfl rfl rfl sd sd fun Rt22 => ?_
            refine vo_stM ?_
            try simp only [app_ints, app_intss, app_bools, app_attrs3]
            refine vo_done ⟨rfl, ?_⟩
            refine vb_light0 12 rfl rfl rfl (by kernel_rfl) (by kernel_rfl) (by kernel_rfl) (wnt_none rfl) (l0_index_ref rfl rfl rfl E24.und inf52 sz52 sd sd) ?_
            try simp only [Int.toNat_natCast]
            refine vb_one 13 rfl (by kernel_rfl) rfl ?_
            refine vo_totree 7 rfl ((by first | exact plain_nilO _ | exact plain_nil1 | exact plain_attrs _ | exact plain_pairsX _)) ?_
            refine vo_stM ?_
            refine vo_weaktree 7 rfl ?_
            refine vo_stM ?_
            refine vo_put (p := .sl _ _ _) rfl rfl rfl rfl rfl rfl rfl hC rfl (by first | decide | simp [refsOf]) inf52 sz52 sd ?_
            refine vo_stM ?_
            try simp only [List.set_set, set_attrss]
            refine vo_done ⟨rfl, ?_⟩
            refine vb_nil (by kernel_rfl) ?_
            refine hK3 _ ?_
            refine vc_seq fun K23 hK23 => ?_
            refine vc_region ?_
            refine vo_load_varG rfl rfl rfl Try.underlying27 rfl inf27 sz27 rfl ?_
            refine vo_stM ?_
            refine vo_store_varG rfl rfl rfl rfl inf27 sz27 rfl ?_
            refine vo_stM ?_
            refine vo_nil ?_
            refine hK23 _ ?_
            refine vc_treeown 2 (by omega) rfl ?_
            refine vc_stM ?_
            refine vc_expose 2 (by omega) rfl ?_
            refine vc_stM ?_
            refine vc_treeown 3 (by omega) rfl ?_
            refine vc_stM ?_
            refine vc_expose 3 (by omega) rfl ?_
            refine vc_stM ?_
            refine vc_ret ?_
            change retQ _ _ _ _ _
            refine retQ_sel [] (srows := []) (.inr rfl) hC rfl rfl rfl rfl rfl rfl rfl ?_
            first
              | exact ⟨⟨W.bases, W.attrs.set 0 (W.attrs.getD 0 [] ++ [⟨y18, 1, 0⟩]), W.objs⟩, _, _, ⟨⟨⟨hb1, hb2, hb3⟩, ⟨by rw [List.length_set]; omega, set_all (fun l hl => Nat.le_succ_of_le (ha2 l hl)) (by rw [List.length_append, List.length_singleton]; have := getD_all (p := fun l : List AttrM => l.length ≤ 3) ha2 [] (by simp) 0; omega) 0⟩, Nat.le_succ_of_le ho1, ho2⟩, by omega⟩, rfl, rfl⟩
              | exact ⟨⟨W.bases, W.attrs, W.objs ++ [⟨y29, []⟩]⟩, _, _, ⟨⟨⟨hb1, hb2, hb3⟩, ⟨by show W.attrs.length ≤ 10; omega, fun l hl => Nat.le_succ_of_le (ha2 l hl)⟩, by rw [List.length_append, List.length_singleton]; omega, app_all ho2 (by simp)⟩, by omega⟩, rfl, rfl⟩
              | exact ⟨⟨W.bases, W.attrs ++ [[]], W.objs⟩, _, _, ⟨⟨⟨hb1, hb2, hb3⟩, ⟨by rw [List.length_append, List.length_singleton]; omega, app_all (fun l hl => Nat.le_succ_of_le (ha2 l hl)) (by simp)⟩, Nat.le_succ_of_le ho1, ho2⟩, by omega⟩, rfl, rfl⟩
              | exact ⟨⟨W.bases, W.attrs, W.objs⟩, _, _, ⟨⟨⟨hb1, hb2, hb3⟩, ⟨by show W.attrs.length ≤ 10; omega, fun l hl => Nat.le_succ_of_le (ha2 l hl)⟩, Nat.le_succ_of_le ho1, ho2⟩, by omega⟩, rfl, rfl⟩
        · refine sb_extE 5 rfl (fun _ => rfl) (xt_load_take1 rfl rfl (by omega) Try.underlying52 rfl (attrs_at0 (by omega))) fun Rf15 => ?_
          refine vb_stM ?_
          refine vb_treeown 6 (by omega) rfl ?_
          refine vb_stM ?_
          refine vb_any2 1 10 (by kernel_rfl) ?_ ?_
          · refine sb_light 1 rfl rfl rfl (wnt_none rfl) (lb_load_var hC rfl rfl rfl rfl Try.underlying24 rfl rfl) ?_
            refine vb_ext 10 rfl (by kernel_rfl) rfl (xt_buildSlice E52 rfl rfl rfl rfl) ?_
            refine vb_stM ?_
            refine vb_one 11 rfl (by kernel_rfl) rfl ?_
            refine vo_appendU E52 rfl (by omega) rfl rfl rfl sd sd fun Rt23 => ?_
            refine vo_stM ?_
            try simp only [app_ints, app_intss, app_bools, app_attrs3]
            refine vo_done ⟨rfl, ?_⟩
            refine vb_light0 12 rfl rfl rfl (by kernel_rfl) (by kernel_rfl) (by kernel_rfl) (wnt_none rfl) (l0_index_ref rfl rfl rfl E24.und inf52 sz52 sd sd) ?_
            try simp only [Int.toNat_natCast]
            refine vb_one 13 rfl (by kernel_rfl) rfl ?_
            refine vo_totree 6 rfl ((by first | exact plain_nilO _ | exact plain_nil1 | exact plain_attrs _ | exact plain_pairsX _)) ?_
            refine vo_stM ?_
            refine vo_weaktree 6 rfl ?_
            refine vo_stM ?_
            refine vo_put (p := .sl _ _ _) rfl rfl rfl rfl rfl rfl rfl hC rfl (by first | decide | simp [refsOf]) inf52 sz52 sd ?_
            refine vo_stM ?_
            try simp only [List.set_set, set_attrss]
            refine vo_done ⟨rfl, ?_⟩
            refine vb_nil (by kernel_rfl) ?_
            refine hK3 _ ?_
            refine vc_seq fun K24 hK24 => ?_
            refine vc_region ?_
            refine vo_load_varG rfl rfl rfl Try.underlying27 rfl inf27 sz27 rfl ?_
            refine vo_stM ?_
            refine vo_store_varG rfl rfl rfl rfl inf27 sz27 rfl ?_
            refine vo_stM ?_
            refine vo_nil ?_
            refine hK24 _ ?_
            refine vc_treeown 2 (by omega) rfl ?_
            refine vc_stM ?_
            refine vc_expose 2 (by omega) rfl ?_
            refine vc_stM ?_
            refine vc_treeown 3 (by omega) rfl ?_
            refine vc_stM ?_
            refine vc_expose 3 (by omega) rfl ?_
            refine vc_stM ?_
            refine vc_ret ?_
            change retQ _ _ _ _ _
            refine retQ_sel [] (srows := []) (.inr rfl) hC rfl rfl rfl rfl rfl rfl rfl ?_
            first
              | exact ⟨⟨W.bases, W.attrs.set 0 (W.attrs.getD 0 [] ++ [⟨y18, 1, 0⟩]), W.objs⟩, _, _, ⟨⟨⟨hb1, hb2, hb3⟩, ⟨by rw [List.length_set]; omega, set_all (fun l hl => Nat.le_succ_of_le (ha2 l hl)) (by rw [List.length_append, List.length_singleton]; have := getD_all (p := fun l : List AttrM => l.length ≤ 3) ha2 [] (by simp) 0; omega) 0⟩, Nat.le_succ_of_le ho1, ho2⟩, by omega⟩, rfl, rfl⟩
              | exact ⟨⟨W.bases, W.attrs, W.objs ++ [⟨y29, []⟩]⟩, _, _, ⟨⟨⟨hb1, hb2, hb3⟩, ⟨by show W.attrs.length ≤ 10; omega, fun l hl => Nat.le_succ_of_le (ha2 l hl)⟩, by rw [List.length_append, List.length_singleton]; omega, app_all ho2 (by simp)⟩, by omega⟩, rfl, rfl⟩
              | exact ⟨⟨W.bases, W.attrs ++ [[]], W.objs⟩, _, _, ⟨⟨⟨hb1, hb2, hb3⟩, ⟨by rw [List.length_append, List.length_singleton]; omega, app_all (fun l hl => Nat.le_succ_of_le (ha2 l hl)) (by simp)⟩, Nat.le_succ_of_le ho1, ho2⟩, by omega⟩, rfl, rfl⟩
              | exact ⟨⟨W.bases, W.attrs, W.objs⟩, _, _, ⟨⟨⟨hb1, hb2, hb3⟩, ⟨by show W.attrs.length ≤ 10; omega, fun l hl => Nat.le_succ_of_le (ha2 l hl)⟩, Nat.le_succ_of_le ho1, ho2⟩, by omega⟩, rfl, rfl⟩
          · refine sb_ext 10 rfl rfl (xt_buildSlice E52 rfl rfl rfl rfl) ?_
            refine vb_stM ?_
            refine vb_any2 1 11 (by kernel_rfl) ?_ ?_
            · refine sb_light 1 rfl rfl rfl (wnt_none rfl) (lb_load_var hC rfl rfl rfl rfl Try.underlying24 rfl rfl) ?_
              refine vb_one 11 rfl (by kernel_rfl) rfl ?_
              refine vo_appendU E52 rfl (by omega) rfl rfl rfl sd sd fun Rt24 => ?_
              refine vo_stM ?_
              try simp only [app_ints, app_intss, app_bools, app_attrs3]
              refine vo_done ⟨rfl, ?_⟩
              refine vb_light0 12 rfl rfl rfl (by kernel_rfl) (by kernel_rfl) (by kernel_rfl) (wnt_none rfl) (l0_index_ref rfl rfl rfl E24.und inf52 sz52 sd sd) ?_
              try simp only [Int.toNat_natCast]
              refine vb_one 13 rfl (by kernel_rfl) rfl ?_
              refine vo_totree 6 rfl ((by first | exact plain_nilO _ | exact plain_nil1 | exact plain_attrs _ | exact plain_pairsX _)) ?_
              refine vo_stM ?_
              refine vo_weaktree 6 rfl ?_
              refine vo_stM ?_
              refine vo_put (p := .sl _ _ _) rfl rfl rfl rfl rfl rfl rfl hC rfl (by first | decide | simp [refsOf]) inf52 sz52 sd ?_
              refine vo_stM ?_
              try simp only [List.set_set, set_attrss]
              refine vo_done ⟨rfl, ?_⟩
              refine vb_nil (by kernel_rfl) ?_
              refine hK3 _ ?_
              refine vc_seq fun K25 hK25 => ?_
              refine vc_region ?_
              refine vo_load_varG rfl rfl rfl Try.underlying27 rfl inf27 sz27 rfl ?_
              refine vo_stM ?_
              refine vo_store_varG rfl rfl rfl rfl inf27 sz27 rfl ?_
              refine vo_stM ?_
              refine vo_nil ?_
              refine hK25 _ ?_
              refine vc_treeown 2 (by omega) rfl ?_
              refine vc_stM ?_
              refine vc_expose 2 (by omega) rfl ?_
              refine vc_stM ?_
              refine vc_treeown 3 (by omega) rfl ?_
              refine vc_stM ?_
              refine vc_expose 3 (by omega) rfl ?_
              refine vc_stM ?_
              refine vc_ret ?_
              change retQ _ _ _ _ _
              refine retQ_sel [] (srows := []) (.inr rfl) hC rfl rfl rfl rfl rfl rfl rfl ?_
              first
                | exact ⟨⟨W.bases, W.attrs.set 0 (W.attrs.getD 0 [] ++ [⟨y18, 1, 0⟩]), W.objs⟩, _, _, ⟨⟨⟨hb1, hb2, hb3⟩, ⟨by rw [List.length_set]; omega, set_all (fun l hl => Nat.le_succ_of_le (ha2 l hl)) (by rw [List.length_append, List.length_singleton]; have := getD_all (p := fun l : List AttrM => l.length ≤ 3) ha2 [] (by simp) 0; omega) 0⟩, Nat.le_succ_of_le ho1, ho2⟩, by omega⟩, rfl, rfl⟩
                | exact ⟨⟨W.bases, W.attrs, W.objs ++ [⟨y29, []⟩]⟩, _, _, ⟨⟨⟨hb1, hb2, hb3⟩, ⟨by show W.attrs.length ≤ 10; omega, fun l hl => Nat.le_succ_of_le (ha2 l hl)⟩, by rw [List.length_append, List.length_singleton]; omega, app_all ho2 (by simp)⟩, by omega⟩, rfl, rfl⟩
                | exact ⟨⟨W.bases, W.attrs ++ [[]], W.objs⟩, _, _, ⟨⟨⟨hb1, hb2, hb3⟩, ⟨by rw [List.length_append, List.length_singleton]; omega, app_all (fun l hl => Nat.le_succ_of_le (ha2 l hl)) (by simp)⟩, Nat.le_succ_of_le ho1, ho2⟩, by omega⟩, rfl, rfl⟩
                | exact ⟨⟨W.bases, W.attrs, W.objs⟩, _, _, ⟨⟨⟨hb1, hb2, hb3⟩, ⟨by show W.attrs.length ≤ 10; omega, fun l hl => Nat.le_succ_of_le (ha2 l hl)⟩, Nat.le_succ_of_le ho1, ho2⟩, by omega⟩, rfl, rfl⟩
            · refine sb_one 11 rfl (by kernel_rfl) ?_
              refine vo_appendU E52 rfl (by omega) rfl rfl rfl sd sd fun Rt25 => ?_
              refine vo_stM ?_
              try simp only [app_ints, app_intss, app_bools, app_attrs3]
              refine vo_done ⟨rfl, ?_⟩
              refine vb_any1 1 (by kernel_rfl) ?_
              refine sb_light 1 rfl rfl rfl (wnt_none rfl) (lb_load_var hC rfl rfl rfl rfl Try.underlying24 rfl rfl) ?_
              refine vb_light0 12 rfl rfl rfl (by kernel_rfl) (by kernel_rfl) (by kernel_rfl) (wnt_none rfl) (l0_index_ref rfl rfl rfl E24.und inf52 sz52 sd sd) ?_
              try simp only [Int.toNat_natCast]
              refine vb_one 13 rfl (by kernel_rfl) rfl ?_
              refine vo_totree 6 rfl ((by first | exact plain_nilO _ | exact plain_nil1 | exact plain_attrs _ | exact plain_pairsX _)) ?_
              refine vo_stM ?_
              refine vo_weaktree 6 rfl ?_
              refine vo_stM ?_
              refine vo_put (p := .sl _ _ _) rfl rfl rfl rfl rfl rfl rfl hC rfl (by first | decide | simp [refsOf]) inf52 sz52 sd ?_
              refine vo_stM ?_
              try simp only [List.set_set, set_attrss]
              refine vo_done ⟨rfl, ?_⟩
              refine vb_nil (by kernel_rfl) ?_
              refine hK3 _ ?_
              refine vc_seq fun K26 hK26 => ?_
              refine vc_region ?_
              refine vo_load_varG rfl rfl rfl Try.underlying27 rfl inf27 sz27 rfl ?_
              refine vo_stM ?_
              refine vo_store_varG rfl rfl rfl rfl inf27 sz27 rfl ?_
              refine vo_stM ?_
              refine vo_nil ?_
              refine hK26 _ ?_
              refine vc_treeown 2 (by omega) rfl ?_
              refine vc_stM ?_
              refine vc_expose 2 (by omega) rfl ?_
              refine vc_stM ?_
              refine vc_treeown 3 (by omega) rfl ?_
              refine vc_stM ?_
              refine vc_expose 3 (by omega) rfl ?_
              refine vc_stM ?_
              refine vc_ret ?_
              change retQ _ _ _ _ _
              refine retQ_sel [] (srows := []) (.inr rfl) hC rfl rfl rfl rfl rfl rfl rfl ?_
              first
                | exact ⟨⟨W.bases, W.attrs.set 0 (W.attrs.getD 0 [] ++ [⟨y18, 1, 0⟩]), W.objs⟩, _, _, ⟨⟨⟨hb1, hb2, hb3⟩, ⟨by rw [List.length_set]; omega, set_all (fun l hl => Nat.le_succ_of_le (ha2 l hl)) (by rw [List.length_append, List.length_singleton]; have := getD_all (p := fun l : List AttrM => l.length ≤ 3) ha2 [] (by simp) 0; omega) 0⟩, Nat.le_succ_of_le ho1, ho2⟩, by omega⟩, rfl, rfl⟩
                | exact ⟨⟨W.bases, W.attrs, W.objs ++ [⟨y29, []⟩]⟩, _, _, ⟨⟨⟨hb1, hb2, hb3⟩, ⟨by show W.attrs.length ≤ 10; omega, fun l hl => Nat.le_succ_of_le (ha2 l hl)⟩, by rw [List.length_append, List.length_singleton]; omega, app_all ho2 (by simp)⟩, by omega⟩, rfl, rfl⟩
                | exact ⟨⟨W.bases, W.attrs ++ [[]], W.objs⟩, _, _, ⟨⟨⟨hb1, hb2, hb3⟩, ⟨by rw [List.length_append, List.length_singleton]; omega, app_all (fun l hl => Nat.le_succ_of_le (ha2 l hl)) (by simp)⟩, Nat.le_succ_of_le ho1, ho2⟩, by omega⟩, rfl, rfl⟩
                | exact ⟨⟨W.bases, W.attrs, W.objs⟩, _, _, ⟨⟨⟨hb1, hb2, hb3⟩, ⟨by show W.attrs.length ≤ 10; omega, fun l hl => Nat.le_succ_of_le (ha2 l hl)⟩, Nat.le_succ_of_le ho1, ho2⟩, by omega⟩, rfl, rfl⟩
        · refine sb_ext 10 rfl rfl (xt_buildSlice E52 rfl rfl rfl rfl) ?_
          refine vb_stM ?_
          refine vb_any2 1 5 (by kernel_rfl) ?_ ?_
          · refine sb_light 1 rfl rfl rfl (wnt_none rfl) (lb_load_var hC rfl rfl rfl rfl Try.underlying24 rfl rfl) ?_
            refine vb_any1 5 (by kernel_rfl) ?_
            refine sb_extE 5 rfl (fun _ => rfl) (xt_load_take1 rfl rfl (by omega) Try.underlying52 rfl (attrs_at0 (by omega))) fun Rf15 => ?_
            refine vb_stM ?_
            refine vb_treeown 7 (by omega) rfl ?_
            refine vb_stM ?_
            refine vb_one 11 rfl (by kernel_rfl) rfl ?_
            refine vo_appendU E52 rfl (by omega) rfl rfl rfl sd sd fun Rt26 => ?_
            refine vo_stM ?_
            try simp only [app_ints, app_intss, app_bools, app_attrs3]
            refine vo_done ⟨rfl, ?_⟩
            refine vb_light0 12 rfl rfl rfl (by kernel_rfl) (by kernel_rfl) (by kernel_rfl) (wnt_none rfl) (l0_index_ref rfl rfl rfl E24.und inf52 sz52 sd sd) ?_
            try simp only [Int.toNat_natCast]
            refine vb_one 13 rfl (by kernel_rfl) rfl ?_
            refine vo_totree 7 rfl ((by first | exact plain_nilO _ | exact plain_nil1 | exact plain_attrs _ | exact plain_pairsX _)) ?_
            refine vo_stM ?_
            refine vo_weaktree 7 rfl ?_
            refine vo_stM ?_
            refine vo_put (p := .sl _ _ _) rfl rfl rfl rfl rfl rfl rfl hC rfl (by first | decide | simp [refsOf]) inf52 sz52 sd ?_
            refine vo_stM ?_
            try simp only [List.set_set, set_attrss]
            refine vo_done ⟨rfl, ?_⟩
            refine vb_nil (by kernel_rfl) ?_
            refine hK3 _ ?_
            refine vc_seq fun K27 hK27 => ?_
            refine vc_region ?_
            refine vo_load_varG rfl rfl rfl Try.underlying27 rfl inf27 sz27 rfl ?_
            refine vo_stM ?_
            refine vo_store_varG rfl rfl rfl rfl inf27 sz27 rfl ?_
            refine vo_stM ?_
            refine vo_nil ?_
            refine hK27 _ ?_
            refine vc_treeown 2 (by omega) rfl ?_
            refine vc_stM ?_
            refine vc_expose 2 (by omega) rfl ?_
            refine vc_stM ?_
            refine vc_treeown 3 (by omega) rfl ?_
            refine vc_stM ?_
            refine vc_expose 3 (by omega) rfl ?_
            refine vc_stM ?_
            refine vc_ret ?_
            change retQ _ _ _ _ _
            refine retQ_sel [] (srows := []) (.inr rfl) hC rfl rfl rfl rfl rfl rfl rfl ?_
            first
              | exact ⟨⟨W.bases, W.attrs.set 0 (W.attrs.getD 0 [] ++ [⟨y18, 1, 0⟩]), W.objs⟩, _, _, ⟨⟨⟨hb1, hb2, hb3⟩, ⟨by rw [List.length_set]; omega, set_all (fun l hl => Nat.le_succ_of_le (ha2 l hl)) (by rw [List.length_append, List.length_singleton]; have := getD_all (p := fun l : List AttrM => l.length ≤ 3) ha2 [] (by simp) 0; omega) 0⟩, Nat.le_succ_of_le ho1, ho2⟩, by omega⟩, rfl, rfl⟩
              | exact ⟨⟨W.bases, W.attrs, W.objs ++ [⟨y29, []⟩]⟩, _, _, ⟨⟨⟨hb1, hb2, hb3⟩, ⟨by show W.attrs.length ≤ 10; omega, fun l hl => Nat.le_succ_of_le (ha2 l hl)⟩, by rw [List.length_append, List.length_singleton]; omega, app_all ho2 (by simp)⟩, by omega⟩, rfl, rfl⟩
              | exact ⟨⟨W.bases, W.attrs ++ [[]], W.objs⟩, _, _, ⟨⟨⟨hb1, hb2, hb3⟩, ⟨by rw [List.length_append, List.length_singleton]; omega, app_all (fun l hl => Nat.le_succ_of_le (ha2 l hl)) (by simp)⟩, Nat.le_succ_of_le ho1, ho2⟩, by omega⟩, rfl, rfl⟩
              | exact ⟨⟨W.bases, W.attrs, W.objs⟩, _, _, ⟨⟨⟨hb1, hb2, hb3⟩, ⟨by show W.attrs.length ≤ 10; omega, fun l hl => Nat.le_succ_of_le (ha2 l hl)⟩, Nat.le_succ_of_le ho1, ho2⟩, by omega⟩, rfl, rfl⟩
          · refine sb_extE 5 rfl (fun _ => rfl) (xt_load_take1 rfl rfl (by omega) Try.underlying52 rfl (attrs_at0 (by omega))) fun Rf15 => ?_
            refine vb_stM ?_
            refine vb_treeown 7 (by omega) rfl ?_
            refine vb_stM ?_
            refine vb_any2 1 11 (by kernel_rfl) ?_ ?_
            · refine sb_light 1 rfl rfl rfl (wnt_none rfl) (lb_load_var hC rfl rfl rfl rfl Try.underlying24 rfl rfl) ?_
              refine vb_one 11 rfl (by kernel_rfl) rfl ?_
              refine vo_appendU E52 rfl (by omega) rfl rfl rfl sd sd fun Rt27 => ?_
              refine vo_stM ?_
              try simp only [app_ints, app_intss, app_bools, app_attrs3]
              refine vo_done ⟨rfl, ?_⟩
              refine vb_light0 12 rfl rfl rfl (by kernel_rfl) (by kernel_rfl) (by kernel_rfl) (wnt_none rfl) (l0_index_ref rfl rfl rfl E24.und inf52 sz52 sd sd) ?_
              try simp only [Int.toNat_natCast]
              refine vb_one 13 rfl (by kernel_rfl) rfl ?_
              refine vo_totree 7 rfl ((by first | exact plain_nilO _ | exact plain_nil1 | exact plain_attrs _ | exact plain_pairsX _)) ?_
              refine vo_stM ?_
              refine vo_weaktree 7 rfl ?_
              refine vo_stM ?_
              refine vo_put (p := .sl _ _ _) rfl rfl rfl rfl rfl rfl rfl hC rfl (by first | decide | simp [refsOf]) inf52 sz52 sd ?_
              refine vo_stM ?_
              try simp only [List.set_set, set_attrss]
              refine vo_done ⟨rfl, ?_⟩
              refine vb_nil (by kernel_rfl) ?_
              refine hK3 _ ?_
              refine vc_seq fun K28 hK28 => ?_
              refine vc_region ?_
              refine vo_load_varG rfl rfl rfl Try.underlying27 rfl inf27 sz27 rfl ?_
              refine vo_stM ?_
              refine vo_store_varG rfl rfl rfl rfl inf27 sz27 rfl ?_
              refine vo_stM ?_
              refine vo_nil ?_
              refine hK28 _ ?_
              refine vc_treeown 2 (by omega) rfl ?_
              refine vc_stM ?_
              refine vc_expose 2 (by omega) rfl ?_
              refine vc_stM ?_
              refine vc_treeown 3 (by omega) rfl ?_
              refine vc_stM ?_
              refine vc_expose 3 (by omega) rfl ?_
              refine vc_stM ?_
              refine vc_ret ?_
              change retQ _ _ _ _ _
              refine retQ_sel [] (srows := []) (.inr rfl) hC rfl rfl rfl rfl rfl rfl rfl ?_
              first
                | exact ⟨⟨W.bases, W.attrs.set 0 (W.attrs.getD 0 [] ++ [⟨y18, 1, 0⟩]), W.objs⟩, _, _, ⟨⟨⟨hb1, hb2, hb3⟩, ⟨by rw [List.length_set]; omega, set_all (fun l hl => Nat.le_succ_of_le (ha2 l hl)) (by rw [List.length_append, List.length_singleton]; have := getD_all (p := fun l : List AttrM => l.length ≤ 3) ha2 [] (by simp) 0; omega) 0⟩, Nat.le_succ_of_le ho1, ho2⟩, by omega⟩, rfl, rfl⟩
                | exact ⟨⟨W.bases, W.attrs, W.objs ++ [⟨y29, []⟩]⟩, _, _, ⟨⟨⟨hb1, hb2, hb3⟩, ⟨by show W.attrs.length ≤ 10; omega, fun l hl => Nat.le_succ_of_le (ha2 l hl)⟩, by rw [List.length_append, List.length_singleton]; omega, app_all ho2 (by simp)⟩, by omega⟩, rfl, rfl⟩
                | exact ⟨⟨W.bases, W.attrs ++ [[]], W.objs⟩, _, _, ⟨⟨⟨hb1, hb2, hb3⟩, ⟨by rw [List.length_append, List.length_singleton]; omega, app_all (fun l hl => Nat.le_succ_of_le (ha2 l hl)) (by simp)⟩, Nat.le_succ_of_le ho1, ho2⟩, by omega⟩, rfl, rfl⟩
                | exact ⟨⟨W.bases, W.attrs, W.objs⟩, _, _, ⟨⟨⟨hb1, hb2, hb3⟩, ⟨by show W.attrs.length ≤ 10; omega, fun l hl => Nat.le_succ_of_le (ha2 l hl)⟩, Nat.le_succ_of_le ho1, ho2⟩, by omega⟩, rfl, rfl⟩
            · refine sb_one 11 rfl (by kernel_rfl) ?_
              refine vo_appendU E52 rfl (by omega) rfl rfl rfl sd sd fun Rt28 => ?_
              refine vo_stM ?_
              try simp only [app_ints, app_intss, app_bools, app_attrs3]
              refine vo_done ⟨rfl, ?_⟩
              refine vb_any1 1 (by kernel_rfl) ?_
              refine sb_light 1 rfl rfl rfl (wnt_none rfl) (lb_load_var hC rfl rfl rfl rfl Try.underlying24 rfl rfl) ?_
              refine vb_light0 12 rfl rfl rfl (by kernel_rfl) (by kernel_rfl) (by kernel_rfl) (wnt_none rfl) (l0_index_ref rfl rfl rfl E24.und inf52 sz52 sd sd) ?_
              try simp only [Int.toNat_natCast]
              refine vb_one 13 rfl (by kernel_rfl) rfl ?_
              refine vo_totree 7 rfl ((by first | exact plain_nilO _ | exact plain_nil1 | exact plain_attrs _ | exact plain_pairsX _)) ?_
              refine vo_stM ?_
              refine vo_weaktree 7 rfl ?_
              refine vo_stM ?_
              refine vo_put (p := .sl _ _ _) rfl rfl rfl rfl rfl rfl rfl hC rfl (by first | decide | simp [refsOf]) inf52 sz52 sd ?_
              refine vo_stM ?_
              try simp only [List.set_set, set_attrss]
              refine vo_done ⟨rfl, ?_⟩
              refine vb_nil (by kernel_rfl) ?_
              refine hK3 _ ?_
              refine vc_seq fun K29 hK29 => ?_
              refine vc_region ?_
              refine vo_load_varG rfl rfl rfl Try.underlying27 rfl inf27 sz27 rfl ?_
              refine vo_stM ?_
              refine vo_store_varG rfl rfl rfl rfl inf27 sz27 rfl ?_
              refine vo_stM ?_
              refine vo_nil ?_
              refine hK29 _ ?_
              refine vc_treeown 2 (by omega) rfl ?_
              refine vc_stM ?_
              refine vc_expose 2 (by omega) rfl ?_
              refine vc_stM ?_
              refine vc_treeown 3 (by omega) rfl ?_
              refine vc_stM ?_
              refine vc_expose 3 (by omega) rfl ?_
              refine vc_stM ?_
              refine vc_ret ?_
              change retQ _ _ _ _ _
              refine retQ_sel [] (srows := []) (.inr rfl) hC rfl rfl rfl rfl rfl rfl rfl ?_
              first
                | exact ⟨⟨W.bases, W.attrs.set 0 (W.attrs.getD 0 [] ++ [⟨y18, 1, 0⟩]), W.objs⟩, _, _, ⟨⟨⟨hb1, hb2, hb3⟩, ⟨by rw [List.length_set]; omega, set_all (fun l hl => Nat.le_succ_of_le (ha2 l hl)) (by rw [List.length_append, List.length_singleton]; have := getD_all (p := fun l : List AttrM => l.length ≤ 3) ha2 [] (by simp) 0; omega) 0⟩, Nat.le_succ_of_le ho1, ho2⟩, by omega⟩, rfl, rfl⟩
                | exact ⟨⟨W.bases, W.attrs, W.objs ++ [⟨y29, []⟩]⟩, _, _, ⟨⟨⟨hb1, hb2, hb3⟩, ⟨by show W.attrs.length ≤ 10; omega, fun l hl => Nat.le_succ_of_le (ha2 l hl)⟩, by rw [List.length_append, List.length_singleton]; omega, app_all ho2 (by simp)⟩, by omega⟩, rfl, rfl⟩
                | exact ⟨⟨W.bases, W.attrs ++ [[]], W.objs⟩, _, _, ⟨⟨⟨hb1, hb2, hb3⟩, ⟨by rw [List.length_append, List.length_singleton]; omega, app_all (fun l hl => Nat.le_succ_of_le (ha2 l hl)) (by simp)⟩, Nat.le_succ_of_le ho1, ho2⟩, by omega⟩, rfl, rfl⟩
                | exact ⟨⟨W.bases, W.attrs, W.objs⟩, _, _, ⟨⟨⟨hb1, hb2, hb3⟩, ⟨by show W.attrs.length ≤ 10; omega, fun l hl => Nat.le_succ_of_le (ha2 l hl)⟩, Nat.le_succ_of_le ho1, ho2⟩, by omega⟩, rfl, rfl⟩
  · try simp only [zq0, zq1, zq2, zq3, zq4, zq5, zq6, zq7, zq8, zq9, zqa, zqb, zqc, zqd, zqe, zqf] at hc1
    refine vc_seq fun K30 hK30 => ?_
    refine vc_region ?_
    refine vo_binI rfl rfl rfl rfl trivial ?_
    refine vo_assign_pv rfl rfl ?_
    refine vo_nil ?_
    refine hK30 _ ?_
    refine vc_cond rfl (fun hc2 => ?_) (fun hc2 => ?_)
    · try simp only [zq0, zq1, zq2, zq3, zq4, zq5, zq6, zq7, zq8, zq9, zqa, zqb, zqc, zqd, zqe, zqf] at hc2
      refine vc_drawB [7, 9] (by kernel_rfl) ?_
      change VLB [7, 9] _ _ _ 10 _ _ _
      refine vb_light0 0 rfl rfl rfl (by kernel_rfl) (by kernel_rfl) (by kernel_rfl) (wnt_none rfl) (l0_fieldAddr_ptr rfl Try.underlying27 rfl inf25 (by rw [sz25]; decide)) ?_
      try simp only [Nat.zero_add]
      refine vb_light 1 [0, 2, 3, 4, 5, 6] rfl rfl rfl (by kernel_rfl) (by kernel_rfl) (by kernel_rfl) (by kernel_rfl) (by kernel_rfl) (wnt_none rfl) (lb_load_var hC rfl rfl rfl rfl Try.underlying25 rfl rfl) ?_
      refine vb_light0 2 rfl rfl rfl (by kernel_rfl) (by kernel_rfl) (by kernel_rfl) (wnt_none rfl) (l0_move_ptr rfl) ?_
      refine vb_ext 3 rfl (by kernel_rfl) rfl (xt_buildSlice E34 rfl rfl rfl rfl) ?_
      refine vb_stM ?_
      refine vb_expose 5 (by omega) rfl ?_
      refine vb_stM ?_
      refine vb_weaken 28 rfl ?_
      refine vb_stM ?_
      refine vb_any1 4 (by kernel_rfl) ?_
      refine sb_call 4 [0] hC rfl rfl (wnt_none rfl) Try.func99 rfl rfl rfl rfl rfl rfl rfl (one_sat (list := [_,_]) hc (by omega) (by simp) (by simp)) ?_
      rintro _ _ ⟨y29, hy29, rfl, rfl⟩
      refine ⟨Nat.le_of_ble_eq_true rfl, ⟨rfl, rfl, rfl, rfl⟩, .inl rfl, ?_⟩
      refine vb_stM ?_
      refine vb_light0 5 rfl rfl rfl (by kernel_rfl) (by kernel_rfl) (by kernel_rfl) (wnt_none rfl) (l0_build S42n rfl rfl) ?_
      refine vb_stM ?_
      refine vb_ext 6 rfl (by kernel_rfl) rfl (xt_buildSlice E25 rfl rfl rfl rfl) ?_
      refine vb_stM ?_
      refine vb_one 7 rfl (by kernel_rfl) rfl ?_
      refine vo_totree 6 rfl ((by first | exact plain_nilO _ | exact plain_nil1 | exact plain_attrs _ | exact plain_pairsX _)) ?_
      refine vo_stM ?_
      refine vo_append_treeG E25 rfl (by omega) (by omega) rfl rfl rfl rfl rfl sd sd sd ?_
      refine vo_stM ?_
      try simp only [app_ints, app_intss, app_bools, app_attrs3]
      refine vo_nilcell 3 (W.objs.length) 1 2 (p' := .agg _) rfl (get_endP _ _ _) rfl rfl ?_
      refine vo_stM ?_
      try simp only [PV.cells, List.set_cons_succ, List.set_cons_zero, set_endO]
      refine vo_done ⟨rfl, ?_⟩
      refine vb_light0 8 rfl rfl rfl (by kernel_rfl) (by kernel_rfl) (by kernel_rfl) (wnt_none rfl) (l0_fieldAddr_ptr rfl Try.underlying27 rfl inf25 (by rw [sz25]; decide)) ?_
      try simp only [Nat.zero_add]
      refine vb_one 9 rfl (by kernel_rfl) rfl ?_
      refine vo_store_varG rfl rfl rfl rfl inf25 sz25 rfl ?_
      refine vo_stM ?_
      refine vo_done ⟨rfl, ?_⟩
      refine vb_nil (by kernel_rfl) ?_
      refine hK3 _ ?_
      refine vc_seq fun K31 hK31 => ?_
      refine vc_region ?_
      refine vo_load_varG rfl rfl rfl Try.underlying27 rfl inf27 sz27 rfl ?_
      refine vo_stM ?_
      refine vo_store_varG rfl rfl rfl rfl inf27 sz27 rfl ?_
      refine vo_stM ?_
      refine vo_nil ?_
      refine hK31 _ ?_
      refine vc_treeown 2 (by omega) rfl ?_
      refine vc_stM ?_
      refine vc_expose 2 (by omega) rfl ?_
      refine vc_stM ?_
      refine vc_treeown 3 (by omega) rfl ?_
      refine vc_stM ?_
      refine vc_expose 3 (by omega) rfl ?_
      refine vc_stM ?_
      refine vc_ret ?_
      change retQ _ _ _ _ _
      refine retQ_sel [] (srows := []) (.inr rfl) hC rfl rfl rfl rfl rfl rfl rfl ?_
      first
        | exact ⟨⟨W.bases, W.attrs.set 0 (W.attrs.getD 0 [] ++ [⟨y18, 1, 0⟩]), W.objs⟩, _, _, ⟨⟨⟨hb1, hb2, hb3⟩, ⟨by rw [List.length_set]; omega, set_all (fun l hl => Nat.le_succ_of_le (ha2 l hl)) (by rw [List.length_append, List.length_singleton]; have := getD_all (p := fun l : List AttrM => l.length ≤ 3) ha2 [] (by simp) 0; omega) 0⟩, Nat.le_succ_of_le ho1, ho2⟩, by omega⟩, rfl, rfl⟩
        | exact ⟨⟨W.bases, W.attrs, W.objs ++ [⟨y29, []⟩]⟩, _, _, ⟨⟨⟨hb1, hb2, hb3⟩, ⟨by show W.attrs.length ≤ 10; omega, fun l hl => Nat.le_succ_of_le (ha2 l hl)⟩, by rw [List.length_append, List.length_singleton]; omega, app_all ho2 (by simp)⟩, by omega⟩, rfl, rfl⟩
        | exact ⟨⟨W.bases, W.attrs ++ [[]], W.objs⟩, _, _, ⟨⟨⟨hb1, hb2, hb3⟩, ⟨by rw [List.length_append, List.length_singleton]; omega, app_all (fun l hl => Nat.le_succ_of_le (ha2 l hl)) (by simp)⟩, Nat.le_succ_of_le ho1, ho2⟩, by omega⟩, rfl, rfl⟩
        | exact ⟨⟨W.bases, W.attrs, W.objs⟩, _, _, ⟨⟨⟨hb1, hb2, hb3⟩, ⟨by show W.attrs.length ≤ 10; omega, fun l hl => Nat.le_succ_of_le (ha2 l hl)⟩, Nat.le_succ_of_le ho1, ho2⟩, by omega⟩, rfl, rfl⟩
    · try simp only [zq0, zq1, zq2, zq3, zq4, zq5, zq6, zq7, zq8, zq9, zqa, zqb, zqc, zqd, zqe, zqf] at hc2
      refine vc_seq fun K32 hK32 => ?_
      refine vc_region ?_
      refine vo_binI rfl rfl rfl rfl trivial ?_
      refine vo_assign_pv rfl rfl ?_
      refine vo_nil ?_
      refine hK32 _ ?_
      refine vc_cond rfl (fun hc3 => ?_) (fun hc3 => ?_)
      · try simp only [zq0, zq1, zq2, zq3, zq4, zq5, zq6, zq7, zq8, zq9, zqa, zqb, zqc, zqd, zqe, zqf] at hc3
        refine vc_region ?_
        refine vo_fieldAddr_ptr rfl rfl Try.underlying27 rfl inf24 (by rw [sz24]; decide) ?_
        try simp only [Nat.zero_add]
        refine vo_load_var rfl rfl rfl Try.underlying24 rfl rfl ?_
        refine vo_buildSlice E24 rfl rfl rfl rfl rfl ?_
        refine vo_stM ?_
        refine vo_totree 5 rfl ((by first | exact plain_nilO _ | exact plain_nil1 | exact plain_attrs _ | exact plain_pairsX _)) ?_
        refine vo_stM ?_
        refine vo_append_treeG E24 rfl (by omega) (by omega) rfl rfl rfl rfl rfl sd sd sd ?_
        refine vo_stM ?_
        try simp only [app_ints, app_intss, app_bools, app_attrs3]
        refine vo_nilcell 2 (W.attrs.length) 0 3 (p' := .sl none 3 []) rfl (get_endP _ _ _) rfl rfl ?_
        refine vo_stM ?_
        try simp only [set_endA]
        refine vo_fieldAddr_ptr rfl rfl Try.underlying27 rfl inf24 (by rw [sz24]; decide) ?_
        try simp only [Nat.zero_add]
        refine vo_store_varG rfl rfl rfl rfl inf24 sz24 rfl ?_
        refine vo_stM ?_
        refine vo_nil ?_
        refine hK3 _ ?_
        refine vc_seq fun K33 hK33 => ?_
        refine vc_region ?_
        refine vo_load_varG rfl rfl rfl Try.underlying27 rfl inf27 sz27 rfl ?_
        refine vo_stM ?_
        refine vo_store_varG rfl rfl rfl rfl inf27 sz27 rfl ?_
        refine vo_stM ?_
        refine vo_nil ?_
        refine hK33 _ ?_
        refine vc_treeown 2 (by omega) rfl ?_
        refine vc_stM ?_
        refine vc_expose 2 (by omega) rfl ?_
        refine vc_stM ?_
        refine vc_treeown 3 (by omega) rfl ?_
        refine vc_stM ?_
        refine vc_expose 3 (by omega) rfl ?_
        refine vc_stM ?_
        refine vc_ret ?_
        change retQ _ _ _ _ _
        refine retQ_sel [] (srows := []) (.inr rfl) hC rfl rfl rfl rfl rfl rfl rfl ?_
        first
          | exact ⟨⟨W.bases, W.attrs.set 0 (W.attrs.getD 0 [] ++ [⟨y18, 1, 0⟩]), W.objs⟩, _, _, ⟨⟨⟨hb1, hb2, hb3⟩, ⟨by rw [List.length_set]; omega, set_all (fun l hl => Nat.le_succ_of_le (ha2 l hl)) (by rw [List.length_append, List.length_singleton]; have := getD_all (p := fun l : List AttrM => l.length ≤ 3) ha2 [] (by simp) 0; omega) 0⟩, Nat.le_succ_of_le ho1, ho2⟩, by omega⟩, rfl, rfl⟩
          | exact ⟨⟨W.bases, W.attrs, W.objs ++ [⟨y29, []⟩]⟩, _, _, ⟨⟨⟨hb1, hb2, hb3⟩, ⟨by show W.attrs.length ≤ 10; omega, fun l hl => Nat.le_succ_of_le (ha2 l hl)⟩, by rw [List.length_append, List.length_singleton]; omega, app_all ho2 (by simp)⟩, by omega⟩, rfl, rfl⟩
          | exact ⟨⟨W.bases, W.attrs ++ [[]], W.objs⟩, _, _, ⟨⟨⟨hb1, hb2, hb3⟩, ⟨by rw [List.length_append, List.length_singleton]; omega, app_all (fun l hl => Nat.le_succ_of_le (ha2 l hl)) (by simp)⟩, Nat.le_succ_of_le ho1, ho2⟩, by omega⟩, rfl, rfl⟩
          | exact ⟨⟨W.bases, W.attrs, W.objs⟩, _, _, ⟨⟨⟨hb1, hb2, hb3⟩, ⟨by show W.attrs.length ≤ 10; omega, fun l hl => Nat.le_succ_of_le (ha2 l hl)⟩, Nat.le_succ_of_le ho1, ho2⟩, by omega⟩, rfl, rfl⟩
      · try simp only [zq0, zq1, zq2, zq3, zq4, zq5, zq6, zq7, zq8, zq9, zqa, zqb, zqc, zqd, zqe, zqf] at hc3
        refine vc_skip ?_
        refine hK3 _ ?_
        refine vc_seq fun K34 hK34 => ?_
        refine vc_region ?_
        refine vo_load_varG rfl rfl rfl Try.underlying27 rfl inf27 sz27 rfl ?_
        refine vo_stM ?_
        refine vo_store_varG rfl rfl rfl rfl inf27 sz27 rfl ?_
        refine vo_stM ?_
        refine vo_nil ?_
        refine hK34 _ ?_
        refine vc_treeown 2 (by omega) rfl ?_
        refine vc_stM ?_
        refine vc_expose 2 (by omega) rfl ?_
        refine vc_stM ?_
        refine vc_treeown 3 (by omega) rfl ?_
        refine vc_stM ?_
        refine vc_expose 3 (by omega) rfl ?_
        refine vc_stM ?_
        refine vc_ret ?_
        change retQ _ _ _ _ _
        refine retQ_sel [] (srows := []) (.inr rfl) hC rfl rfl rfl rfl rfl rfl rfl ?_
        first
          | exact ⟨⟨W.bases, W.attrs.set 0 (W.attrs.getD 0 [] ++ [⟨y18, 1, 0⟩]), W.objs⟩, _, _, ⟨⟨⟨hb1, hb2, hb3⟩, ⟨by rw [List.length_set]; omega, set_all (fun l hl => Nat.le_succ_of_le (ha2 l hl)) (by rw [List.length_append, List.length_singleton]; have := getD_all (p := fun l : List AttrM => l.length ≤ 3) ha2 [] (by simp) 0; omega) 0⟩, Nat.le_succ_of_le ho1, ho2⟩, by omega⟩, rfl, rfl⟩
          | exact ⟨⟨W.bases, W.attrs, W.objs ++ [⟨y29, []⟩]⟩, _, _, ⟨⟨⟨hb1, hb2, hb3⟩, ⟨by show W.attrs.length ≤ 10; omega, fun l hl => Nat.le_succ_of_le (ha2 l hl)⟩, by rw [List.length_append, List.length_singleton]; omega, app_all ho2 (by simp)⟩, by omega⟩, rfl, rfl⟩
          | exact ⟨⟨W.bases, W.attrs ++ [[]], W.objs⟩, _, _, ⟨⟨⟨hb1, hb2, hb3⟩, ⟨by rw [List.length_append, List.length_singleton]; omega, app_all (fun l hl => Nat.le_succ_of_le (ha2 l hl)) (by simp)⟩, Nat.le_succ_of_le ho1, ho2⟩, by omega⟩, rfl, rfl⟩
          | exact ⟨⟨W.bases, W.attrs, W.objs⟩, _, _, ⟨⟨⟨hb1, hb2, hb3⟩, ⟨by show W.attrs.length ≤ 10; omega, fun l hl => Nat.le_succ_of_le (ha2 l hl)⟩, Nat.le_succ_of_le ho1, ho2⟩, by omega⟩, rfl, rfl⟩

end Go.Vl

/- Arguments of which less is said: what a contract says of those holds of them. -/
namespace Go.Vl
set_option linter.unusedVariables false
set_option linter.unusedSimpArgs false
open Go.RowKit

mutual
def PV.wk : PV → PV
  | .sl _ e xs => .sl none e (PV.wks xs)
  | .agg cs => .agg (PV.wks cs)
  | p => p
def PV.wks : List PV → List PV
  | [] => []
  | x :: xs => x.wk :: PV.wks xs
end
theorem PV.wks_map : ∀ l : List PV, PV.wks l = l.map PV.wk
  | [] => by simp [PV.wks]
  | x :: l => by simp [PV.wks, PV.wks_map l]
theorem PV.wk_sl (nl : Option Bool) (e : Nat) (xs : List PV) : (PV.sl nl e xs).wk = .sl none e (xs.map PV.wk) := by simp [PV.wk, PV.wks_map]
theorem PV.wk_agg (cs : List PV) : (PV.agg cs).wk = .agg (cs.map PV.wk) := by simp [PV.wk, PV.wks_map]
theorem PV.wk_int (k : IntKind) (n : Int) : (PV.int k n).wk = .int k n := by simp [PV.wk]
theorem PV.wk_bool (b : Bool) : (PV.bool b).wk = .bool b := by simp [PV.wk]
theorem PV.wk_isAgg (p : PV) : p.wk.isAgg = p.isAgg := by cases p <;> simp [PV.wk, PV.isAgg]
theorem PV.wk_cells (p : PV) : p.wk.cells = p.cells.map PV.wk := by
  cases p <;> simp [PV.wk, PV.cells, PV.wks_map]
theorem PV.wk_fits {p : PV} {e : Nat} (h : p.fits e) : p.wk.fits e := by
  refine ⟨by rw [PV.wk_cells, List.length_map]; exact h.1, fun j c hc => ?_⟩
  rw [PV.wk_cells] at hc
  simp only [List.getElem?_map, Option.map_eq_some_iff] at hc
  obtain ⟨c', hc', rfl⟩ := hc
  rw [PV.wk_isAgg]; exact h.2 j c' hc'
theorem RP.wk {w : World} {G : Nat → Prop} {p : PV} {v : Value} (h : RP w G p v) : RP w G p.wk v := by
  induction h with
  | int k n => rw [PV.wk_int]; exact .int k n
  | bool b => rw [PV.wk_bool]; exact .bool b
  | str s => simp only [PV.wk]; exact .str s
  | nilsl nl e h => rw [PV.wk_sl]; exact .nilsl none e (by simp)
  | sl nl e xs a len cap f h hs hl hcap hg hw hc hr ih =>
    rw [PV.wk_sl]
    refine .sl none e _ a len cap f (by simp) (fun h => hs (by simpa using h)) (by simpa using hl) hcap (fun h => hg (by simpa using h)) (fun i x hx => ?_) (fun i x j c hx hcj => ?_) (fun i x j c hx hcj => ?_)
    · simp only [List.getElem?_map, Option.map_eq_some_iff] at hx
      obtain ⟨x', hx', rfl⟩ := hx
      exact PV.wk_fits (hw i x' hx')
    · simp only [List.getElem?_map, Option.map_eq_some_iff] at hx
      obtain ⟨x', hx', rfl⟩ := hx
      rw [PV.wk_cells] at hcj
      simp only [List.getElem?_map, Option.map_eq_some_iff] at hcj
      obtain ⟨c', hc', rfl⟩ := hcj
      exact hc i x' j c' hx' hc'
    · simp only [List.getElem?_map, Option.map_eq_some_iff] at hx
      obtain ⟨x', hx', rfl⟩ := hx
      rw [PV.wk_cells] at hcj
      simp only [List.getElem?_map, Option.map_eq_some_iff] at hcj
      obtain ⟨c', hc', rfl⟩ := hcj
      exact ih i x' j c' hx' hc'
  | agg cs vs hl h1 h ih =>
    rw [PV.wk_agg]
    refine .agg _ vs (by simpa using hl) (fun j c hc => ?_) (fun j c v hc hv => ?_)
    · simp only [List.getElem?_map, Option.map_eq_some_iff] at hc
      obtain ⟨c', hc', rfl⟩ := hc
      rw [PV.wk_isAgg]; exact h1 j c' hc'
    · simp only [List.getElem?_map, Option.map_eq_some_iff] at hc
      obtain ⟨c', hc', rfl⟩ := hc
      exact ih j c' v hc' hv
  | gone v h => simp only [PV.wk]; exact .gone v h
  | ifc t p v h ih => simp only [PV.wk]; exact .ifc t p v h
  | nilifc => simp only [PV.wk]; exact .nilifc

def SV.wk : SV → SV
  | .pv f p => .pv f p.wk
  | s => s

theorem SatAt.wk {P : Program} {f : FuncId} {args args2 : List SV} {rows : List Row} {R : List SV → List Row → Prop} (e : args.map SV.wk = args2) (h : SatAt P f args2 rows R) : SatAt P f args rows R := by
  subst e
  intro C m vals hnb hA hv hs
  refine h C m vals hnb hA (by simpa using hv) { hs with env := fun t => ?_ }
  have := hs.env t
  show RS _ _ _ _ (look (enumE 0 (args.map SV.wk)) t) _
  change RS _ _ _ _ (look (enumE 0 args) t) _ at this
  rw [look_enumE] at this ⊢
  simp only [Nat.zero_le, if_true, Nat.sub_zero, List.getElem?_map] at this ⊢
  cases ht : args[t]? with
  | none => rw [ht] at this; simpa using this
  | some x =>
    rw [ht] at this
    simp only [Option.getD_some, Option.map_some] at this ⊢
    generalize vals.getD t undef = v at this ⊢
    cases this with
    | pv fr p v hp => exact .pv _ _ _ hp.wk
    | any v => exact .any v
    | val u => exact .val _
    | und => exact .und
    | ref id h => exact .ref id h
    | ptr id e i o b hid h => exact .ptr id e i o b hid h
    | adr fr cs a f hs hg h1 hc hr => exact .adr fr cs a f hs hg h1 hc hr
    | tup vs us hl h => exact .tup vs us hl h
    | ag vs us hl h h1 => exact .ag vs us hl h h1
    | sub id e l h c v hid hs => exact .sub id e l h c _ hid hs
end Go.Vl

/- '==' and '!=' on structs of three and four numbers. -/
namespace Go.Vl
set_option linter.unusedVariables false
set_option linter.unusedSimpArgs false
open Go.RowKit

/-- Structs of 3 numbers are compared number by number. -/
def EqI3 (P : Program) (T : TypeId) : Prop :=
  (∀ (x1 x2 x3 y1 y2 y3 : Int) (w : World), (Op.equalIn 10000 T (.agg #[.int .i64 x1, .int .i64 x2, .int .i64 x3]) (.agg #[.int .i64 y1, .int .i64 y2, .int .i64 y3])).run P w = .ok (x1 == y1 && x2 == y2 && x3 == y3) w) ∧ P.eqGuardType P.depth T = false

theorem RP.agg3 {w : World} {G : Nat → Prop} {a1 a2 a3 : Int} {v : Value} (h : RP w G (.agg [.int .i64 a1, .int .i64 a2, .int .i64 a3]) v) : v = .agg #[.int .i64 a1, .int .i64 a2, .int .i64 a3] := by
  cases h with
  | agg _ vs hl h1 h =>
    simp only [List.length_cons, List.length_nil] at hl
    have e0 : vs[0]? = some vs[0] := Array.getElem?_eq_getElem (by omega)
    have e1 : vs[1]? = some vs[1] := Array.getElem?_eq_getElem (by omega)
    have e2 : vs[2]? = some vs[2] := Array.getElem?_eq_getElem (by omega)
    have h10 := h 0 _ _ rfl e0
    have h11 := h 1 _ _ rfl e1
    have h12 := h 2 _ _ rfl e2
    have k0 : vs[0] = .int .i64 a1 := by generalize vs[0] = u at h10; cases h10; rfl
    have k1 : vs[1] = .int .i64 a2 := by generalize vs[1] = u at h11; cases h11; rfl
    have k2 : vs[2] = .int .i64 a3 := by generalize vs[2] = u at h12; cases h12; rfl
    congr 1
    apply Array.ext
    · simp; omega
    · intro i hi hi2
      match i, hi with
      | 0, _ => exact k0
      | 1, _ => exact k1
      | 2, _ => exact k2
      | i+3, hi => omega

section
variable {P : Program} {C : Ctx} {Q : Go.Exit → St → Prop} {s : St} {ops : Array Oper} {rest : List Oper} {t : Nat} {ty : TypeId} {pos : String} {af : Array Edge}

theorem lt_eqS3 {xt yt : TypeId} {x y : Operand} {a1 a2 a3 b1 b2 b3 : Int} {f1 f2 : Bool} (h : EqI3 P xt) (hx : getO s.env x = .pv f1 (.agg [.int .i64 a1, .int .i64 a2, .int .i64 a3])) (hy : getO s.env y = .pv f2 (.agg [.int .i64 b1, .int .i64 b2, .int .i64 b3])) :
    Lt P C s ⟨some t, .binOp .eql xt x y yt, ty, pos, af, none⟩ (.pv true (.bool (a1 == b1 && a2 == b2 && a3 == b3))) := by
  intro m a w hs
  have e1 := hs.get x
  rw [hx] at e1
  have e1 := e1.pv_inv.agg3
  have e2 := hs.get y
  rw [hy] at e2
  have e2 := e2.pv_inv.agg3
  refine ⟨_, fun w' _ => ?_, .pv _ _ _ (.bool _)⟩
  have hg : (eqGuard .eql xt x y (.agg #[.int .i64 a1, .int .i64 a2, .int .i64 a3]) (.agg #[.int .i64 b1, .int .i64 b2, .int .i64 b3])).run P w' = .ok () w' := run_eqGuard_agg w' .eql xt x y _ _ h.2
  have hb : (binOp .eql xt (.agg #[.int .i64 a1, .int .i64 a2, .int .i64 a3]) (.agg #[.int .i64 b1, .int .i64 b2, .int .i64 b3])).run P w' = .ok (.bool (a1 == b1 && a2 == b2 && a3 == b3)) w' := by
    rw [run_eql_struct, h.1]; rfl
  simp only [execOp, e1, e2, Sem.run_bind, hg, Result.andThen_ok, hb]
  rfl

theorem vo_eqS3 {xt yt : TypeId} {x y : Operand} {a1 a2 a3 b1 b2 b3 : Int} {f1 f2 : Bool} (h : EqI3 P xt) (ht : Nat.blt t s.n = true) (hx : getO s.env x = .pv f1 (.agg [.int .i64 a1, .int .i64 a2, .int .i64 a3])) (hy : getO s.env y = .pv f2 (.agg [.int .i64 b1, .int .i64 b2, .int .i64 b3]))
    (next : VO P C ops rest Q (s.put t (.pv true (.bool (a1 == b1 && a2 == b2 && a3 == b3))))) : VO P C ops (⟨some t, .binOp .eql xt x y yt, ty, pos, af, none⟩ :: rest) Q s :=
  vo_pure ht (lt_eqS3 h hx hy) next

theorem lt_neqS3 {xt yt : TypeId} {x y : Operand} {a1 a2 a3 b1 b2 b3 : Int} {f1 f2 : Bool} (h : EqI3 P xt) (hx : getO s.env x = .pv f1 (.agg [.int .i64 a1, .int .i64 a2, .int .i64 a3])) (hy : getO s.env y = .pv f2 (.agg [.int .i64 b1, .int .i64 b2, .int .i64 b3])) :
    Lt P C s ⟨some t, .binOp .neq xt x y yt, ty, pos, af, none⟩ (.pv true (.bool (!(a1 == b1 && a2 == b2 && a3 == b3)))) := by
  intro m a w hs
  have e1 := hs.get x
  rw [hx] at e1
  have e1 := e1.pv_inv.agg3
  have e2 := hs.get y
  rw [hy] at e2
  have e2 := e2.pv_inv.agg3
  refine ⟨_, fun w' _ => ?_, .pv _ _ _ (.bool _)⟩
  have hg : (eqGuard .neq xt x y (.agg #[.int .i64 a1, .int .i64 a2, .int .i64 a3]) (.agg #[.int .i64 b1, .int .i64 b2, .int .i64 b3])).run P w' = .ok () w' := run_eqGuard_agg w' .neq xt x y _ _ h.2
  have hb : (binOp .neq xt (.agg #[.int .i64 a1, .int .i64 a2, .int .i64 a3]) (.agg #[.int .i64 b1, .int .i64 b2, .int .i64 b3])).run P w' = .ok (.bool (!(a1 == b1 && a2 == b2 && a3 == b3))) w' := by
    rw [run_neq_struct, h.1]; rfl
  simp only [execOp, e1, e2, Sem.run_bind, hg, Result.andThen_ok, hb]
  rfl

theorem vo_neqS3 {xt yt : TypeId} {x y : Operand} {a1 a2 a3 b1 b2 b3 : Int} {f1 f2 : Bool} (h : EqI3 P xt) (ht : Nat.blt t s.n = true) (hx : getO s.env x = .pv f1 (.agg [.int .i64 a1, .int .i64 a2, .int .i64 a3])) (hy : getO s.env y = .pv f2 (.agg [.int .i64 b1, .int .i64 b2, .int .i64 b3]))
    (next : VO P C ops rest Q (s.put t (.pv true (.bool (!(a1 == b1 && a2 == b2 && a3 == b3)))))) : VO P C ops (⟨some t, .binOp .neq xt x y yt, ty, pos, af, none⟩ :: rest) Q s :=
  vo_pure ht (lt_neqS3 h hx hy) next
end

/-- Structs of 4 numbers are compared number by number. -/
def EqI4 (P : Program) (T : TypeId) : Prop :=
  (∀ (x1 x2 x3 x4 y1 y2 y3 y4 : Int) (w : World), (Op.equalIn 10000 T (.agg #[.int .i64 x1, .int .i64 x2, .int .i64 x3, .int .i64 x4]) (.agg #[.int .i64 y1, .int .i64 y2, .int .i64 y3, .int .i64 y4])).run P w = .ok (x1 == y1 && x2 == y2 && x3 == y3 && x4 == y4) w) ∧ P.eqGuardType P.depth T = false

section
variable {P : Program} {C : Ctx} {Q : Go.Exit → St → Prop} {s : St} {ops : Array Oper} {rest : List Oper} {t : Nat} {ty : TypeId} {pos : String} {af : Array Edge}

end
end Go.Vl

/- An operation that makes memory, under a guard; 'make' in a statement whose order of evaluation is open. -/
namespace Go.Vl
set_option linter.unusedVariables false
set_option linter.unusedSimpArgs false
open Go.RowKit
section
variable {late : List Nat} {P : Program} {C : Ctx} {ops : Array Oper} {K : St → Prop} {s s1 : St} {n : Nat} {listed : Array Bool}
end
section
variable {P : Program} {C : Ctx} {s : St} {t : Nat} {ty : TypeId} {pos : String} {af : Array Edge}
end
end Go.Vl

namespace Go.Vl
set_option linter.unusedVariables false
set_option linter.unusedSimpArgs false
open Go.Proofs

theorem Q31 : EqI3 Try.prog 31 := by
  refine ⟨fun x1 x2 x3 y1 y2 y3 w => ?_, by kernel_rfl⟩
  have hS : Try.prog.underlying 31 = some (.struct (Try.prog.fieldsOf 31)) := by kernel_rfl
  have hp : Try.prog.stoodInHeld 31 = false := by kernel_rfl
  have u3 := Try.underlying3
  have a3 := Try.isAgg3
  have z3 := Try.sizeOf3
  rw [show (10000 : Nat) = 9999 + 1 from rfl, run_equalIn_agg w 9999 31 _ _ hS hp]
  simp only [Program.fieldsOf, Try.underlying31]
  go_simp
  by_cases h0 : x1 = y1 <;> by_cases h1 : x2 = y2 <;> by_cases h2 : x3 = y3 <;> simp [h0, h1, h2]

theorem askOf_sat {nl : Option Bool} {c : List (Fin 256)} {p : Nat} (hc : c.length ≤ 2000) (hp : p < 980000) : SatAt Try.prog 47 [.ptr 0 0 0 0] [rdr nl c p] (fun res rows => ∃ (W : WorldM) (q : Nat) (f : Bool) (z y : Int), (medW W ∧ q ≤ p + 430) ∧ res = [.pv f (worldP W), i64 z, i64 y] ∧ rows = [rdr nl c q]) := by
  refine sat_entry_G (rs := [(2, some (27, 3)), (3, none), (4, none)]) Try.func47 rfl rfl (Nat.le_of_ble_eq_true rfl) (Nat.le_of_ble_eq_true rfl) (resTs3 ⟨_, _, Try.underlying27, rfl, inf27, sz27⟩ trivial trivial) fun C hC => ?_
  rw [Try.ntmps47]
  replace hC : C.nb = 1 := hC
  refine vc_seq fun K1 hK1 => ?_
  refine vc_region ?_
  refine vo_alloc Z27 rfl ?_
  refine vo_stM ?_
  refine vo_assign_pv rfl rfl ?_
  refine vo_assign_pv rfl rfl ?_
  refine vo_nil ?_
  refine hK1 _ ?_
  refine vc_seq fun K2 hK2 => ?_
  refine vc_region ?_
  refine vo_move_ptr rfl rfl ?_
  refine vo_call [0] Try.func98 rfl rfl rfl rfl rfl rfl rfl (anyWorld_sat hc (by omega)) ?_
  rintro _ _ ⟨W, q, f, ⟨hW, hq⟩, rfl, rfl⟩
  refine ⟨Nat.le_of_ble_eq_true rfl, ⟨rfl, rfl, rfl, rfl⟩, .inl rfl, ?_⟩
  refine vo_stM ?_
  have hW2 := hW
  obtain ⟨⟨hb1, hb2, hb3⟩, ⟨hb4, hb5⟩, hb6, hb7⟩ := hW2
  refine vo_alloc Z27 rfl ?_
  refine vo_stM ?_
  refine vo_store_varS rfl rfl rfl inf27 sz27 rfl ?_
  refine vo_stM ?_
  refine vo_nil ?_
  refine hK2 _ ?_
  refine vc_seq fun K3 hK3 => ?_
  refine vc_drawBD [22] [0, 1, 2, 3, 4, 5, 6, 7, 8, 9, 10, 11, 12, 13, 14, 15, 16, 17, 18, 19, 20, 21, 22, 23, 24] [0, 1, 2, 3, 4, 5, 6, 7, 8, 9, 10, 11, 12, 13, 14, 15, 16, 17, 18, 19, 20, 21, 22, 23, 24] (by kernel_rfl) (by kernel_rfl) (by kernel_rfl) (by kernel_rfl) ?_
  change VLB [22] _ _ _ 25 _ _ _
  refine vb_light 0 [1, 2, 3, 4, 5, 6, 7, 8, 9, 10, 11, 12, 13, 14, 15, 16, 17, 18, 19, 20, 21] rfl rfl rfl (by kernel_rfl) (by kernel_rfl) (by kernel_rfl) (by kernel_rfl) (by kernel_rfl) (wnt_none rfl) (lb_load_varS hC rfl rfl rfl rfl Try.underlying27 rfl inf27 sz27 rfl rfl) ?_
  refine vb_light0 1 rfl rfl rfl (by kernel_rfl) (by kernel_rfl) (by kernel_rfl) (wnt_none rfl) (l0_move_ptr rfl) ?_
  refine vb_light0 2 rfl rfl rfl (by kernel_rfl) (by kernel_rfl) (by kernel_rfl) (wnt_none rfl) (l0_fieldAddr_ptr rfl Try.underlying27 rfl inf23 (by rw [sz23]; decide)) ?_
  try simp only [Nat.zero_add]
  refine vb_light 3 [0, 1, 2, 6, 7, 8, 9, 10, 11, 12, 13, 14, 17, 18] rfl rfl rfl (by kernel_rfl) (by kernel_rfl) (by kernel_rfl) (by kernel_rfl) (by kernel_rfl) (wnt_none rfl) (lb_load_var hC rfl rfl rfl rfl Try.underlying23 rfl rfl) ?_
  refine vb_light0 4 rfl rfl rfl (by kernel_rfl) (by kernel_rfl) (by kernel_rfl) (wnt_none rfl) (l0_len_pv rfl Try.underlying23) ?_
  refine vb_light0 5 rfl rfl rfl (by kernel_rfl) (by kernel_rfl) (by kernel_rfl) (wnt_none rfl) (l0_binI rfl rfl rfl sd) ?_
  refine vb_light0 6 rfl rfl rfl (by kernel_rfl) (by kernel_rfl) (by kernel_rfl) (wnt_none rfl) (l0_move_ptr rfl) ?_
  refine vb_light0 7 rfl rfl rfl (by kernel_rfl) (by kernel_rfl) (by kernel_rfl) (wnt_none rfl) (l0_fieldAddr_ptr rfl Try.underlying27 rfl inf23 (by rw [sz23]; decide)) ?_
  try simp only [Nat.zero_add]
  refine vb_light 8 [0, 1, 2, 3, 4, 5, 6, 7, 11, 12, 13, 14, 17, 18] rfl rfl rfl (by kernel_rfl) (by kernel_rfl) (by kernel_rfl) (by kernel_rfl) (by kernel_rfl) (wnt_none rfl) (lb_load_var hC rfl rfl rfl rfl Try.underlying23 rfl rfl) ?_
  refine vb_light0 9 rfl rfl rfl (by kernel_rfl) (by kernel_rfl) (by kernel_rfl) (wnt_none rfl) (l0_len_pv rfl Try.underlying23) ?_
  refine vb_light0 11 rfl rfl rfl (by kernel_rfl) (by kernel_rfl) (by kernel_rfl) (wnt_none rfl) (l0_fieldAddr_ptr rfl Try.underlying27 rfl inf23 (by rw [sz23]; decide)) ?_
  try simp only [Nat.zero_add]
  refine vb_light 12 [0, 1, 2, 3, 4, 5, 6, 7, 8, 9, 10, 11, 17, 18] rfl rfl rfl (by kernel_rfl) (by kernel_rfl) (by kernel_rfl) (by kernel_rfl) (by kernel_rfl) (wnt_none rfl) (lb_load_var hC rfl rfl rfl rfl Try.underlying23 rfl rfl) ?_
  refine vb_light0 13 rfl rfl rfl (by kernel_rfl) (by kernel_rfl) (by kernel_rfl) (wnt_none rfl) (l0_len_pv rfl Try.underlying23) ?_
  refine vb_light0 14 rfl rfl rfl (by kernel_rfl) (by kernel_rfl) (by kernel_rfl) (wnt_none rfl) (l0_binI rfl rfl rfl sd) ?_
  refine vb_light0 17 rfl rfl rfl (by kernel_rfl) (by kernel_rfl) (by kernel_rfl) (wnt_none rfl) (l0_move_ptr rfl) ?_
  refine vb_light0 18 rfl rfl rfl (by kernel_rfl) (by kernel_rfl) (by kernel_rfl) (wnt_none rfl) (l0_move_ptr rfl) ?_
  refine vb_any1 10 (by kernel_rfl) ?_
  refine sb_call 10 [0] hC rfl rfl (wnt_none rfl) Try.func72 rfl rfl rfl rfl rfl rfl rfl (pick_sat hc (by omega)) ?_
  rintro _ _ ⟨x18, ⟨hx180, hx181⟩, rfl, rfl⟩
  refine ⟨Nat.le_of_ble_eq_true rfl, ⟨rfl, rfl, rfl, rfl⟩, .inl rfl, ?_⟩
  refine vb_stM ?_
  refine vb_ext 15 rfl (by kernel_rfl) rfl (xt_buildSlice E34 rfl rfl rfl rfl) ?_
  refine vb_stM ?_
  refine vb_expose 3 (by omega) rfl ?_
  refine vb_stM ?_
  refine vb_weaken 23 rfl ?_
  refine vb_stM ?_
  refine vb_any1 16 (by kernel_rfl) ?_
  refine sb_call 16 [0] hC rfl rfl (wnt_none rfl) Try.func99 rfl rfl rfl rfl rfl rfl rfl (one_sat (list := [_,_,_,_,_]) hc (by omega) (by simp) (by simp)) ?_
  rintro _ _ ⟨y24, hy24, rfl, rfl⟩
  refine ⟨Nat.le_of_ble_eq_true rfl, ⟨rfl, rfl, rfl, rfl⟩, .inl rfl, ?_⟩
  refine vb_stM ?_
  refine vb_any1 19 (by kernel_rfl) ?_
  refine sb_call 19 [0] hC rfl rfl (wnt_none rfl) Try.func72 rfl rfl rfl rfl rfl rfl rfl (pick_sat hc (by omega)) ?_
  rintro _ _ ⟨x27, ⟨hx270, hx271⟩, rfl, rfl⟩
  refine ⟨Nat.le_of_ble_eq_true rfl, ⟨rfl, rfl, rfl, rfl⟩, .inl rfl, ?_⟩
  refine vb_stM ?_
  refine vb_ext 20 rfl (by kernel_rfl) rfl (xt_buildSlice E34 rfl rfl rfl rfl) ?_
  refine vb_stM ?_
  refine vb_expose 4 (by omega) rfl ?_
  refine vb_stM ?_
  refine vb_weaken 28 rfl ?_
  refine vb_stM ?_
  refine vb_any1 21 (by kernel_rfl) ?_
  refine sb_call 21 [0] hC rfl rfl (wnt_none rfl) Try.func99 rfl rfl rfl rfl rfl rfl rfl (one_sat (list := [_,_,_,_,_,_,_]) hc (by omega) (by simp) (by simp)) ?_
  rintro _ _ ⟨y29, hy29, rfl, rfl⟩
  refine ⟨Nat.le_of_ble_eq_true rfl, ⟨rfl, rfl, rfl, rfl⟩, .inl rfl, ?_⟩
  refine vb_stM ?_
  refine vb_one 22 rfl (by kernel_rfl) rfl ?_
  refine vo_store_varS rfl rfl rfl inf27 sz27 rfl ?_
  refine vo_stM ?_
  refine vo_done ⟨rfl, ?_⟩
  refine vb_light0 23 rfl rfl rfl (by kernel_rfl) (by kernel_rfl) (by kernel_rfl) (wnt_none rfl) (l0_assign_pv rfl) ?_
  refine vb_light0 24 rfl rfl rfl (by kernel_rfl) (by kernel_rfl) (by kernel_rfl) (wnt_none rfl) (l0_assign_pv rfl) ?_
  refine vb_nil (by kernel_rfl) ?_
  refine hK3 _ ?_
  refine vc_ret ?_
  change retQ _ _ _ _ _
  refine retQ_sel [] (srows := []) (.inr rfl) hC rfl rfl rfl rfl rfl rfl rfl ?_
  exact ⟨W, _, _, _, _, ⟨hW, by omega⟩, rfl, rfl⟩


theorem DrawFindIn_sat {nl : Option Bool} {c : List (Fin 256)} (hl : c.length < 1000000000) : SatAt Try.prog 13 [.pv false (.sl nl 1 (c.map byteP))] [] (fun res rows => ∃ (W : WorldM) (f : Bool) (z y : Int), medW W ∧ res = [.pv f (worldP W), i64 z, i64 y] ∧ rows = []) := by
  refine sat_entry_G (rs := [(2, some (27, 3)), (3, none), (4, none)]) Try.func13 rfl rfl (Nat.le_of_ble_eq_true rfl) (Nat.le_of_ble_eq_true rfl) (resTs3 ⟨_, _, Try.underlying27, rfl, inf27, sz27⟩ trivial trivial) fun C hC => ?_
  rw [Try.ntmps13]
  replace hC : C.nb = 0 := hC
  refine vc_seq fun K1 hK1 => ?_
  refine vc_region ?_
  refine vo_alloc Z27 rfl ?_
  refine vo_stM ?_
  refine vo_assign_pv rfl rfl ?_
  refine vo_assign_pv rfl rfl ?_
  refine vo_nil ?_
  refine hK1 _ ?_
  refine vc_seq fun K2 hK2 => ?_
  refine vc_region ?_
  refine vo_move_pv rfl rfl ?_
  refine vo_call [] Try.func48 rfl rfl rfl rfl rfl rfl rfl (newReader_sat (by omega)) ?_
  rintro _ _ ⟨nl2, c2, hc, rfl, rfl⟩
  refine ⟨Nat.le_of_ble_eq_true rfl, ⟨rfl, rfl, rfl, rfl⟩, .inl rfl, ?_⟩
  refine vo_stM ?_
  refine vo_call [1] Try.func47 rfl rfl rfl rfl rfl rfl rfl (askOf_sat hc (by omega)) ?_
  rintro _ _ ⟨W, q, f, z, y, ⟨hW, hq⟩, rfl, rfl⟩
  refine ⟨Nat.le_of_ble_eq_true rfl, ⟨rfl, rfl, rfl, rfl⟩, .inl rfl, ?_⟩
  refine vo_stM ?_
  refine vo_extract rfl rfl rfl ?_
  refine vo_extract rfl rfl rfl ?_
  refine vo_extract rfl rfl rfl ?_
  refine vo_store_varS rfl rfl rfl inf27 sz27 rfl ?_
  refine vo_stM ?_
  refine vo_assign_pv rfl rfl ?_
  refine vo_assign_pv rfl rfl ?_
  refine vo_nil ?_
  refine hK2 _ ?_
  refine vc_ret ?_
  change retQ _ _ _ _ _
  refine retQ_sel [] (srows := []) (.inr rfl) hC rfl rfl rfl rfl rfl rfl rfl ?_
  exact ⟨W, _, z, y, hW, rfl, rfl⟩

end Go.Vl

namespace Go.Vl
set_option linter.unusedVariables false
set_option linter.unusedSimpArgs false
open Go.Proofs

end Go.Vl

namespace Go.Vl
set_option linter.unusedVariables false
set_option linter.unusedSimpArgs false
open Go.Proofs

end Go.Vl

namespace Go.Vl
set_option linter.unusedVariables false
set_option linter.unusedSimpArgs false
open Go.Proofs

end Go.Vl

namespace Go.Vl
set_option linter.unusedVariables false
set_option linter.unusedSimpArgs false
open Go.Proofs
end Go.Vl

namespace Go.Vl
set_option linter.unusedVariables false
set_option linter.unusedSimpArgs false
open Go.Proofs
theorem merge_sub : ∀ (n : Nat) (ls : List (List Int)), hds (mergeF n ls).2 = [] → ∀ l ∈ ls, l.Sublist (mergeF n ls).1
  | 0, ls, h, l, hl => by rw [hds_nil.1 h l hl]; exact List.nil_sublist _
  | n+1, ls, h, l, hl => by
    unfold mergeF at h ⊢
    split at h
    · rename_i e
      simp only [e]
      rw [hds_nil.1 h l hl]; exact List.nil_sublist _
    · rename_i x e
      simp only [e]
      have h1 := merge_sub n (ls.map (tk x)) h (tk x l) (List.mem_map_of_mem hl)
      by_cases h2 : 0 < l.length ∧ l.getD 0 0 = x
      · rw [tk_t h2.1 h2.2] at h1
        cases l with
        | nil => exact List.nil_sublist _
        | cons y l =>
          have : y = x := h2.2
          rw [this]
          exact List.Sublist.cons_cons x h1
      · rw [tk_f h2] at h1
        exact List.Sublist.cons x h1
theorem ordM_ne {b : List (List Int)} {c : Nat} (h : ordM b c ≠ []) : (∀ x ∈ b.getD c [], (ordT b c).getD x.toNat [] ≠ []) ∧ hds (mergeM (ordL (ordT b c) (b.getD c []) ++ [b.getD c []])).2 = [] ∧ ordM b c = (c : Int) :: (mergeM (ordL (ordT b c) (b.getD c []) ++ [b.getD c []])).1 := by
  have h1 : ∀ x ∈ b.getD c [], (ordT b c).getD x.toNat [] ≠ [] := by
    intro x hx e
    apply h
    unfold ordM ordS
    rw [if_pos ⟨x, hx, e⟩]
  by_cases h2 : hds (mergeM (ordL (ordT b c) (b.getD c []) ++ [b.getD c []])).2 = []
  · exact ⟨h1, h2, by rw [ordM_go h1, if_pos h2]⟩
  · exact (h (by rw [ordM_go h1, if_neg h2])).elim
theorem ordM_sub {b : List (List Int)} (hv : VB b) : ∀ c, c < b.length → ∀ y ∈ ordM b c, ordM b y.toNat ≠ [] ∧ (ordM b y.toNat).Sublist (ordM b c) ∧ (b.getD y.toNat []).Sublist (ordM b c) := by
  intro c
  induction c using Nat.strongRecOn with
  | ind c ih =>
    intro hc y hy
    have hne : ordM b c ≠ [] := fun e => by rw [e] at hy; cases hy
    obtain ⟨h1, h2, h3⟩ := ordM_ne hne
    have hsub := merge_sub _ _ h2
    have hbase : ∀ x ∈ b.getD c [], ordM b x.toNat ≠ [] ∧ (ordM b x.toNat).Sublist (ordM b c) ∧ x.toNat < c := by
      intro x hx
      have hb := (hv.at hc).2.2 x hx
      have e := ordT_at hv hc hx
      refine ⟨by rw [← e]; exact h1 x hx, ?_, by omega⟩
      rw [h3]
      refine .cons _ (hsub _ (List.mem_append_left _ (List.mem_map.2 ⟨x, hx, e⟩)))
    have hin : ∀ x ∈ b.getD c [], y ∈ ordM b x.toNat → ordM b y.toNat ≠ [] ∧ (ordM b y.toNat).Sublist (ordM b c) ∧ (b.getD y.toNat []).Sublist (ordM b c) := by
      intro x hx hm
      obtain ⟨g1, g2, g3⟩ := hbase x hx
      obtain ⟨k1, k2, k3⟩ := ih x.toNat g3 (by omega) y hm
      exact ⟨k1, k2.trans g2, k3.trans g2⟩
    rw [h3] at hy
    rcases List.mem_cons.1 hy with e | hm
    · subst e
      refine ⟨hne, List.Sublist.refl _, ?_⟩
      show (b.getD c []).Sublist _
      rw [h3]
      exact .cons _ (hsub _ (List.mem_append_right _ (List.mem_singleton.2 rfl)))
    · obtain ⟨l, hl, hyl⟩ := mergeF_mem _ _ _ hm
      rcases List.mem_append.1 hl with h4 | h4
      · obtain ⟨x, hx, rfl⟩ := List.mem_map.1 h4
        rw [ordT_at hv hc hx] at hyl
        exact hin x hx hyl
      · rw [List.mem_singleton.1 h4] at hyl
        obtain ⟨g1, g2, g3⟩ := hbase y hyl
        have hb := (hv.at hc).2.2 y hyl
        refine hin y hyl ?_
        rw [(ordM_ne g1).2.2]
        rw [show ((y.toNat : Nat) : Int) = y by omega]
        exact List.mem_cons_self
end Go.Vl

namespace Go.Vl
set_option linter.unusedVariables false
set_option linter.unusedSimpArgs false
open Go.Proofs

theorem ord_base {b : List (List Int)} (hv : VB b) {c : Nat} (hc : c < b.length) : (∀ x ∈ b.getD c [], ordM b c ≠ [] → (ordM b x.toNat).Sublist (ordM b c)) ∧ ∀ y ∈ ordM b c, y ≠ c → ∃ x ∈ b.getD c [], y ∈ ordM b x.toNat := by
  constructor
  · intro x hx hne
    have hcm : (c : Int) ∈ ordM b c := by rw [(ordM_ne hne).2.2]; exact List.mem_cons_self
    have h1 := (ordM_sub hv c hc _ hcm).2.2
    rw [Int.toNat_natCast] at h1
    exact (ordM_sub hv c hc x (h1.subset hx)).2.1
  · intro y hy hne
    have h0 : ordM b c ≠ [] := fun e => by rw [e] at hy; cases hy
    obtain ⟨h1, h2, h3⟩ := ordM_ne h0
    rw [h3] at hy
    rcases List.mem_cons.1 hy with e | hm
    · exact absurd e hne
    · obtain ⟨l, hl, hyl⟩ := mergeF_mem _ _ _ hm
      rcases List.mem_append.1 hl with h4 | h4
      · obtain ⟨x, hx, rfl⟩ := List.mem_map.1 h4
        rw [ordT_at hv hc hx] at hyl
        exact ⟨x, hx, hyl⟩
      · rw [List.mem_singleton.1 h4] at hyl
        have hb := (hv.at hc).2.2 y hyl
        have e := ordT_at hv hc hyl
        have g1 : ordM b y.toNat ≠ [] := by rw [← e]; exact h1 y hyl
        refine ⟨y, hyl, ?_⟩
        rw [(ordM_ne g1).2.2, show ((y.toNat : Nat) : Int) = y by omega]
        exact List.mem_cons_self
theorem fnd_own {A : List (List AttrM)} {name : Int} : ∀ {o : List Int}, 0 ≤ (fnd A name o).1 → 0 ≤ findM name (anms (A.getD (fnd A name o).1.toNat [])) 0 ∧ (fnd A name o).1 ∈ o
  | [], h => by simp [fnd] at h
  | x :: r, h => by
    unfold fnd at h ⊢
    split
    · rename_i hp; exact ⟨hp, by simp⟩
    · rename_i hp
      rw [if_neg hp] at h
      have := fnd_own (o := r) h
      exact ⟨this.1, List.mem_cons_of_mem _ this.2⟩
theorem fnd_sub {A : List (List AttrM)} {name : Int} {s o : List Int} (h : s.Sublist o) : o.Nodup → 0 ≤ (fnd A name o).1 → (fnd A name o).1 ∈ s → fnd A name s = fnd A name o := by
  induction h with
  | slnil => intros; rfl
  | @cons s o a h ih =>
    intro hn h0 hm
    rw [List.nodup_cons] at hn
    unfold fnd at h0 hm ⊢
    by_cases hp : 0 ≤ findM name (anms (A.getD a.toNat [])) 0
    · rw [if_pos hp] at hm
      exact absurd (h.subset hm) hn.1
    · rw [if_neg hp] at h0 hm ⊢
      rw [← ih hn.2 h0 hm]
      cases s <;> rfl
  | @cons_cons s o a h ih =>
    intro hn h0 hm
    rw [List.nodup_cons] at hn
    unfold fnd at h0 hm ⊢
    by_cases hp : 0 ≤ findM name (anms (A.getD a.toNat [])) 0
    · rw [if_pos hp, if_pos hp]
    · rw [if_neg hp] at h0 hm ⊢
      rw [if_neg hp]
      refine ih hn.2 h0 ?_
      rcases List.mem_cons.1 hm with e | e
      · have := (fnd_own h0).1
        rw [e] at this
        exact absurd this hp
      · exact e
theorem fndM_in {w : WorldM} {c name : Int} (h : 0 ≤ (fndM w c name).1) : (VWorld w ∧ 0 ≤ c ∧ c ≤ (w.bases.length : Int) - 1) ∧ fndM w c name = fnd w.attrs name (ordM w.bases c.toNat) := by
  unfold fndM at h ⊢
  split
  · rename_i hv; exact ⟨hv, rfl⟩
  · rename_i hv; rw [if_neg hv] at h; exact absurd h (by decide)
theorem find_base {w : WorldM} {c name : Int} (h : 0 ≤ (fndM w c name).1) (hne : (fndM w c name).1 ≠ c) : ∃ k, k < (w.bases.getD c.toNat []).length ∧ fndM w ((w.bases.getD c.toNat []).getD k 0) name = fndM w c name := by
  obtain ⟨⟨hv, h0, h1⟩, e⟩ := fndM_in h
  have hvb := hv.1.1
  have hc : c.toNat < w.bases.length := by omega
  rw [e] at h hne ⊢
  have hm := (fnd_own h).2
  obtain ⟨g1, g2⟩ := ord_base hvb hc
  obtain ⟨x, hx, hxm⟩ := g2 _ hm (by omega)
  have hne2 : ordM w.bases c.toNat ≠ [] := fun e => by rw [e] at hm; cases hm
  obtain ⟨k, hk, ek⟩ := List.getElem_of_mem hx
  refine ⟨k, hk, ?_⟩
  have e2 : (w.bases.getD c.toNat []).getD k 0 = x := by rw [List.getD_eq_getElem?_getD, List.getElem?_eq_getElem hk]; exact ek
  rw [e2]
  have hb := (hvb.at hc).2.2 x hx
  have e3 : fndM w x name = fnd w.attrs name (ordM w.bases x.toNat) := by unfold fndM; rw [if_pos ⟨hv, hb.1, by omega⟩]
  rw [e3]
  exact fnd_sub (g1 x hx hne2) (ordM_ok hvb _ hc).1 h hxm

end Go.Vl

namespace Go.Vl
set_option linter.unusedVariables false
set_option linter.unusedSimpArgs false
open Go.Proofs

end Go.Vl

namespace Go.Vl
set_option linter.unusedVariables false
set_option linter.unusedSimpArgs false
open Go.Proofs

theorem FnFindInBase_sat {nl : Option Bool} {code : List (Fin 256)} : SatAt Try.prog 3 [.pv false (.sl nl 1 (code.map byteP))] [] (fun res rows => res = [bo true] ∧ rows = []) := by
  refine sat_entry_G (rs := [(2, none)]) Try.func3 rfl rfl (Nat.le_of_ble_eq_true rfl) (Nat.le_of_ble_eq_true rfl) (resTs1 trivial) fun C hC => ?_
  rw [Try.ntmps3]
  replace hC : C.nb = 0 := hC
  refine vc_seq fun K1 hK1 => ?_
  refine vc_region ?_
  refine vo_assign_pv rfl rfl ?_
  refine vo_nil ?_
  refine hK1 _ ?_
  refine vc_seq fun K2 hK2 => ?_
  refine vc_seq fun K3 hK3 => ?_
  refine vc_region ?_
  refine vo_move_pv rfl rfl ?_
  refine vo_len_pv rfl rfl Try.underlying22 ?_
  refine vo_binI rfl rfl rfl rfl trivial ?_
  refine vo_nil ?_
  refine hK3 _ ?_
  refine vc_cond rfl (fun hc1 => ?_) (fun hc1 => ?_)
  · try simp only [zq0, zq1, zq2, zq3, zq4, zq5, zq6, zq7, zq8, zq9, zqa, zqb, zqc, zqd, zqe, zqf] at hc1
    refine vc_seq fun K4 hK4 => ?_
    refine vc_region ?_
    refine vo_assign_pv rfl rfl ?_
    refine vo_nil ?_
    refine hK4 _ ?_
    refine vc_ret ?_
    change retQ _ _ _ _ _
    refine retQ_sel [] (srows := []) (.inr rfl) hC rfl rfl rfl rfl rfl rfl rfl ?_
    first | exact ⟨rfl, rfl⟩ | exact absurd he9 (hj k9 (by omega)) | (exfalso; simp_all; done) | (refine ⟨(congrArg (fun b => [bo b]) (?_ : _ = true) : [bo _] = [bo true]), rfl⟩; first | simp_all | (simp; omega))
  · try simp only [zq0, zq1, zq2, zq3, zq4, zq5, zq6, zq7, zq8, zq9, zqa, zqb, zqc, zqd, zqe, zqf] at hc1
    refine vc_skip ?_
    refine hK2 _ ?_
    refine vc_seq fun K5 hK5 => ?_
    refine vc_region ?_
    refine vo_move_pv rfl rfl ?_
    refine vo_call0 Try.func13 rfl rfl rfl rfl (DrawFindIn_sat (by omega)) ?_
    rintro _ _ ⟨W, f, z, y, hW, rfl, rfl⟩
    refine ⟨rfl, rfl, .inl rfl, ?_⟩
    refine vo_stM ?_
    have hW2 := hW
    obtain ⟨⟨hb1, hb2, hb3⟩, ⟨hb4, hb5⟩, hb6, hb7⟩ := hW2
    refine vo_move rfl ?_
    refine vo_stM ?_
    refine vo_extract rfl rfl rfl ?_
    refine vo_extract rfl rfl rfl ?_
    refine vo_extract rfl rfl rfl ?_
    refine vo_alloc Z27 rfl ?_
    refine vo_stM ?_
    refine vo_store_varS rfl rfl rfl inf27 sz27 rfl ?_
    refine vo_stM ?_
    refine vo_assign_pv rfl rfl ?_
    refine vo_assign_pv rfl rfl ?_
    refine vo_nil ?_
    refine hK5 _ ?_
    refine vc_seq fun K6 hK6 => ?_
    refine vc_region ?_
    refine vo_load_varS rfl rfl rfl Try.underlying27 rfl inf27 sz27 rfl rfl ?_
    refine vo_move_pv rfl rfl ?_
    refine vo_move_pv rfl rfl ?_
    refine vo_call0 Try.func14 rfl rfl rfl rfl (implFindIn_sat hW.sw) ?_
    rintro _ _ ⟨rfl, rfl⟩
    refine ⟨rfl, rfl, .inl rfl, ?_⟩
    refine vo_stM ?_
    refine vo_move rfl ?_
    refine vo_stM ?_
    refine vo_extract rfl rfl rfl ?_
    refine vo_extract rfl rfl rfl ?_
    refine vo_alloc Z31 rfl ?_
    refine vo_stM ?_
    refine vo_assign_pv rfl rfl ?_
    refine vo_store_varS rfl rfl rfl inf31 sz31 rfl ?_
    refine vo_stM ?_
    refine vo_nil ?_
    refine hK6 _ ?_
    refine vc_seq fun K7 hK7 => ?_
    refine vc_region ?_
    refine vo_load_varS rfl rfl rfl Try.underlying27 rfl inf27 sz27 rfl rfl ?_
    refine vo_move_pv rfl rfl ?_
    refine vo_move_pv rfl rfl ?_
    refine vo_call0 Try.func15 rfl rfl rfl rfl (specFindIn_sat hW.sw) ?_
    rintro _ _ ⟨rfl, rfl⟩
    refine ⟨rfl, rfl, .inl rfl, ?_⟩
    refine vo_stM ?_
    refine vo_move rfl ?_
    refine vo_stM ?_
    refine vo_extract rfl rfl rfl ?_
    refine vo_extract rfl rfl rfl ?_
    refine vo_alloc Z31 rfl ?_
    refine vo_stM ?_
    refine vo_assign_pv rfl rfl ?_
    refine vo_store_varS rfl rfl rfl inf31 sz31 rfl ?_
    refine vo_stM ?_
    refine vo_nil ?_
    refine hK7 _ ?_
    refine vc_seq fun K8 hK8 => ?_
    refine vc_seq fun K9 hK9 => ?_
    refine vc_region ?_
    refine vo_move_pv rfl rfl ?_
    refine vo_move_pv rfl rfl ?_
    refine vo_binI rfl rfl rfl rfl trivial ?_
    refine vo_move_pv rfl rfl ?_
    refine vo_split 39 rfl (fun hg2 => ?_) (fun hg2 => ?_)
    · try simp only [zq0, zq1, zq2, zq3, zq4, zq5, zq6, zq7, zq8, zq9, zqa, zqb, zqc, zqd, zqe, zqf] at hg2
      refine vo_guard_off rfl rfl rfl rfl rfl ?_
      refine vo_guard_off rfl rfl rfl rfl rfl ?_
      refine vo_guard_off rfl rfl rfl rfl rfl ?_
      refine vo_pick_t rfl rfl ?_
      refine vo_move_pv rfl rfl ?_
      refine vo_guard_off rfl rfl rfl rfl rfl ?_
      refine vo_guard_off rfl rfl rfl rfl rfl ?_
      refine vo_pick_t rfl rfl ?_
      refine vo_move_pv rfl rfl ?_
      refine vo_guard_off rfl rfl rfl rfl rfl ?_
      refine vo_guard_off rfl rfl rfl rfl rfl ?_
      refine vo_guard_off rfl rfl rfl rfl rfl ?_
      refine vo_pick_t rfl rfl ?_
      refine vo_nil ?_
      refine hK9 _ ?_
      refine vc_cond_t rfl ?_
      refine vc_seq fun K10 hK10 => ?_
      refine vc_region ?_
      refine vo_move_pv rfl rfl ?_
      refine vo_move_pv rfl rfl ?_
      refine vo_binI rfl rfl rfl rfl trivial ?_
      refine vo_move_pv rfl rfl ?_
      refine vo_split 56 rfl (fun hg3 => ?_) (fun hg3 => ?_)
      · try simp only [zq0, zq1, zq2, zq3, zq4, zq5, zq6, zq7, zq8, zq9, zqa, zqb, zqc, zqd, zqe, zqf] at hg3
        refine vo_guard_on rfl rfl rfl ?_
        refine vo_load_varS rfl rfl rfl Try.underlying31 rfl inf31 sz31 rfl rfl ?_
        refine vo_guard_on rfl rfl rfl ?_
        refine vo_load_varS rfl rfl rfl Try.underlying31 rfl inf31 sz31 rfl rfl ?_
        refine vo_guard_on rfl rfl rfl ?_
        refine vo_eqS3 Q31 rfl rfl rfl ?_
        refine vo_pick_t rfl rfl ?_
        refine vo_assign_pv rfl rfl ?_
        refine vo_nil ?_
        refine hK10 _ ?_
        refine vc_ret ?_
        change retQ _ _ _ _ _
        refine retQ_sel [] (srows := []) (.inr rfl) hC rfl rfl rfl rfl rfl rfl rfl ?_
        first | exact ⟨rfl, rfl⟩ | exact absurd he9 (hj k9 (by omega)) | (exfalso; simp_all; done) | (refine ⟨(congrArg (fun b => [bo b]) (?_ : _ = true) : [bo _] = [bo true]), rfl⟩; first | simp_all | (simp; omega))
      · try simp only [zq0, zq1, zq2, zq3, zq4, zq5, zq6, zq7, zq8, zq9, zqa, zqb, zqc, zqd, zqe, zqf] at hg3
        refine vo_guard_off rfl rfl rfl rfl rfl ?_
        refine vo_guard_off rfl rfl rfl rfl rfl ?_
        refine vo_guard_off rfl rfl rfl rfl rfl ?_
        refine vo_pick_f rfl rfl ?_
        refine vo_assign_pv rfl rfl ?_
        refine vo_nil ?_
        refine hK10 _ ?_
        refine vc_ret ?_
        change retQ _ _ _ _ _
        refine retQ_sel [] (srows := []) (.inr rfl) hC rfl rfl rfl rfl rfl rfl rfl ?_
        first | exact ⟨rfl, rfl⟩ | exact absurd he9 (hj k9 (by omega)) | (exfalso; simp_all; done) | (refine ⟨(congrArg (fun b => [bo b]) (?_ : _ = true) : [bo _] = [bo true]), rfl⟩; first | simp_all | (simp; omega))
    · try simp only [zq0, zq1, zq2, zq3, zq4, zq5, zq6, zq7, zq8, zq9, zqa, zqb, zqc, zqd, zqe, zqf] at hg2
      refine vo_guard_on rfl rfl rfl ?_
      refine vo_load_varS rfl rfl rfl Try.underlying31 rfl inf31 sz31 rfl rfl ?_
      refine vo_guard_on rfl rfl rfl ?_
      refine vo_load_varS rfl rfl rfl Try.underlying31 rfl inf31 sz31 rfl rfl ?_
      refine vo_guard_on rfl rfl rfl ?_
      refine vo_neqS3 Q31 rfl rfl rfl ?_
      refine vo_pick_f rfl rfl ?_
      refine vo_move_pv rfl rfl ?_
      refine vo_split 44 rfl (fun hg4 => ?_) (fun hg4 => ?_)
      · try simp only [zq0, zq1, zq2, zq3, zq4, zq5, zq6, zq7, zq8, zq9, zqa, zqb, zqc, zqd, zqe, zqf] at hg4
        refine vo_guard_off rfl rfl rfl rfl rfl ?_
        refine vo_guard_off rfl rfl rfl rfl rfl ?_
        refine vo_pick_t rfl rfl ?_
        refine vo_move_pv rfl rfl ?_
        refine vo_guard_off rfl rfl rfl rfl rfl ?_
        refine vo_guard_off rfl rfl rfl rfl rfl ?_
        refine vo_guard_off rfl rfl rfl rfl rfl ?_
        refine vo_pick_t rfl rfl ?_
        refine vo_nil ?_
        refine hK9 _ ?_
        refine vc_cond_t rfl ?_
        refine vc_seq fun K11 hK11 => ?_
        refine vc_region ?_
        refine vo_move_pv rfl rfl ?_
        refine vo_move_pv rfl rfl ?_
        refine vo_binI rfl rfl rfl rfl trivial ?_
        refine vo_move_pv rfl rfl ?_
        refine vo_split 56 rfl (fun hg5 => ?_) (fun hg5 => ?_)
        · try simp only [zq0, zq1, zq2, zq3, zq4, zq5, zq6, zq7, zq8, zq9, zqa, zqb, zqc, zqd, zqe, zqf] at hg5
          refine vo_guard_on rfl rfl rfl ?_
          refine vo_load_varS rfl rfl rfl Try.underlying31 rfl inf31 sz31 rfl rfl ?_
          refine vo_guard_on rfl rfl rfl ?_
          refine vo_load_varS rfl rfl rfl Try.underlying31 rfl inf31 sz31 rfl rfl ?_
          refine vo_guard_on rfl rfl rfl ?_
          refine vo_eqS3 Q31 rfl rfl rfl ?_
          refine vo_pick_t rfl rfl ?_
          refine vo_assign_pv rfl rfl ?_
          refine vo_nil ?_
          refine hK11 _ ?_
          refine vc_ret ?_
          change retQ _ _ _ _ _
          refine retQ_sel [] (srows := []) (.inr rfl) hC rfl rfl rfl rfl rfl rfl rfl ?_
          first | exact ⟨rfl, rfl⟩ | exact absurd he9 (hj k9 (by omega)) | (exfalso; simp_all; done) | (refine ⟨(congrArg (fun b => [bo b]) (?_ : _ = true) : [bo _] = [bo true]), rfl⟩; first | simp_all | (simp; omega))
        · try simp only [zq0, zq1, zq2, zq3, zq4, zq5, zq6, zq7, zq8, zq9, zqa, zqb, zqc, zqd, zqe, zqf] at hg5
          refine vo_guard_off rfl rfl rfl rfl rfl ?_
          refine vo_guard_off rfl rfl rfl rfl rfl ?_
          refine vo_guard_off rfl rfl rfl rfl rfl ?_
          refine vo_pick_f rfl rfl ?_
          refine vo_assign_pv rfl rfl ?_
          refine vo_nil ?_
          refine hK11 _ ?_
          refine vc_ret ?_
          change retQ _ _ _ _ _
          refine retQ_sel [] (srows := []) (.inr rfl) hC rfl rfl rfl rfl rfl rfl rfl ?_
          first | exact ⟨rfl, rfl⟩ | exact absurd he9 (hj k9 (by omega)) | (exfalso; simp_all; done) | (refine ⟨(congrArg (fun b => [bo b]) (?_ : _ = true) : [bo _] = [bo true]), rfl⟩; first | simp_all | (simp; omega))
      · try simp only [zq0, zq1, zq2, zq3, zq4, zq5, zq6, zq7, zq8, zq9, zqa, zqb, zqc, zqd, zqe, zqf] at hg4
        refine vo_guard_on rfl rfl rfl ?_
        refine vo_move_pv rfl rfl ?_
        refine vo_guard_on rfl rfl rfl ?_
        refine vo_binI rfl rfl rfl rfl trivial ?_
        refine vo_pick_f rfl rfl ?_
        refine vo_move_pv rfl rfl ?_
        refine vo_split 48 rfl (fun hg6 => ?_) (fun hg6 => ?_)
        · try simp only [zq0, zq1, zq2, zq3, zq4, zq5, zq6, zq7, zq8, zq9, zqa, zqb, zqc, zqd, zqe, zqf] at hg6
          refine vo_guard_off rfl rfl rfl rfl rfl ?_
          refine vo_guard_off rfl rfl rfl rfl rfl ?_
          refine vo_guard_off rfl rfl rfl rfl rfl ?_
          refine vo_pick_t rfl rfl ?_
          refine vo_nil ?_
          refine hK9 _ ?_
          refine vc_cond_t rfl ?_
          refine vc_seq fun K12 hK12 => ?_
          refine vc_region ?_
          refine vo_move_pv rfl rfl ?_
          refine vo_move_pv rfl rfl ?_
          refine vo_binI rfl rfl rfl rfl trivial ?_
          refine vo_move_pv rfl rfl ?_
          refine vo_split 56 rfl (fun hg7 => ?_) (fun hg7 => ?_)
          · try simp only [zq0, zq1, zq2, zq3, zq4, zq5, zq6, zq7, zq8, zq9, zqa, zqb, zqc, zqd, zqe, zqf] at hg7
            refine vo_guard_on rfl rfl rfl ?_
            refine vo_load_varS rfl rfl rfl Try.underlying31 rfl inf31 sz31 rfl rfl ?_
            refine vo_guard_on rfl rfl rfl ?_
            refine vo_load_varS rfl rfl rfl Try.underlying31 rfl inf31 sz31 rfl rfl ?_
            refine vo_guard_on rfl rfl rfl ?_
            refine vo_eqS3 Q31 rfl rfl rfl ?_
            refine vo_pick_t rfl rfl ?_
            refine vo_assign_pv rfl rfl ?_
            refine vo_nil ?_
            refine hK12 _ ?_
            refine vc_ret ?_
            change retQ _ _ _ _ _
            refine retQ_sel [] (srows := []) (.inr rfl) hC rfl rfl rfl rfl rfl rfl rfl ?_
            first | exact ⟨rfl, rfl⟩ | exact absurd he9 (hj k9 (by omega)) | (exfalso; simp_all; done) | (refine ⟨(congrArg (fun b => [bo b]) (?_ : _ = true) : [bo _] = [bo true]), rfl⟩; first | simp_all | (simp; omega))
          · try simp only [zq0, zq1, zq2, zq3, zq4, zq5, zq6, zq7, zq8, zq9, zqa, zqb, zqc, zqd, zqe, zqf] at hg7
            refine vo_guard_off rfl rfl rfl rfl rfl ?_
            refine vo_guard_off rfl rfl rfl rfl rfl ?_
            refine vo_guard_off rfl rfl rfl rfl rfl ?_
            refine vo_pick_f rfl rfl ?_
            refine vo_assign_pv rfl rfl ?_
            refine vo_nil ?_
            refine hK12 _ ?_
            refine vc_ret ?_
            change retQ _ _ _ _ _
            refine retQ_sel [] (srows := []) (.inr rfl) hC rfl rfl rfl rfl rfl rfl rfl ?_
            first | exact ⟨rfl, rfl⟩ | exact absurd he9 (hj k9 (by omega)) | (exfalso; simp_all; done) | (refine ⟨(congrArg (fun b => [bo b]) (?_ : _ = true) : [bo _] = [bo true]), rfl⟩; first | simp_all | (simp; omega))
        · try simp only [zq0, zq1, zq2, zq3, zq4, zq5, zq6, zq7, zq8, zq9, zqa, zqb, zqc, zqd, zqe, zqf] at hg6
          refine vo_guard_on rfl rfl rfl ?_
          refine vo_move_pv rfl rfl ?_
          refine vo_guard_on rfl rfl rfl ?_
          refine vo_move_pv rfl rfl ?_
          refine vo_guard_on rfl rfl rfl ?_
          refine vo_binI rfl rfl rfl rfl trivial ?_
          refine vo_pick_f rfl rfl ?_
          refine vo_nil ?_
          refine hK9 _ ?_
          refine vc_cond rfl (fun hc8 => ?_) (fun hc8 => ?_)
          · try simp only [zq0, zq1, zq2, zq3, zq4, zq5, zq6, zq7, zq8, zq9, zqa, zqb, zqc, zqd, zqe, zqf] at hc8
            refine vc_seq fun K13 hK13 => ?_
            refine vc_region ?_
            refine vo_move_pv rfl rfl ?_
            refine vo_move_pv rfl rfl ?_
            refine vo_binI rfl rfl rfl rfl trivial ?_
            refine vo_move_pv rfl rfl ?_
            refine vo_split 56 rfl (fun hg9 => ?_) (fun hg9 => ?_)
            · try simp only [zq0, zq1, zq2, zq3, zq4, zq5, zq6, zq7, zq8, zq9, zqa, zqb, zqc, zqd, zqe, zqf] at hg9
              refine vo_guard_on rfl rfl rfl ?_
              refine vo_load_varS rfl rfl rfl Try.underlying31 rfl inf31 sz31 rfl rfl ?_
              refine vo_guard_on rfl rfl rfl ?_
              refine vo_load_varS rfl rfl rfl Try.underlying31 rfl inf31 sz31 rfl rfl ?_
              refine vo_guard_on rfl rfl rfl ?_
              refine vo_eqS3 Q31 rfl rfl rfl ?_
              refine vo_pick_t rfl rfl ?_
              refine vo_assign_pv rfl rfl ?_
              refine vo_nil ?_
              refine hK13 _ ?_
              refine vc_ret ?_
              change retQ _ _ _ _ _
              refine retQ_sel [] (srows := []) (.inr rfl) hC rfl rfl rfl rfl rfl rfl rfl ?_
              first | exact ⟨rfl, rfl⟩ | exact absurd he9 (hj k9 (by omega)) | (exfalso; simp_all; done) | (refine ⟨(congrArg (fun b => [bo b]) (?_ : _ = true) : [bo _] = [bo true]), rfl⟩; first | simp_all | (simp; omega))
            · try simp only [zq0, zq1, zq2, zq3, zq4, zq5, zq6, zq7, zq8, zq9, zqa, zqb, zqc, zqd, zqe, zqf] at hg9
              refine vo_guard_off rfl rfl rfl rfl rfl ?_
              refine vo_guard_off rfl rfl rfl rfl rfl ?_
              refine vo_guard_off rfl rfl rfl rfl rfl ?_
              refine vo_pick_f rfl rfl ?_
              refine vo_assign_pv rfl rfl ?_
              refine vo_nil ?_
              refine hK13 _ ?_
              refine vc_ret ?_
              change retQ _ _ _ _ _
              refine retQ_sel [] (srows := []) (.inr rfl) hC rfl rfl rfl rfl rfl rfl rfl ?_
              first | exact ⟨rfl, rfl⟩ | exact absurd he9 (hj k9 (by omega)) | (exfalso; simp_all; done) | (refine ⟨(congrArg (fun b => [bo b]) (?_ : _ = true) : [bo _] = [bo true]), rfl⟩; first | simp_all | (simp; omega))
          · try simp only [zq0, zq1, zq2, zq3, zq4, zq5, zq6, zq7, zq8, zq9, zqa, zqb, zqc, zqd, zqe, zqf] at hc8
            have hh : 0 ≤ (fndM W z y).1 := by omega
            obtain ⟨⟨hv, h0, h1⟩, _⟩ := fndM_in hh
            obtain ⟨k9, hk9, he9⟩ := find_base hh (by assumption)
            have hB3 : (W.bases.getD z.toNat []).length ≤ 3 := hb3 _ (getD_mem (by omega) _)
            refine vc_skip ?_
            refine hK8 _ ?_
            refine vc_seq fun K14 hK14 => ?_
            refine vc_seq fun K15 hK15 => ?_
            refine vc_region ?_
            refine vo_assign_pv rfl rfl ?_
            refine vo_nil ?_
            refine hK15 _ ?_
            refine vc_block ?_
            refine vc_stM ?_
            refine vc_loopE [3, 4, 5, 6, 7] [10] [] _ _ (fun mz vs rs => ∃ (k : Nat), mz = (W.bases.getD z.toNat []).length - k ∧ (k ≤ (W.bases.getD z.toNat []).length) ∧ (∀ j, j < k → fndM W ((W.bases.getD z.toNat []).getD j 0) y ≠ fndM W z y) ∧ vs = [i64 k] ∧ rs = []) ((W.bases.getD z.toNat []).length) rfl rfl (le_len hC rfl) ⟨rfl, rfl, rfl⟩ rfl ⟨0, rfl, Nat.zero_le _, (by intro j hj; omega), rfl, rfl⟩ ?_
            rintro mz vs rs - - ⟨k, rfl, hk, hj, rfl, rfl⟩
            refine vc_stM ?_
            refine vc_seq fun K16 hK16 => ?_
            refine vc_seq fun K17 hK17 => ?_
            refine vc_region ?_
            refine vo_move_pv rfl rfl ?_
            refine vo_fieldAddr_ptr rfl rfl Try.underlying27 rfl inf23 (by rw [sz23]; decide) ?_
            try simp only [Nat.zero_add]
            refine vo_load_var rfl rfl rfl Try.underlying23 rfl rfl ?_
            refine vo_move_pv rfl rfl ?_
            refine vo_index_pv (.sl none 1 []) rfl rfl rfl E23.und inf34 sz34 sd sd ?_
            simp only [Int.toNat_natCast, Int.toNat_zero, getD_ints, getD_intss, getD_bools, getD_bytes, PV.cells, getD_ops, getD_pairs, getD_insts, getD_attrs, getD_attrss, getD_objs, getD_ordP]
            refine vo_load_adr rfl rfl Try.underlying34 rfl ?_
            refine vo_len_pv rfl rfl Try.underlying34 ?_
            refine vo_binI rfl rfl rfl rfl trivial ?_
            refine vo_nil ?_
            refine hK17 _ ?_
            refine vc_cond rfl (fun hc10 => ?_) (fun hc10 => ?_)
            · try simp only [zq0, zq1, zq2, zq3, zq4, zq5, zq6, zq7, zq8, zq9, zqa, zqb, zqc, zqd, zqe, zqf] at hc10
              refine vc_skip ?_
              refine hK16 _ ?_
              refine vc_seq fun K18 hK18 => ?_
              refine vc_block ?_
              refine vc_seq fun K19 hK19 => ?_
              refine vc_drawBD [16] [0, 1, 2, 3, 4, 5, 6, 7, 8, 9, 10, 11, 12, 13, 14, 15, 16] [0, 1, 2, 3, 4, 5, 6, 7, 8, 9, 10, 11, 12, 14, 15, 13, 16] (by kernel_rfl) (by kernel_rfl) (by kernel_rfl) (by kernel_rfl) ?_
              change VLB [16] _ _ _ 17 _ _ _
              refine vb_light 0 [1, 2, 3, 4, 5, 6, 7, 8, 9, 14] rfl rfl rfl (by kernel_rfl) (by kernel_rfl) (by kernel_rfl) (by kernel_rfl) (by kernel_rfl) (wnt_none rfl) (lb_load_varS hC rfl rfl rfl rfl Try.underlying27 rfl inf27 sz27 rfl rfl) ?_
              refine vb_light0 1 rfl rfl rfl (by kernel_rfl) (by kernel_rfl) (by kernel_rfl) (wnt_none rfl) (l0_fieldAddr_ptr rfl Try.underlying27 rfl inf23 (by rw [sz23]; decide)) ?_
              try simp only [Nat.zero_add]
              refine vb_light 2 [0, 1, 3, 6, 9, 14] rfl rfl rfl (by kernel_rfl) (by kernel_rfl) (by kernel_rfl) (by kernel_rfl) (by kernel_rfl) (wnt_none rfl) (lb_load_var hC rfl rfl rfl rfl Try.underlying23 rfl rfl) ?_
              refine vb_light0 3 rfl rfl rfl (by kernel_rfl) (by kernel_rfl) (by kernel_rfl) (wnt_none rfl) (l0_move_pv rfl) ?_
              refine vb_light0 4 rfl rfl rfl (by kernel_rfl) (by kernel_rfl) (by kernel_rfl) (wnt_none rfl) (l0_index_pv (.sl none 1 []) rfl rfl E23.und inf34 sz34 sd sd) ?_
              simp only [Int.toNat_natCast, Int.toNat_zero, getD_ints, getD_intss, getD_bools, getD_bytes, PV.cells, getD_ops, getD_pairs, getD_insts, getD_attrs, getD_attrss, getD_objs, getD_ordP]
              refine vb_light 5 [0, 1, 2, 3, 4, 6, 9, 14] rfl rfl rfl (by kernel_rfl) (by kernel_rfl) (by kernel_rfl) (by kernel_rfl) (by kernel_rfl) (wnt_none rfl) (lb_load_adr hC rfl rfl Try.underlying34 rfl) ?_
              refine vb_light0 6 rfl rfl rfl (by kernel_rfl) (by kernel_rfl) (by kernel_rfl) (wnt_none rfl) (l0_move_pv rfl) ?_
              refine vb_light0 7 rfl rfl rfl (by kernel_rfl) (by kernel_rfl) (by kernel_rfl) (wnt_none rfl) (l0_index_pv (.int .i64 0) rfl rfl E34.und inf3 sz3 sd sd) ?_
              simp only [Int.toNat_natCast, Int.toNat_zero, getD_ints, getD_intss, getD_bools, getD_bytes, PV.cells, getD_ops, getD_pairs, getD_insts, getD_attrs, getD_attrss, getD_objs, getD_ordP]
              refine vb_light 8 [0, 1, 2, 3, 4, 5, 6, 7, 9, 14] rfl rfl rfl (by kernel_rfl) (by kernel_rfl) (by kernel_rfl) (by kernel_rfl) (by kernel_rfl) (wnt_none rfl) (lb_load_adr hC rfl rfl Try.underlying3 rfl) ?_
              refine vb_light0 9 rfl rfl rfl (by kernel_rfl) (by kernel_rfl) (by kernel_rfl) (wnt_none rfl) (l0_move_pv rfl) ?_
              refine vb_any2 10 14 (by kernel_rfl) ?_ ?_
              · refine sb_call 10 [] hC rfl rfl (wnt_none rfl) Try.func14 rfl rfl rfl rfl rfl rfl rfl (implFindIn_sat hW.sw) ?_
                rintro _ _ ⟨rfl, rfl⟩
                refine ⟨Nat.le_of_ble_eq_true rfl, ⟨rfl, rfl, rfl, rfl⟩, .inl rfl, ?_⟩
                refine vb_stM ?_
                refine vb_light0 11 rfl rfl rfl (by kernel_rfl) (by kernel_rfl) (by kernel_rfl) (wnt_none rfl) (l0_move ) ?_
                refine vb_stM ?_
                refine vb_light0 12 rfl rfl rfl (by kernel_rfl) (by kernel_rfl) (by kernel_rfl) (wnt_none rfl) (l0_extract rfl rfl) ?_
                refine vb_light0 13 rfl rfl rfl (by kernel_rfl) (by kernel_rfl) (by kernel_rfl) (wnt_none rfl) (l0_extract rfl rfl) ?_
                refine vb_ext 14 rfl (by kernel_rfl) rfl (xt_alloc Z31) ?_
                refine vb_stM ?_
                refine vb_light0 15 rfl rfl rfl (by kernel_rfl) (by kernel_rfl) (by kernel_rfl) (wnt_none rfl) (l0_assign_pv rfl) ?_
                refine vb_one 16 rfl (by kernel_rfl) rfl ?_
                refine vo_store_varS rfl rfl rfl inf31 sz31 rfl ?_
                refine vo_stM ?_
                refine vo_done ⟨rfl, ?_⟩
                refine vb_nil (by kernel_rfl) ?_
                refine hK19 _ ?_
                refine vc_seq fun K20 hK20 => ?_
                refine vc_region ?_
                refine vo_move_pv rfl rfl ?_
                refine vo_move_pv rfl rfl ?_
                refine vo_binI rfl rfl rfl rfl trivial ?_
                refine vo_move_pv rfl rfl ?_
                refine vo_split 88 rfl (fun hg11 => ?_) (fun hg11 => ?_)
                · try simp only [zq0, zq1, zq2, zq3, zq4, zq5, zq6, zq7, zq8, zq9, zqa, zqb, zqc, zqd, zqe, zqf] at hg11
                  refine vo_guard_on rfl rfl rfl ?_
                  refine vo_load_varS rfl rfl rfl Try.underlying31 rfl inf31 sz31 rfl rfl ?_
                  refine vo_guard_on rfl rfl rfl ?_
                  refine vo_load_varS rfl rfl rfl Try.underlying31 rfl inf31 sz31 rfl rfl ?_
                  refine vo_guard_on rfl rfl rfl ?_
                  refine vo_eqS3 Q31 rfl rfl rfl ?_
                  refine vo_pick_t rfl rfl ?_
                  refine vo_nil ?_
                  refine hK20 _ ?_
                  refine vc_cond rfl (fun hc12 => ?_) (fun hc12 => ?_)
                  · try simp only [zq0, zq1, zq2, zq3, zq4, zq5, zq6, zq7, zq8, zq9, zqa, zqb, zqc, zqd, zqe, zqf] at hc12
                    refine vc_seq fun K21 hK21 => ?_
                    refine vc_region ?_
                    refine vo_assign_pv rfl rfl ?_
                    refine vo_nil ?_
                    refine hK21 _ ?_
                    refine vc_ret ?_
                    change retQ _ _ _ _ _
                    refine retQ_sel [] (srows := []) (.inr rfl) hC rfl rfl rfl rfl rfl rfl rfl ?_
                    first | exact ⟨rfl, rfl⟩ | exact absurd he9 (hj k9 (by omega)) | (exfalso; simp_all; done) | (refine ⟨(congrArg (fun b => [bo b]) (?_ : _ = true) : [bo _] = [bo true]), rfl⟩; first | simp_all | (simp; omega))
                  · try simp only [zq0, zq1, zq2, zq3, zq4, zq5, zq6, zq7, zq8, zq9, zqa, zqb, zqc, zqd, zqe, zqf] at hc12
                    refine vc_skip ?_
                    refine hK18 _ ?_
                    refine vc_region ?_
                    refine vo_move_pv rfl rfl ?_
                    refine vo_binI rfl rfl rfl rfl sd ?_
                    refine vo_assign_pv rfl rfl ?_
                    refine vo_nil ?_
                    change againE _ _ _ _ _ _ _ _ _ _
                    refine againE_mk rfl rfl rfl rfl rfl rfl ⟨_, ?_, k + 1, rfl, ?_, ?_, rfl, rfl⟩
                    · omega
                    · omega
                    · intro j hj2; rcases Nat.lt_or_ge j k with h | h
                      · exact hj j h
                      · rw [show j = k by omega]; intro e; simp_all
                · try simp only [zq0, zq1, zq2, zq3, zq4, zq5, zq6, zq7, zq8, zq9, zqa, zqb, zqc, zqd, zqe, zqf] at hg11
                  refine vo_guard_off rfl rfl rfl rfl rfl ?_
                  refine vo_guard_off rfl rfl rfl rfl rfl ?_
                  refine vo_guard_off rfl rfl rfl rfl rfl ?_
                  refine vo_pick_f rfl rfl ?_
                  refine vo_nil ?_
                  refine hK20 _ ?_
                  refine vc_cond_f rfl ?_
                  refine vc_skip ?_
                  refine hK18 _ ?_
                  refine vc_region ?_
                  refine vo_move_pv rfl rfl ?_
                  refine vo_binI rfl rfl rfl rfl sd ?_
                  refine vo_assign_pv rfl rfl ?_
                  refine vo_nil ?_
                  change againE _ _ _ _ _ _ _ _ _ _
                  refine againE_mk rfl rfl rfl rfl rfl rfl ⟨_, ?_, k + 1, rfl, ?_, ?_, rfl, rfl⟩
                  · omega
                  · omega
                  · intro j hj2; rcases Nat.lt_or_ge j k with h | h
                    · exact hj j h
                    · rw [show j = k by omega]; intro e; simp_all
              · refine sb_ext 14 rfl rfl (xt_alloc Z31) ?_
                refine vb_stM ?_
                refine vb_any1 10 (by kernel_rfl) ?_
                refine sb_call 10 [] hC rfl rfl (wnt_none rfl) Try.func14 rfl rfl rfl rfl rfl rfl rfl (implFindIn_sat hW.sw) ?_
                rintro _ _ ⟨rfl, rfl⟩
                refine ⟨Nat.le_of_ble_eq_true rfl, ⟨rfl, rfl, rfl, rfl⟩, .inl rfl, ?_⟩
                refine vb_stM ?_
                refine vb_light0 11 rfl rfl rfl (by kernel_rfl) (by kernel_rfl) (by kernel_rfl) (wnt_none rfl) (l0_move ) ?_
                refine vb_stM ?_
                refine vb_light0 12 rfl rfl rfl (by kernel_rfl) (by kernel_rfl) (by kernel_rfl) (wnt_none rfl) (l0_extract rfl rfl) ?_
                refine vb_light0 13 rfl rfl rfl (by kernel_rfl) (by kernel_rfl) (by kernel_rfl) (wnt_none rfl) (l0_extract rfl rfl) ?_
                refine vb_light0 15 rfl rfl rfl (by kernel_rfl) (by kernel_rfl) (by kernel_rfl) (wnt_none rfl) (l0_assign_pv rfl) ?_
                refine vb_one 16 rfl (by kernel_rfl) rfl ?_
                refine vo_store_varS rfl rfl rfl inf31 sz31 rfl ?_
                refine vo_stM ?_
                refine vo_done ⟨rfl, ?_⟩
                refine vb_nil (by kernel_rfl) ?_
                refine hK19 _ ?_
                refine vc_seq fun K22 hK22 => ?_
                refine vc_region ?_
                refine vo_move_pv rfl rfl ?_
                refine vo_move_pv rfl rfl ?_
                refine vo_binI rfl rfl rfl rfl trivial ?_
                refine vo_move_pv rfl rfl ?_
                refine vo_split 88 rfl (fun hg13 => ?_) (fun hg13 => ?_)
                · try simp only [zq0, zq1, zq2, zq3, zq4, zq5, zq6, zq7, zq8, zq9, zqa, zqb, zqc, zqd, zqe, zqf] at hg13
                  refine vo_guard_on rfl rfl rfl ?_
                  refine vo_load_varS rfl rfl rfl Try.underlying31 rfl inf31 sz31 rfl rfl ?_
                  refine vo_guard_on rfl rfl rfl ?_
                  refine vo_load_varS rfl rfl rfl Try.underlying31 rfl inf31 sz31 rfl rfl ?_
                  refine vo_guard_on rfl rfl rfl ?_
                  refine vo_eqS3 Q31 rfl rfl rfl ?_
                  refine vo_pick_t rfl rfl ?_
                  refine vo_nil ?_
                  refine hK22 _ ?_
                  refine vc_cond rfl (fun hc14 => ?_) (fun hc14 => ?_)
                  · try simp only [zq0, zq1, zq2, zq3, zq4, zq5, zq6, zq7, zq8, zq9, zqa, zqb, zqc, zqd, zqe, zqf] at hc14
                    refine vc_seq fun K23 hK23 => ?_
                    refine vc_region ?_
                    refine vo_assign_pv rfl rfl ?_
                    refine vo_nil ?_
                    refine hK23 _ ?_
                    refine vc_ret ?_
                    change retQ _ _ _ _ _
                    refine retQ_sel [] (srows := []) (.inr rfl) hC rfl rfl rfl rfl rfl rfl rfl ?_
                    first | exact ⟨rfl, rfl⟩ | exact absurd he9 (hj k9 (by omega)) | (exfalso; simp_all; done) | (refine ⟨(congrArg (fun b => [bo b]) (?_ : _ = true) : [bo _] = [bo true]), rfl⟩; first | simp_all | (simp; omega))
                  · try simp only [zq0, zq1, zq2, zq3, zq4, zq5, zq6, zq7, zq8, zq9, zqa, zqb, zqc, zqd, zqe, zqf] at hc14
                    refine vc_skip ?_
                    refine hK18 _ ?_
                    refine vc_region ?_
                    refine vo_move_pv rfl rfl ?_
                    refine vo_binI rfl rfl rfl rfl sd ?_
                    refine vo_assign_pv rfl rfl ?_
                    refine vo_nil ?_
                    change againE _ _ _ _ _ _ _ _ _ _
                    refine againE_mk rfl rfl rfl rfl rfl rfl ⟨_, ?_, k + 1, rfl, ?_, ?_, rfl, rfl⟩
                    · omega
                    · omega
                    · intro j hj2; rcases Nat.lt_or_ge j k with h | h
                      · exact hj j h
                      · rw [show j = k by omega]; intro e; simp_all
                · try simp only [zq0, zq1, zq2, zq3, zq4, zq5, zq6, zq7, zq8, zq9, zqa, zqb, zqc, zqd, zqe, zqf] at hg13
                  refine vo_guard_off rfl rfl rfl rfl rfl ?_
                  refine vo_guard_off rfl rfl rfl rfl rfl ?_
                  refine vo_guard_off rfl rfl rfl rfl rfl ?_
                  refine vo_pick_f rfl rfl ?_
                  refine vo_nil ?_
                  refine hK22 _ ?_
                  refine vc_cond_f rfl ?_
                  refine vc_skip ?_
                  refine hK18 _ ?_
                  refine vc_region ?_
                  refine vo_move_pv rfl rfl ?_
                  refine vo_binI rfl rfl rfl rfl sd ?_
                  refine vo_assign_pv rfl rfl ?_
                  refine vo_nil ?_
                  change againE _ _ _ _ _ _ _ _ _ _
                  refine againE_mk rfl rfl rfl rfl rfl rfl ⟨_, ?_, k + 1, rfl, ?_, ?_, rfl, rfl⟩
                  · omega
                  · omega
                  · intro j hj2; rcases Nat.lt_or_ge j k with h | h
                    · exact hj j h
                    · rw [show j = k by omega]; intro e; simp_all
            · try simp only [zq0, zq1, zq2, zq3, zq4, zq5, zq6, zq7, zq8, zq9, zqa, zqb, zqc, zqd, zqe, zqf] at hc10
              refine vc_exit ?_
              refine hK14 _ ?_
              refine vc_seq fun K24 hK24 => ?_
              refine vc_region ?_
              refine vo_assign_pv rfl rfl ?_
              refine vo_nil ?_
              refine hK24 _ ?_
              refine vc_ret ?_
              change retQ _ _ _ _ _
              refine retQ_sel [] (srows := []) (.inr rfl) hC rfl rfl rfl rfl rfl rfl rfl ?_
              first | exact ⟨rfl, rfl⟩ | exact absurd he9 (hj k9 (by omega)) | (exfalso; simp_all; done) | (refine ⟨(congrArg (fun b => [bo b]) (?_ : _ = true) : [bo _] = [bo true]), rfl⟩; first | simp_all | (simp; omega))


end Go.Vl
